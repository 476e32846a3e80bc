import PyProof.Rows.All
import Wide.All
import OpenK.AllK
import Wide.FinOn
import KE.KExcInit
import KE.KExcTry
import KE.KExcStr
import KE.KExcIs
import KE.RegKIsAll
import KE.KExcSuper
import KE.KEqDeep
import HandS.ExcInit
import HandS.ExcField
import HandS.Defaults
import HandS.IsInst
import HandS.Words
import KE.KIsAll
import HandS.Ends
import HandS.More
import HandS.Style
import HandS.NoneIn
import HandS.Property
import HandS.Wide
import HandS.Star
import HandS.Evl
import HandS.Text
import KE.DataMinMax
import HandS.Iter
import HandS.Walk
import KE.GoesNew
import HandS.SlotsOwn
import HandS.MakeKwOnly
import HandS.Replace
import HandS.HeadHook3
import HandS.HeadNt
import HandS.Head0
import HandS.Head1
import HandS.Head2
import HandS.Head3
import HandS.HeadEnd
import HandS.New
import HandS.Comp
import HandS.List
import HandS.Gcd
import HandS.Dict
import HandS.Deep
import HandS.Conv
import HandS.TupSets
import KE.KDictDisplayH
import KE.KSortTupG
import PyProof.StrLoop
import KE.KIndexOf
import HandS.WideBits
import HandS.StrMore
import KE.KRevSl
import HandS.TupAny
import PySem.Challenge.RW_arrowtrios_k52_whole_own_namings_of_kind
set_option Elab.async false
set_option linter.all false
set_option maxRecDepth 100000
set_option maxHeartbeats 0
namespace ErrKw
open PySem PySem.W PySem.Calls PyProof.Rows PySem.PX
/-- what is laid by the class's __new__: no args, and the exception itself -/
abbrev bare (C t : Addr) : Obj := excObj C t none .none
section
variable {w : World} {A : Around} {prog : Program}
variable {R : Result → Shared → Prop} {h : Heap} {g : Array GenState} {d : Drawn} {t : Nat} {os : OsState}
variable {nm q : Str} {C N : Addr} {bs bm tail : List Value} {hasD : Bool} {sn : List Str} {sub : List Value} {ab : Bool} {col : Option Bool} {dd : Option Addr} {k0 k1 k2 k3 k5 : Option Value} {B newId initId : String} {kws : List (Str × Value)}
theorem says (e : ∀ X : String, bm.contains (.type X) = tail.contains (.type X)) (X : String) {b : Bool} (i : tail.contains (.type X) = b) : (Value.ref C :: bm).contains (.type X) = b := by
  show ((Value.type X == Value.ref C) || bm.contains (.type X)) = b
  rw [e X, i]
  cases b <;> rfl
theorem look (F : ExcBaseFacts B newId initId tail) (e : ∀ X : String, bm.contains (.type X) = tail.contains (.type X)) (at_ : h.get? C = some (excClassObj nm q C N bs bm hasD sn sub ab col dd k0 k1 k2 k3 k5 newId))
    {Q : Unit → Shared → Prop} {E : Value → Shared → Prop} {M : Model} (go : Q () ⟨h, g, d, t, os⟩) : wpAny M A (checkBuiltinCall newId ⟨[.ref C], kws⟩) Q E ⟨h, g, d, t, os⟩ := by
  have s1 := says (C := C) e B F.hasB
  have s2 := F.noStar
  unfold checkBuiltinCall
  rw [F.newKind, F.newSplit, F.newRow]
  repeat' first
    | exact go
    | with_reducible refine wpAny_loadPart_at at_ ?_
    | (with_reducible refine wpAny_isSubtype_exc at_ ?_; rw [s1])
    | with_reducible refine wpAny_staticBase_exc at_ ?_
    | with_reducible refine wpAny_madeBy_exc at_ ?_
    | wp_step
    | simp only [bne_self_eq_false, Bool.false_eq_true, if_false]
theorem lays (F : ExcBaseFacts B newId initId tail) (e : ∀ X : String, bm.contains (.type X) = tail.contains (.type X)) (at_ : h.get? C = some (excClassObj nm q C N bs bm hasD sn sub ab col dd k0 k1 k2 k3 k5 newId))
    (go : R (.ok (.ret (.ref (h.objs.size + 1)))) ⟨(h.push (excTup [])).push (bare C h.objs.size), g, d, t, os⟩) : codeAny (model prog w) A (.builtin newId ⟨[.ref C], kws⟩) R ⟨h, g, d, t, os⟩ := by
  have s0 := F.ends
  have s1 := says (C := C) e B F.hasB
  have s2 := says (C := C) e "AttributeError" F.noAttr
  have s3 := says (C := C) e "NameError" F.noName
  refine codeAny_builtinAt F.entry (PySem.wpAt_bind ?_)
  show PySem.wpAt _ _ _ (stack >>= _) _ _ _
  refine PySem.wpAt_bind (PySem.wpAt_stack fun _ _ => PySem.wpAt_of_wpAny ?_)
  wp_walk
  rw [F.owner]
  refine PySem.wpAt_of_wpAny ?_
  repeat' first
    | with_reducible refine wpAny_madeHere_exc F.canon at_ ?_
    | with_reducible refine wpAny_loadPart_at at_ ?_
    | (with_reducible refine wpAny_isSubtype_exc at_ ?_; first | rw [s1] | rw [s2] | rw [s3])
    | wp_step
  show R _ ⟨_, _, _, _, _⟩
  rw [Heap.size_push]
  exact go
/-- type.__call__ of it -/
theorem made (F : ExcBaseFacts B newId initId tail) (e : ∀ X : String, bm.contains (.type X) = tail.contains (.type X)) (at_ : h.get? C = some (excClassObj nm q C N bs bm hasD sn sub ab col dd k0 k1 k2 k3 k5 newId)) {fI : Addr} {Q : Fin → Shared → Prop} {E : Value → Shared → Prop}
    (own : Looks (model prog w) h (typeLookup (.ref C) "__init__") (some (.ref fI))) (bnd : ∀ x, Looks (model prog w) h (bindSpecial (.ref fI) x) (.ref fI, [x]))
    (go : codeAny (model prog w) A (.call (.ref fI) ⟨[.ref (h.objs.size + 1)], kws⟩) (InitBack (h.objs.size + 1) fun r s' => match r with | .ok f => Q (.done f) s' | .error x => E x s') ⟨(h.push (excTup [])).push (bare C h.objs.size), g, d, t, os⟩) :
    wpAny (model prog w) A (Builtin.«type.__call__» ⟨[.ref C], kws⟩) Q E ⟨h, g, d, t, os⟩ := by
  repeat' first
    | with_reducible refine wpAny_loadPart_at at_ ?_
    | with_reducible refine wpAny_madeBy_exc at_ ?_
    | wp_step
  refine codeAny_call_builtin_code (Code.quiet_builtin _ F.quiet) (look F e at_ (lays F e at_ ?_))
  show wpAny _ _ _ _ _ ⟨_, _, _, _, _⟩
  generalize hh : (h.push (excTup [])).push (bare C h.objs.size) = h2 at go ⊢
  have keep : ∀ b o, h.get? b = some o → h2.get? b = some o := fun b o z => by rw [← hh]; exact Heap.get?_push_of_some _ (Heap.get?_push_of_some _ z)
  have new : h2.get? (h.objs.size + 1) = some (bare C h.objs.size) := by rw [← hh]; heap_get
  have c2 := keep _ _ at_
  have me : (Value.ref C :: bm).contains (.ref C) = true := by simp
  unfold isInstance
  repeat' first
    | with_reducible refine wpAny_loadPart_at new ?_
    | (with_reducible refine wpAny_isSubtype_exc c2 ?_; rw [me])
    | wp_step
  show wpAny _ _ (typeLookup (.ref C) "__init__") _ _ _
  refine (own.keeps keep).at (wpAny_holding (wpAny_bind (((bnd _).keeps keep).at (wpAny_bind (wpAny_call (codeAny_mono go fun r s' z => ?_))))))
  match r, z with
  | .error _, z => exact z
  | .ok (.ret v), z =>
    obtain ⟨rfl, z⟩ := z
    wp_walk
    exact z
/-- C(k = v, ..) -/
theorem called (F : ExcBaseFacts B newId initId tail) (e : ∀ X : String, bm.contains (.type X) = tail.contains (.type X)) (at_ : h.get? C = some (excClassObj nm q C N bs bm hasD sn sub ab col dd k0 k1 k2 k3 k5 newId)) {fI : Addr}
    (own : Looks (model prog w) h (typeLookup (.ref C) "__init__") (some (.ref fI))) (bnd : ∀ x, Looks (model prog w) h (bindSpecial (.ref fI) x) (.ref fI, [x]))
    (go : codeAny (model prog w) (A.under (.builtin "type.__call__" ⟨[.ref C], kws⟩)) (.call (.ref fI) ⟨[.ref (h.objs.size + 1)], kws⟩) (InitBack (h.objs.size + 1) R) ⟨(h.push (excTup [])).push (bare C h.objs.size), g, d, t, os⟩) :
    codeAny (model prog w) A (.call (.ref C) ⟨[], kws⟩) R ⟨h, g, d, t, os⟩ := by
  have l1 := tc_lookup
  have l2 := tc_bind (.ref C)
  have l3 := tc_sub
  have ty : (⟨h, g, d, t, os⟩ : Shared).TypeIs (.ref C) "type" := ⟨_, at_, rfl⟩
  refine codeAny_of_tree (show wpAny _ _ (callAny (.ref C) _) _ _ _ from ?_)
  repeat' first
    | assumption
    | with_reducible refine wpAny_loadPart_at at_ ?_
    | wp_step
  refine ⟨rfl, codeAny_call_builtin_at (Code.quiet_builtin _ (by decide +kernel)) entry_typeCall (check_slot tc_kind tc_split ?_ (tc_args _ _ _) (made F e at_ own bnd (codeAny_mono go fun r s' z => ?_)))⟩
  · intro A1 Q1 E1 s1 k1 go1
    obtain ⟨h1, _, _, _, _⟩ := s1
    have c1 : h1.get? C = _ := k1 _ _ at_
    have ty1 := c1
    unfold isInstance
    repeat' first
      | assumption
      | with_reducible refine wpAny_loadPart_at c1 ?_
      | wp_step
  · match r, z with
    | .error _, z => exact z
    | .ok (.ret _), z => exact z
variable {L : Addr} {h₀ : Heap} {m : Str → Option Value} {news : List (Addr × Obj)} {s : Shared} {K : Frag} {E : Value → Shared → Prop}
/-- the same, as the walk wants it: own class, own __init__, keywords alone -/
theorem call_ {fI : Addr} {Q : Value → Shared → Prop} (F : Fr h₀ L s.heap m) (X₀ : K.In h₀) (N' : News h₀ L s.heap news) (FB : ExcBaseFacts B newId initId tail) (own : findIn K (.ref C) "__init__" = some (some (.ref fI)))
    (is : excInitIn K C tail newId = true) (fn : isFn K (.ref fI) = true)
    (go : ∀ e t h', Fr h₀ L h' m → News h₀ L h' ((e, bare C t) :: (t, excTup []) :: news) → AllNe e news → AllNe t news → e ≠ t →
      codeAny (model prog w) (A.under (.builtin "type.__call__" ⟨[.ref C], kws⟩)) (.call (.ref fI) ⟨[.ref e], kws⟩) (InitBack e fun r s' => match r with | .ok (.ret v) => Q v s' | .ok _ => False | .error x => E x s') { s with heap := h' }) :
    wpAny (model prog w) A (call (.ref C) [] kws) Q E s := by
  have X := X₀.keeps F.keep
  obtain ⟨_, _, _, _, _, _, _, _, _, _, _, _, _, _, _, _, q⟩ := excInit_of X is
  obtain ⟨at_, e⟩ := q
  obtain ⟨oI, i1, i2⟩ := Option.map_eq_some_iff.mp (beq_iff_eq.mp (show (K.lookup fI).map (·.cls) == some (.type "function") from fn))
  obtain ⟨F2, N2, n1, n2⟩ := exc_two (o1 := excTup []) (o2 := bare C s.heap.objs.size) F N' rfl rfl
  have own' : Looks (model prog w) s.heap (typeLookup (.ref C) "__init__") (some (.ref fI)) := looks_findIn X own
  obtain ⟨hh, _, _, _, _⟩ := s
  exact wpAny_call (called FB e at_ own' (fun x => exc_bind (X _ _ i1) i2 x) (go _ _ _ F2 N2 n1 n2 (Nat.succ_ne_self _)))
end
end ErrKw

namespace EX
open L2 PyProof.Rows PySem.Spec PySem
/-- what the head tells of an own class of errors over a built-in one -/
structure XC (K : PySem.W.Frag) (C : Addr) (newId : String) (tail : List Value) : Prop where
  is : PySem.W.excInitIn K C tail newId = true
  over : PySem.W.excOver K C tail = true
  sa : PySem.W.findIn K (.ref C) "__setattr__" =
    some (some (.builtin "object.__setattr__"))
  rd : XfC K C
  keep : PySem.W.keepIn K (.ref C) = true
def xcB (K : PySem.W.Frag) (C : Addr) (newId : String) (tail : List Value) : Bool :=
  PySem.W.excInitIn K C tail newId && (PySem.W.excOver K C tail && (decide (PySem.W.findIn K (.ref C) "__setattr__" = some (some (.builtin "object.__setattr__"))) && (xfB K C && PySem.W.keepIn K (.ref C))))
theorem xcB_ok {K : PySem.W.Frag} {C : Addr} {newId : String} {tail : List Value} (h : xcB K C newId tail = true) : XC K C newId tail := by
  unfold xcB at h
  simp only [decide_eq_true_eq, Bool.and_eq_true] at h
  obtain ⟨a, b, c, d, e⟩ := h
  exact ⟨a, b, c, xfB_ok d, e⟩
section
variable {X : Cx} {pins : List (Addr × Obj)} {σ : L2.St} {H : Hp} {s : Shared} {a C : Addr} {f : Str} {y : V} {u : Value} {Q : Unit → Shared → Prop} {E : Value → Shared → Prop} {A : Around} {B newId : String} {tail : List Value}
/-- self.f = y, where self is new -/
theorem first (SF : StoreFacts B tail "object.__setattr__" "object") (T : XC X.K C newId tail) (tk : PySem.W.takerIn X.K C f = some none) (I : Inv X pins σ H s) (e : H a = some (exo a C none)) (ry : RelV y u)
    (go : ∀ dx s', H dx = none → dx ≠ a → Inv X pins σ (upd (upd H dx (exd dx [(f, y)])) a (exo a C (some dx))) s' → Q () s') : wpAny (model X.prog X.w) A (setAttr (.ref a) f u) Q E s := by
  obtain ⟨t1, at_⟩ := exo_at I.hok e
  refine PySem.W.set_plain (od := none) I.kIn ⟨at_, rfl, rfl, trivial⟩ T.sa (PySem.W.osa_openX (od := none) SF I.kIn ⟨at_, rfl, rfl, trivial⟩ T.over tk fun b => ?_)
  obtain ⟨cd, c1, c2⟩ := PySem.W.any_some T.rd.hdC
  obtain ⟨hp, g, d, t, os⟩ := s
  refine wpAny_bind (wpAny_pure (wpAny_bind (PySem.W.instanceDict_exc at_ (PySem.W.looks_clsIn I.kIn c1) c2 ?_)))
  show wpAny _ _ (Builtin.ObjectAttr.storeInDict hp.objs.size (.str f _) f u) _ _ _
  have la : a < hp.objs.size := Heap.lt_size at_
  have p1 : (hp.push (PySem.W.dictOf [] 0)).get? hp.objs.size = some (PySem.W.dictOf [] 0) := Heap.get?_push_size _ rfl
  refine HandSPX.store_in_new ⟨_, #[], 0, Heap.get?_update_of_ne _ (Nat.ne_of_lt la) p1, rfl, fun _ z => absurd z (by simp), fun _ => rfl⟩ fun h' tk' n1 sb => ?_
  -- as if the dict had been laid as it is in the end, and then the exception written
  obtain ⟨oD, eD⟩ : ∃ oD, h'.get? hp.objs.size = some oD := by
    obtain ⟨o, _, _, z, _⟩ := n1
    exact ⟨o, z⟩
  have alive : oD.isFreed = false := (Heap.get?_some_iff.mp eD).2
  have i1 : (hp.push oD).get? hp.objs.size = some oD := Heap.get?_push_size _ alive
  have rest : ∀ b, b ≠ a → b ≠ hp.objs.size → h'.get? b = hp.get? b := fun b n1 n2 =>
    (sb.2 b n2).trans ((Heap.get?_update_ne _ _ _ _ n1).trans (Heap.get?_push_ne _ _ _ n2))
  have J := I.laid (t' := t) (a := hp.objs.size) (o := exd hp.objs.size [(f, y)]) (h' := hp.push oD) (fun b o z => Heap.get?_push_of_some _ z) (Nat.le_refl _)
    (exd_ok (n1.at fun o z => by rw [i1, ← z, eD]) (relO_put (fs := []) ry fun _ => True.intro))
  have ea : upd H hp.objs.size (exd hp.objs.size [(f, y)]) a = some (exo a C none) := (upd_ne (Nat.ne_of_lt la)).trans e
  have new : h'.get? a = some ({ cls := .ref C, dict := some hp.objs.size, data := .fields #[.ref t1, .none, .none, .none, .bool false, .none] } : Obj) :=
    (sb.2 a (Nat.ne_of_lt la)).trans (Heap.get?_update_self _ (Heap.get?_push_of_some _ at_) rfl)
  have J2 := J.write (t' := tk') (x := a) (e := a) (o := exo a C (some hp.objs.size)) (h' := h') (by rw [ea]; exact True.intro) (.inl rfl)
    (fun b o n z => by
      rcases Heap.get?_push_cases z with ⟨rfl, rfl⟩ | z
      · exact eD
      · exact (rest b n (Nat.ne_of_lt (Heap.lt_size z))).trans z) ⟨_, new⟩ (exo_ok new)
  exact go _ _ (I.hok.fresh (Nat.le_refl _)) (Nat.ne_of_gt la) J2
/-- self.f = e of a new exception -/
def tFirst (K : PySem.W.Frag) (newId : String) (tail : List Value) (f : Str) (te to : TE) : TS := fun D σ H => te σ H fun y H1 => to σ H1 fun x H2 => ∃ a C, x = V.ref a ∧ XC K C newId tail ∧ PySem.W.takerIn K C f = some none ∧ H2 a = some (exo a C none) ∧
  ∀ dx, H2 dx = none → dx ≠ a → D.nx σ (upd (upd H2 dx (exd dx [(f, y)])) a (exo a C (some dx)))
theorem ps_first {e o : Expr} {te to : TE} {q pos : Pos} (SF : StoreFacts B tail "object.__setattr__" "object") (he : PE X e te) (ho : PE X o to) (sw : swapsWith e (some (.Attribute o f q)) pos.line X.env = pure false := by rfl) :
    PS X (.Assign [.Attribute o f q] e pos) (tFirst X.K newId tail f te to) where
  run := by
    intro pins s σ H D I h
    refine plainObj_wpAny_Assign_Attribute (thn (he.run pins s σ H _ I h) fun v s1 hv => ?_) sw
    obtain ⟨y, H1, I1, ry, h1⟩ := hv
    refine thn (ho.run pins s1 σ H1 _ I1 h1) fun v2 s2 hv2 => ?_
    obtain ⟨_, H2, I2, rx, a, C, rfl, T, tk, e2, h2⟩ := hv2
    cases rx
    exact first SF T tk I2 e2 ry fun dx s3 n1 n2 J => ⟨σ, _, J, h2 dx n1 n2⟩
/-- what an __init__ that keeps one argument promises -/
def spIni (K : PySem.W.Frag) (newId : String) (tail : List Value) (f : Str) : Sp := fun vs H Q _ => ∃ a C v, vs = [V.ref a, v] ∧ XC K C newId tail ∧ PySem.W.takerIn K C f = some none ∧ H a = some (exo a C none) ∧
  ∀ dx, H dx = none → dx ≠ a → Q .non (upd (upd H dx (exd dx [(f, v)])) a (exo a C (some dx)))
end
section
variable {P : Program} {w : World} {K : PySem.W.Frag} {mg : Str → Option Value} {base : Heap} {B newId : String} {tail : List Value}
theorem ini {st : Stmt} {q x f : Str} {p1 p2 p3 p4 : Pos} {fI : Addr} {fd : FuncData} (sc : FnScope ["self", x] ["self", x] (defScope st)) (v1 : Vis (defScope st) "self") (v2 : Vis (defScope st) x) (d1 : (x == ("__debug__" : Str)) = false) (d2 : (x == ("__classdict__" : Str)) = false)
    (hb : defBody st = [.Assign [.Attribute (.Name "self" p1) f p2] (.Name x p3) p4]) (F : FunD K "__init__" q (defArgs st) (defBody st) (defScope st) [] [] fI fd) (SF : StoreFacts B tail "object.__setattr__" "object") :
    FnOk P w K mg base CX0 1 fI fd ["self", x] (spIni K newId tail f) := by
  refine F.ok sc (fun vs H Q E h => ?_) fun cdv A outer s H vs Q E hr h => ⟨tFirst K newId tail f (tVar 1) (tVar 0), ?_, ?_⟩
  · obtain ⟨_, _, _, rfl, _⟩ := h
    rfl
  · rw [hb]
    exact PSs.nox (pss_one (ps_first SF (pv 1 rfl v2 d1 d2) (pv 0 rfl v1)))
  · obtain ⟨a, C, v, rfl, T, tk, e, go⟩ := h
    exact ⟨v, rfl, .ref a, rfl, a, C, rfl, T, tk, e, go⟩
end
/-! ### C(..): laid, then its __init__ -/
section
variable {X : Cx} {pins : List (Addr × Obj)} {σ : L2.St} {B newId initId : String} {tail : List Value} {C fI : Addr} {k : Nat} {fd : FuncData} {ps : List Str} {sp : Sp}
/-- what is asked of the arguments vs -/
def rNew (C : Addr) (sp : Sp) : List V → Hp → VK → Prop := fun vs H Q => ∀ a, H a = none → sp (.ref a :: vs) (upd H a (exo a C none)) (fun v H2 => v = .non ∧ Q (.ref a) H2) fun _ _ _ => False
theorem inside {H : Hp} {Q : VK} {us ws : List Value} {vs : List V} {kws : List (Str × Value)} {hp : Heap} {g : Array GenState} {d : Drawn} {t : Nat} {os : OsState} {args : List Value} (F : FnOk X.prog X.w X.K X.mg X.base CX0 k fI fd ps sp) (hr : Room (k + 1) X.A)
    (bt : ∀ (s : Shared) (e : Value), X.K.In s.heap → BindsTo s fd ⟨e :: us, kws⟩ (ps.zip (e :: ws))) (I : Inv X pins σ H ⟨hp, g, d, t, os⟩) (r : Vals vs ws) (q : rNew C sp vs H Q) :
    codeAny (model X.prog X.w) (X.A.under (.builtin "type.__call__" ⟨.ref C :: us, kws⟩)) (.call (.ref fI) ⟨.ref (hp.objs.size + 1) :: us, kws⟩)
      (PySem.W.InitBack (hp.objs.size + 1) fun r s' => match r with | .ok (.ret v) => EP X pins σ Q v s' | .ok _ => False | .error x => X.xe x s') ⟨(hp.push (PySem.W.excTup args)).push (PySem.W.excObj C hp.objs.size none .none), g, d, t, os⟩ := by
  have up : hp.objs.size ≤ hp.objs.size + 1 := Nat.le_succ _
  have at_ : ((hp.push (PySem.W.excTup args)).push (PySem.W.excObj C hp.objs.size none .none)).get? (hp.objs.size + 1) = some (PySem.W.excObj C hp.objs.size none .none) := by heap_get
  have J := I.laid (t' := t) (a := hp.objs.size + 1) (o := exo (hp.objs.size + 1) C none) (h' := (hp.push (PySem.W.excTup args)).push (PySem.W.excObj C hp.objs.size none .none))
    (fun b o z => Heap.get?_push_of_some _ (Heap.get?_push_of_some _ z)) up (exo_ok at_)
  have rr : Vals (V.ref (hp.objs.size + 1) :: vs) (Value.ref (hp.objs.size + 1) :: ws) := .cons rfl r
  refine codeAny_mono (F.run _ X.stack _ _ _ _ _ _ _ (hr.make C us kws) (J.env0.make C us kws) (bt _ _ J.kIn) rr (q _ (I.hok.fresh up))) fun res s' z => ?_
  match res, z with
  | .ok (.ret u), z =>
    obtain ⟨v, H2, J2, rv, rfl, q2⟩ := J.after z
    cases rv
    exact ⟨rfl, .ref _, H2, J2, rfl, q2⟩
variable {e : Expr} {es : List Expr} {kws : List Keyword} {x : Str} {ta : TA} {p pos : Pos}
/-- C(e, ..) -/
theorem pe_new (FB : ExcBaseFacts B newId initId tail) (T : XC X.K C newId tail) (iC : PySem.W.findIn X.K (.ref C) "__init__" = some (some (.ref fI))) (tI : PySem.W.typeIn X.K (.ref fI) = some (.type "function")) (F : FnOk X.prog X.w X.K X.mg X.base CX0 k fI fd ps sp) (hr : Room (k + 1) X.A)
    (hb : Binds X.K fd ps []) (hg : Gl X x) (hm : X.mg x = some (.ref C)) (ha : PA X (e :: es) ta) (hd : (x == ("__debug__" : Str)) = false := by decide)
    (hpl : (backTo pos (starEach es X.env)).any (·.1) = false := by rfl) (he : starEach (e :: es) X.env = (false, eval e X.env) :: starEach es X.env := by rfl) :
    PE X (.Call (.Name x p) (e :: es) [] pos) (fun σ H Q => ta σ H (fun vs H1 => vs.length ≤ 1000 ∧ rNew C sp vs H1 Q)) where
  run := by
    intro pins s σ H Q I h
    refine wpAny_Call_Name_kw (ld_glob I hg hm (PySem.W.callWith_K (h₀ := X.base) I.ok.mod.kin T.keep (thn (ha.run pos pins s σ H _ I h) fun us s1 z => ?_) he hpl) hd)
    obtain ⟨vs, H1, J, r, l, q⟩ := z
    refine ⟨J.kIn, ?_⟩
    obtain ⟨_, _, _, _, _, _, _, _, _, _, _, _, _, _, _, _, c1, c2⟩ := PySem.W.excInit_of J.kIn T.is
    obtain ⟨hp, _, _, _, _⟩ := s1
    have small : us.length ≤ sizeLine := by rw [← r.length, sizeLine_eq]; omega
    have full : ∀ a : Addr, H1 a = none → vs.length + 1 = ps.length := fun a na => F.len _ _ _ _ (q a na)
    have fresh : H1 hp.objs.size = none := J.hok.fresh (Nat.le_refl _)
    refine wpAny_call (codeAny_mono (PySem.PX.call_own FB c2 c1 (PySem.W.looks_findIn J.kIn iC) (fun self => PySem.W.bind_fn J.kIn self tI) small (inside F hr (ws := us) (fun s2 e2 k2 => ?_) J r q)) fun res s2 z => ?_)
    · have := hb s2 (e2 :: us) k2 (by rw [List.append_nil, List.length_cons, ← r.length]; exact full _ fresh)
      rw [List.append_nil] at this
      exact this
    · exact z
/-- C(k = e) -/
theorem pe_newK {y : Str} {tk : TA} (FB : ExcBaseFacts B newId initId tail) (T : XC X.K C newId tail) (iC : PySem.W.findIn X.K (.ref C) "__init__" = some (some (.ref fI))) (tI : PySem.W.typeIn X.K (.ref fI) = some (.type "function")) (F : FnOk X.prog X.w X.K X.mg X.base CX0 k fI fd ps sp) (hr : Room (k + 1) X.A)
    (bk : ∀ (s : Shared) (e w : Value), BindsTo s fd ⟨[e], [(y, w)]⟩ (ps.zip [e, w])) (hg : Gl X x) (hm : X.mg x = some (.ref C)) (hk : PK X kws tk) (hd : (x == ("__debug__" : Str)) = false := by decide)
    (h1 : (backToKw pos (keywordEach kws X.env)).all (·.1.isSome) = true := by rfl) (h2 : (backToKw pos (keywordEach kws X.env)).filterMap (·.1) = [y] := by rfl)
    (h3 : ((backTo pos (starEach [] X.env)).any (·.1) || (backToKw pos (keywordEach kws X.env)).any (·.1.isNone)) = false := by rfl) :
    PE X (.Call (.Name x p) [] kws pos) (fun σ H Q => tk σ H (fun vs H1 => vs.length = 1 ∧ rNew C sp vs H1 Q)) where
  run := by
    intro pins s σ H Q I h
    refine wpAny_Call_Name_kw (ld_glob I hg hm (PySem.W.callWith_KW0 (h₀ := X.base) I.ok.mod.kin T.keep h1 (thn (hk.run pos pins s σ H _ I h) fun us s1 z => ?_) h3) hd)
    obtain ⟨vs, H1, J, r, l, q⟩ := z
    refine ⟨J.kIn, ?_⟩
    rw [h2]
    obtain ⟨_, _, _, _, _, _, _, _, _, _, _, _, _, _, _, _, c1, c2⟩ := PySem.W.excInit_of J.kIn T.is
    obtain ⟨hp, _, _, _, _⟩ := s1
    obtain ⟨u, rfl⟩ : ∃ u, us = [u] := by
      have n : us.length = 1 := r.length.symm.trans l
      match us, n with
      | [u], _ => exact ⟨u, rfl⟩
    exact wpAny_call (codeAny_mono (ErrKw.called FB c2 c1 (PySem.W.looks_findIn J.kIn iC) (fun self => PySem.W.bind_fn J.kIn self tI) (inside F hr (ws := [u]) (us := []) (fun s2 e2 _ => bk s2 e2 u) J r q)) fun res s2 z => z)
/-- C() -/
theorem pe_new0 (FB : ExcBaseFacts B newId initId tail) (T : XC X.K C newId tail) (iC : PySem.W.findIn X.K (.ref C) "__init__" = some (some (.ref fI))) (tI : PySem.W.typeIn X.K (.ref fI) = some (.type "function")) (F : FnOk X.prog X.w X.K X.mg X.base CX0 k fI fd ["self"] sp) (hr : Room (k + 1) X.A)
    (hb : Binds X.K fd ["self"] []) (hg : Gl X x) (hm : X.mg x = some (.ref C)) (hd : (x == ("__debug__" : Str)) = false := by decide) :
    PE X (.Call (.Name x p) [] [] pos) (fun _ H Q => rNew C sp [] H Q) where
  run := by
    intro pins s σ H Q J q
    refine wpAny_Call_Name_kw (ld_glob J hg hm (PySem.W.callWith_K0 J.kIn T.keep ?_) hd)
    obtain ⟨_, _, _, _, _, _, _, _, _, _, _, _, _, _, _, _, c1, c2⟩ := PySem.W.excInit_of J.kIn T.is
    obtain ⟨hp, _, _, _, _⟩ := s
    refine wpAny_call (codeAny_mono (PySem.PX.call_own FB c2 c1 (PySem.W.looks_findIn J.kIn iC) (fun self => PySem.W.bind_fn J.kIn self tI) (Nat.zero_le _) (inside F hr (ws := []) (us := []) (fun s2 e2 k2 => ?_) J .nil q)) fun res s2 z => z)
    exact hb s2 [e2] k2 rfl
/-! ### Base.__init__(self) -/
def rUp (K : PySem.W.Frag) (newId : String) (tail : List Value) : List V → Hp → VK → Prop := fun vs H Q => ∃ a C, vs = [V.ref a] ∧ XC K C newId tail ∧ H a = some (exo a C none) ∧ Q .non H
def spUp (K : PySem.W.Frag) (newId : String) (tail : List Value) : Sp := fun vs H Q _ => rUp K newId tail vs H Q
theorem call_up (FB : ExcBaseFacts B newId initId tail) : CallR X (.builtin initId) (rUp X.K newId tail) := by
  intro pins s σ H
  intro xs us Q I r q
  obtain ⟨a, C, rfl, T, e, q⟩ := q
  obtain ⟨_, _, _, _, _, _, _, _, _, _, _, _, _, _, _, _, c1, c2⟩ := PySem.W.excInit_of I.kIn T.is
  obtain ⟨t1, at_⟩ := exo_at I.hok e
  match us, r with
  | [_], .cons rfl .nil =>
    obtain ⟨hp, g, d, t, os⟩ := s
    refine wpAny_call (PySem.PX.init_base FB c2 c1 at_ (Nat.zero_le _) fun h' t2 keep new => ?_)
    have J := I.write (t' := t) (x := a) (e := a) (o := exo a C none) (h' := h') (by rw [e]; exact True.intro) (.inl rfl) keep ⟨_, new⟩ (exo_ok new)
    have same : upd H a (exo a C none) = H := by
      funext b
      unfold upd
      split
      · next z => rw [z, e]
      · rfl
    rw [same] at J
    exact ⟨.non, H, J, rfl, q⟩
/-- what the head tells of a class whose __init__ is called off it -/
def offB (K : PySem.W.Frag) (C f : Addr) : Bool := decide (PySem.W.specialIn K (.ref C) "__getattribute__" = some (some (.builtin "type.__getattribute__"))) && (PySem.W.readsIn K C (.type "type") && ((match PySem.W.findCls K (.ref C) (.type "type") "__init__" with | some (.val (.ref g)) => decide (g = f) | _ => false) && (PySem.W.handedIn (.ref f) && PySem.W.keepIn K (.ref f))))
theorem pe_off {CX : CXT} {p1 p2 p3 p4 : Pos} (o : offB X.K C fI = true) (F : FnOk X.prog X.w X.K X.mg X.base CX k fI fd ps sp) (hr : Room k X.A) (hb : Binds X.K fd ps [])
    (hx : Passes CX X fun _ _ _ => False) (hg : Gl X "NoAnswer") (hm : X.mg "NoAnswer" = some (.ref C)) (ha : PA X [.Name "self" p4] ta) {pl : Sem Bool}
    (hc : eval (.Call (.Attribute (.Name "NoAnswer" p1) "__init__" p2) [.Name "self" p4] [] p3) X.env = do { let ov ← eval (.Name "NoAnswer" p1) X.env; standAt p2.atName; let (f, first) ← holding [ov] (getMethod ov "__init__" pl); callWith p3 f first (backTo p3 (starEach [.Name "self" p4] X.env)) (backToKw p3 (keywordEach [] X.env)) } := by rfl)
    (he : starEach [.Name "self" p4] X.env = (false, eval (.Name "self" p4) X.env) :: starEach [] X.env := by rfl) :
    PE X (.Call (.Attribute (.Name "NoAnswer" p1) "__init__" p2) [.Name "self" p4] [] p3) (fun σ H Q => ta σ H (fun vs H1 => sp vs H1 Q (fun _ _ _ => False))) where
  run := by
    intro pins s σ H Q I h
    unfold offB at o
    simp only [decide_eq_true_eq, Bool.and_eq_true] at o
    obtain ⟨o1, o2, o3, o4, o5⟩ := o
    have o3 : PySem.W.findCls X.K (.ref C) (.type "type") "__init__" = some (.val (.ref fI)) := by
      split at o3
      · next e => rw [e, of_decide_eq_true o3]
      · cases o3
    refine PySem.W.methodCall_KW (ld_glob I hg hm (PySem.W.method_cls I.kIn o1 (PySem.W.cls_value I.kIn o2 o3 o4 ?_))) hc
    have J := I.tok (s.toks + 1)
    refine PySem.W.callWith_K (first := []) (h₀ := X.base) I.ok.mod.kin o5 (thn (ha.run _ pins _ σ H _ J h) fun us s1 z => ?_) he
    obtain ⟨vs, H1, J1, r, q⟩ := z
    exact ⟨J1.kIn, run_fn F hr hb .nil hx J1 r (by rw [List.append_nil]; exact q)⟩
/-! ### reading, asking -/
/-- a.f of such a one -/
def tFld (K : PySem.W.Frag) (f : Str) (te : TE) : TE := fun σ H Q => te σ H fun x H1 => ∃ a C dx fs v, x = V.ref a ∧ XfC K C ∧ PySem.W.findIn K (.ref C) f = some none ∧ H1 a = some (exo a C (some dx)) ∧ H1 dx = some (exd dx fs) ∧ fs.lookup f = some v ∧ Q v H1
theorem pe_fld {te : TE} {f : Str} (he : PE X e te) (hb : attributeBase e f X.env (eval e X.env) = eval e X.env := by rfl) : PE X (.Attribute e f pos) (tFld X.K f te) where
  run := by
    intro pins s σ H Q I h
    refine attr_of hb (thn (he.run pins s σ H _ I h) fun u s1 z => ?_)
    obtain ⟨_, H1, J, r, a, C, dx, fs, v, rfl, T, no, e1, e2, l, q⟩ := z
    cases r
    obtain ⟨t1, at_⟩ := exo_at J.hok e1
    obtain ⟨mA, n1, rel⟩ := exd_at J.hok e2
    obtain ⟨od, i1, i2⟩ := lookIn_ns n1
    obtain ⟨w, w1, w2⟩ := RelO.some_of (v := v) (o := mA f) (by rw [← l]; exact rel f)
    exact HandSPX.exc_get (od := some od) J.kIn ⟨at_, rfl, rfl, i1⟩ T.ga T.gg T.exC (PySem.W.findObj_own T.hdC no rfl (by rw [i2, w1])) (handed_of w2) ⟨v, H1, J.tok _, w2, q⟩
/-- what isinstance wants of the class -/
def isB (K : PySem.W.Frag) (C : Addr) : Bool := (PySem.W.clsIn K C).isSome && (decide (PySem.W.findIn K (.ref C) "__class__" = some (some (.builtin "object.__class__"))) && (decide (PySem.W.specialIn K (.builtin "object.__class__") "__get__" = some (some (.builtin "getset_descriptor.__get__"))) &&
  (decide (PySem.W.takesIn K (.builtin "object.__class__") = some true) && decide (PySem.W.mroIn K C (.type "object") = some true))))
/-- an error that stands in the heap, its dict too -/
def Err (H : Hp) (a C : Addr) : Prop := H a = some (exo a C none) ∨ ∃ dx fs, H a = some (exo a C (some dx)) ∧ H dx = some (exd dx fs)
def rIsE (K : PySem.W.Frag) : List V → Hp → VK → Prop := fun xs H Q => ∃ a C c u b, xs = [V.ref a, c] ∧ Err H a C ∧ XfC K C ∧ isB K C = true ∧ ClsV c u ∧ PySem.W.kitOne K (.ref C) u = some b ∧ Q (.bl b) H
theorem call_isE_ : CallR X (.builtin "isinstance") (rIsE X.K) := by
  intro pins s σ H
  intro xs us Q I r q
  obtain ⟨a, C, c, u, b, rfl, er, T, is, cl, k, q⟩ := q
  unfold isB at is
  simp only [Bool.and_eq_true, decide_eq_true_eq] at is
  obtain ⟨k1, k2, k3, k4, k5⟩ := is
  obtain ⟨ox, od, inst⟩ : ∃ ox od, PySem.W.InstAt s.heap a ox C od := by
    rcases er with e1 | ⟨dx, fs, e1, e2⟩
    · obtain ⟨t1, at_⟩ := exo_at I.hok e1
      exact ⟨_, none, at_, rfl, rfl, trivial⟩
    · obtain ⟨t1, at_⟩ := exo_at I.hok e1
      obtain ⟨mA, n1, _⟩ := exd_at I.hok e2
      obtain ⟨od, i1, _⟩ := lookIn_ns n1
      exact ⟨_, some od, at_, rfl, rfl, i1⟩
  match us, r with
  | [_, _], .cons rfl (.cons r2 .nil) =>
    cases cl.eq r2
    exact PySem.W.kia_one (PySem.W.kitx_exc k1 T.ga T.gg T.exC k2 k3 k4 k5) I.kIn inst k (fun z => nomatch z) fun tk => ⟨.bl b, H, I.tok tk, rfl, q⟩
/-- repr of a list (of lists ..) of plain values -/
def rRepr (K : PySem.W.Frag) : List V → Hp → VK → Prop := fun xs H Q => ∃ a d, xs = [V.ref a] ∧ Dp K H (.ref a) d ∧ d.showable = true ∧ d.hasDict = false ∧ d.depth ≤ 20 ∧ d.shown.length ≤ sizeLine ∧ Q (.str d.shown) H
theorem call_repr_ (hg : X.A.guards = some []) (hu : X.A.units + 64 < cLine) : CallR X (.builtin "repr") (rRepr X.K) := by
  intro pins s σ H
  intro xs us Q I r q
  obtain ⟨a, d, rfl, dp, sh, nd, dd, sz, q⟩ := q
  match us, r with
  | [_], .cons rfl .nil =>
    obtain ⟨as, rd⟩ := Dp.reads I d (.ref a) (.ref a) dp rfl
    exact repr_of_reads' rd sh (PyData.noDict_hsm nd) hg (by omega) (fun _ _ e => e) (fun h' u tk k => ⟨.str _, H, I.kept k, ⟨_, rfl⟩, q⟩) sz
end
end EX

namespace At
open L2 PyProof.Rows PySem.Spec PySem
/-! ### steps of a reading -/
abbrev St' := List (Option V)
section
variable {K : PySem.W.Frag} {σ : L2.St} {H : Hp} {D : Ends} {Q : VK} {QT : Bool → Hp → Prop} {QA : List V → Hp → Prop} {v x y : V} {ta tb tc te : TE} {t u : TT} {tr : TA} {s1 s2 : TS} {i : Nat} {r r' : R2} {g : TG} {J : It} {R : It → Hp → Prop}
theorem go_var (h : σ[i]? = some (some v)) (q : Q v H) : tVar i σ H Q := ⟨v, h, q⟩
theorem go_c (q : Q v H) : tC v σ H Q := q
theorem go_op (h : ta σ H fun x H1 => tb σ H1 fun y H2 => r x y H2 Q) : tOp r ta tb σ H Q := h
theorem go_un {r : V → Hp → VK → Prop} (h : ta σ H fun x H1 => r x H1 Q) : tUn r ta σ H Q := h
theorem go_rI0 {f : Int → Int → V} {a b : Int} (q : Q (f a b) H) : rI0 f (.int a) (.int b) H Q := ⟨a, b, rfl, rfl, q⟩
theorem go_rI {C : Int → Int → Prop} {f : Int → Int → V} {a b : Int} (c : C a b) (q : Q (f a b) H) : rI C f (.int a) (.int b) H Q := ⟨a, b, rfl, rfl, c, q⟩
theorem go_rU {f : Int → V} {a : Int} (q : Q (f a) H) : rU f (.int a) H Q := ⟨a, rfl, q⟩
theorem go_rEqI {a b : Int} (q : Q (.bl (decide (a = b))) H) : rEq (.int a) (.int b) H Q := ⟨rfl, by
  have e : decide (V.int a = V.int b) = decide (a = b) := by
    by_cases h : a = b
    · rw [h]; simp
    · rw [decide_eq_false h, decide_eq_false (fun z => h (V.int.inj z))]
  rw [e]; exact q⟩
theorem go_rNeI {a b : Int} (q : Q (.bl (!decide (a = b))) H) : rNe (.int a) (.int b) H Q := ⟨rfl, by
  have e : decide (V.int a = V.int b) = decide (a = b) := by
    by_cases h : a = b
    · rw [h]; simp
    · rw [decide_eq_false h, decide_eq_false (fun z => h (V.int.inj z))]
  rw [e]; exact q⟩
theorem go_rEqS {a b : Str} (q : Q (.bl (decide (a = b))) H) : rEq (.str a) (.str b) H Q := ⟨rfl, by
  have e : decide (V.str a = V.str b) = decide (a = b) := by
    by_cases h : a = b
    · rw [h]; simp
    · rw [decide_eq_false h, decide_eq_false (fun z => h (V.str.inj z))]
  rw [e]; exact q⟩
theorem go_rNeS {a b : Str} (q : Q (.bl (!decide (a = b))) H) : rNe (.str a) (.str b) H Q := ⟨rfl, by
  have e : decide (V.str a = V.str b) = decide (a = b) := by
    by_cases h : a = b
    · rw [h]; simp
    · rw [decide_eq_false h, decide_eq_false (fun z => h (V.str.inj z))]
  rw [e]; exact q⟩
theorem go_truL {p : Addr} {xs : List V} (h : SqL K H p xs) (q : QT (!xs.isEmpty) H) : ∃ k, TruV K (.ref p) H k ∧ QT k H := ⟨_, .inl ⟨xs, h, rfl⟩, q⟩
theorem go_truT {p : Addr} {xs : List V} (h : SqT K H p xs) (q : QT (!xs.isEmpty) H) : ∃ k, TruV K (.ref p) H k ∧ QT k H := ⟨_, .inr (.inl ⟨xs, h, rfl⟩), q⟩
theorem go_test (h : ta σ H fun x H' => ∃ k, x = .bl k ∧ QT k H') : tTest ta σ H QT := h
theorem go_tB (h : ta σ H fun x H' => ∃ k, x = .bl k ∧ QT k H') : tB ta σ H QT := h
theorem go_bl {b : Bool} (q : QT b H) : ∃ k, V.bl b = .bl k ∧ QT k H := ⟨b, rfl, q⟩
theorem go_and (h : t σ H fun c H1 => if c = true then u σ H1 QT else QT false H1) : tAnd t u σ H QT := h
theorem go_or (h : t σ H fun c H1 => if c = true then QT true H1 else u σ H1 QT) : tOr t u σ H QT := h
theorem go_not (h : t σ H fun c H1 => QT (!c) H1) : tNot t σ H QT := h
theorem go_andV (h : ta σ H fun x H1 => ∃ c, x = .bl c ∧ if c = true then tb σ H1 Q else Q (.bl false) H1) : tAndV ta tb σ H Q := h
theorem go_orV (h : ta σ H fun x H1 => ∃ c, x = .bl c ∧ if c = true then Q (.bl true) H1 else tb σ H1 Q) : tOrV ta tb σ H Q := h
theorem go_notV (h : ta σ H fun x H1 => ∃ c, x = .bl c ∧ Q (.bl (!c)) H1) : tNotV ta σ H Q := h
theorem go_tIf (h : t σ H fun c H1 => if c = true then ta σ H1 Q else tb σ H1 Q) : tIf t ta tb σ H Q := h
theorem go_chain (h : ta σ H fun x H1 => tb σ H1 fun y H2 => r x y H2 fun z H3 => ∃ k, z = .bl k ∧ (if k = true then tc σ H3 fun w' H4 => r' y w' H4 Q else Q (.bl false) H3)) : tChain r r' ta tb tc σ H Q := h
theorem go_cons (h : ta σ H fun x H1 => tr σ H1 fun xs H2 => QA (x :: xs) H2) : tCons ta tr σ H QA := h
theorem go_nil (q : QA [] H) : tNil σ H QA := q
theorem go_cb {r : List V → Hp → VK → Prop} (h : tr σ H fun vs H1 => r vs H1 Q) : tCB r tr σ H Q := h
theorem go_call {sp : Sp} {E : XK} (h : tr σ H fun vs H1 => sp vs H1 Q E) : tCall sp [] E tr σ H Q := by
  have e : (fun vs H1 => sp (vs ++ []) H1 Q E) = (fun vs H1 => sp vs H1 Q E) := by
    funext vs H1
    rw [List.append_nil]
  show tr σ H fun vs H1 => sp (vs ++ []) H1 Q E
  rw [e]
  exact h
theorem go_tup (h : tr σ H fun xs H1 => xs.length ≤ sizeLine ∧ ∀ p, H1 p = none → Q (.ref p) (upd H1 p (.tup xs))) : tTup tr σ H Q := h
theorem go_lst (h : tr σ H fun xs H1 => xs.length ≤ sizeLine ∧ ∀ p, H1 p = none → Q (.ref p) (upd H1 p (.lst xs))) : tLst tr σ H Q := h
theorem go_sl {r : V → Option Int → Option Int → Hp → VK → Prop} {tl th : TO} (h : te σ H fun x H1 => tl σ H1 fun l H2 => th σ H2 fun u H3 => r x l u H3 Q) : tSl r te tl th σ H Q := h
theorem go_noPart {QO : Option Int → Hp → Prop} (q : QO none H) : tNoPart σ H QO := q
theorem go_part {QO : Option Int → Hp → Prop} (h : te σ H fun x H1 => ∃ i, x = .int i ∧ QO (some i) H1) : tPart te σ H QO := h
theorem go_int {P : Int → Prop} {i : Int} (q : P i) : ∃ j, V.int i = V.int j ∧ P j := ⟨i, rfl, q⟩
theorem go_rIxT {p : Addr} {xs : List V} {j : Int} (h : SqT K H p xs) (e : atI xs j = some v) (q : Q v H) : rIxT K (.ref p) (.int j) H Q := ⟨p, xs, j, v, rfl, rfl, h, e, q⟩
theorem go_rIxL {p : Addr} {xs : List V} {j : Int} (h : SqL K H p xs) (e : atI xs j = some v) (q : Q v H) : rIxL K (.ref p) (.int j) H Q := ⟨p, xs, j, v, rfl, rfl, h, e, q⟩
/-- statements -/
theorem go_seq (h : s1 { D with nx := s2 D } σ H) : tSeq s1 s2 D σ H := h
theorem go_cut (Mid : L2.St → Hp → Prop) (h1 : s1 { D with nx := Mid } σ H) (h2 : ∀ σ' H', Mid σ' H' → s2 D σ' H') : Evl.tCut s1 s2 D σ H := ⟨Mid, h1, h2⟩
theorem go_next (q : D.nx σ H) : tNext D σ H := q
theorem go_brk (q : D.bk σ H) : tBreak D σ H := q
theorem go_cont (q : D.ct σ H) : tCont D σ H := q
theorem go_drop (h : te σ H fun _ H1 => D.nx σ H1) : tDrop te D σ H := h
theorem go_ret (h : te σ H D.rt) : tRet te D σ H := h
theorem go_retN (h : D.rt .non H) : tRetN D σ H := h
theorem go_ifS (h : t σ H fun b H1 => if b = true then s1 D σ H1 else s2 D σ H1) : tIfS t s1 s2 D σ H := h
theorem go_set (h : te σ H fun x H1 => D.nx (σ.set i (some x)) H1) : tAsg te (gName i) D σ H := h
theorem go_asg (h : te σ H fun x H1 => g x σ H1 D.nx) : tAsg te g D σ H := h
theorem go_seq_set (h : te σ H fun x H1 => s2 D (σ.set i (some x)) H1) : tSeq (tAsg te (gName i)) s2 D σ H := h
theorem go_seq_asg (h : te σ H fun x H1 => g x σ H1 (s2 D)) : tSeq (tAsg te g) s2 D σ H := h
theorem go_seq_drop (h : te σ H fun _ H1 => s2 D σ H1) : tSeq (tDrop te) s2 D σ H := h
theorem go_seq_if (h : t σ H fun b H1 => if b = true then s1 { D with nx := s2 D } σ H1 else s2 D σ H1) : tSeq (tIfS t s1 tNext) s2 D σ H := h
theorem go_aug {ti : TIp} (hx : σ[i]? = some (some x)) (h : te σ H fun y H1 => ti x y H1 fun z H2 => D.nx (σ.set i (some z)) H2) : tAug i te ti D σ H := ⟨x, hx, h⟩
theorem go_m1 {r : V → List V → Hp → VK → Prop} {a : Str} (h : te σ H fun y H2 => r (.str a) [y] H2 Q) : tM1 r (tC (.str a)) te σ H Q := ⟨⟨a, rfl⟩, h⟩
theorem go_revL (h : te σ H fun x H1 => ∃ a xs, x = .ref a ∧ SqL K H1 a xs ∧ ∀ p, H1 p = none → Q (.ref p) (upd H1 p (.lst xs.reverse))) : tRevL K te σ H Q := h
theorem go_augS {to ti : TE} {tget : V → V → Hp → VK → Prop} {tip : TIp} {tset : TSet} (h : to σ H fun o H1 => ti σ H1 fun i H2 => tget o i H2 fun x H3 => te σ H3 fun y H4 => tip x y H4 fun z H5 => tset o i z H5 fun H6 => D.nx σ H6) : tAugS to ti te tget tip tset D σ H := h
theorem go_ipI {f : Int → Int → Int} {a b : Int} (q : Q (.int (f a b)) H) : ipI f (.int a) (.int b) H Q := ⟨a, b, rfl, rfl, q⟩
theorem go_gName {QS : L2.St → Hp → Prop} (q : QS (σ.set i (some v)) H) : gName i v σ H QS := q
theorem go_gTup {QS : L2.St → Hp → Prop} {a : Addr} {xs : List V} {n : Nat} {t : TGs} (h : SqT K H a xs) (hl : xs.length = n) (q : t xs σ H QS) : gTup K n t (.ref a) σ H QS := ⟨a, xs, rfl, h, hl, q⟩
theorem go_gUnl {QS : L2.St → Hp → Prop} {a : Addr} {xs : List V} {n : Nat} {t : TGs} (h : SqL K H a xs) (hl : xs.length = n) (q : t xs σ H QS) : gUnl K n t (.ref a) σ H QS := ⟨a, xs, rfl, h, hl, q⟩
theorem go_gCons {QS : L2.St → Hp → Prop} {xs : List V} {t : TG} {u : TGs} (q : t v σ H fun σ' H' => u xs σ' H' QS) : gCons t u (v :: xs) σ H QS := ⟨v, xs, rfl, q⟩
theorem go_gNil {QS : L2.St → Hp → Prop} (q : QS σ H) : gNil [] σ H QS := ⟨rfl, q⟩
theorem go_gSub {QS : L2.St → Hp → Prop} {to ti : TE} {t : TSet} (h : to σ H fun o H1 => ti σ H1 fun i H2 => t o i v H2 fun H3 => QS σ H3) : gSub to ti t v σ H QS := h
theorem go_rSetL {QH : Hp → Prop} {p : Addr} {xs : List V} {k : Int} {j : Nat} (h : H p = some (.lst xs)) (e : ixN xs.length k = some j) (q : QH (upd H p (.lst (xs.set j v)))) : rSetL (.ref p) (.int k) v H QH := ⟨p, xs, k, j, rfl, rfl, h, e, q⟩
theorem go_par {j k : Nat} (h : tr σ H fun vs H1 => ∃ v w, vs = [v, w] ∧ D.nx ((σ.set j (some v)).set k (some w)) H1) : tPar j k tr D σ H := h
theorem go_par3 {j k l : Nat} (h : tr σ H fun vs H1 => ∃ u v w, vs = [u, v, w] ∧ D.nx (((σ.set j (some u)).set k (some v)).set l (some w)) H1) : tPar3 j k l tr D σ H := h
theorem go_two {P : V → V → Prop} {a b : V} (q : P a b) : ∃ v w, [a, b] = [v, w] ∧ P v w := ⟨a, b, rfl, q⟩
theorem go_three {P : V → V → V → Prop} {a b c : V} (q : P a b c) : ∃ u v w, [a, b, c] = [u, v, w] ∧ P u v w := ⟨a, b, c, rfl, q⟩
theorem go_ite {p : Prop} [Decidable p] {A B : Prop} (h1 : p → A) (h2 : ¬ p → B) : if decide p = true then A else B := by
  by_cases h : p
  · rw [if_pos (decide_eq_true h)]; exact h1 h
  · rw [if_neg (by rw [decide_eq_false h]; exact Bool.false_ne_true)]; exact h2 h
theorem go_iteN {p : Prop} [Decidable p] {A B : Prop} (h1 : ¬ p → A) (h2 : p → B) : if (!decide p) = true then A else B := by
  by_cases h : p
  · rw [if_neg (by rw [decide_eq_true h]; exact Bool.false_ne_true)]; exact h2 h
  · rw [if_pos (by rw [decide_eq_false h]; rfl)]; exact h1 h
theorem go_iteB {b : Bool} {A B : Prop} (h1 : b = true → A) (h2 : b = false → B) : if b = true then A else B := by
  cases b
  · exact h2 rfl
  · exact h1 rfl
theorem go_iteT {A B : Prop} (h : A) : if true = true then A else B := h
theorem go_iteF {A B : Prop} (h : B) : if false = true then A else B := h
theorem go_iteNT {A B : Prop} (h : B) : if (!true) = true then A else B := h
theorem go_iteNF {A B : Prop} (h : A) : if (!false) = true then A else B := h
theorem go_iteYes {b : Bool} {A B : Prop} (e : b = true) (h : A) : if b = true then A else B := by rw [e]; exact h
theorem go_iteNo {b : Bool} {A B : Prop} (e : b = false) (h : B) : if b = true then A else B := by rw [e]; exact h
/-- xs.append(e), xs.pop() -/
def AppK (l : Addr) (Q : VK) : VK := fun y H2 => rAppend (.ref l) [y] H2 Q
theorem appk {l : Addr} {xs : List V} (h : H l = some (.lst xs)) (hl : xs.length ≤ 50000) (q : Q .non (upd H l (.lst (xs ++ [y])))) : AppK l Q y H := ⟨l, xs, y, rfl, rfl, h, Nat.lt_of_le_of_lt hl (by decide), q⟩
theorem go_app {l : Addr} {xs0 : List V} (hv : σ[i]? = some (some (.ref l))) (h0 : H l = some (.lst xs0)) (h : te σ H (AppK l Q)) : tBM K "list" rAppend (tVar i) (tCons te tNil) σ H Q := ⟨_, hv, .inl ⟨rfl, xs0, SqL.of h0⟩, h⟩
theorem go_pop {l : Addr} {xs : List V} (hv : σ[i]? = some (some (.ref l))) (h : H l = some (.lst (xs ++ [y]))) (q : Q y (upd H l (.lst xs))) : tBM0 K "list" rPop (tVar i) σ H Q := ⟨_, hv, .inl ⟨rfl, _, SqL.of h⟩, l, _, y, rfl, rfl, h, by
  rw [List.length_append, List.length_singleton, Nat.add_sub_cancel, List.getElem?_append_right (Nat.le_refl _), Nat.sub_self]
  rfl, by rw [List.dropLast_concat]; exact q⟩
/-! ### loops -/
theorem go_iList {tl : TE} (h : tl σ H fun x H1 => ∃ a, x = .ref a ∧ (∃ xs, SqL K H1 a xs) ∧ R (Itl K a) H1) : iList K tl σ H R := h
theorem go_iTup {tl : TE} (h : tl σ H fun x H1 => ∃ a, x = .ref a ∧ (∃ xs, SqT K H1 a xs) ∧ R (Itt K a) H1) : iTup K tl σ H R := h
theorem go_isL {a : Addr} {xs : List V} (h : SqL K H a xs) (q : R (Itl K a) H) : ∃ b, V.ref a = .ref b ∧ (∃ xs, SqL K H b xs) ∧ R (Itl K b) H := ⟨a, rfl, ⟨xs, h⟩, q⟩
theorem go_isT {a : Addr} {xs : List V} (h : SqT K H a xs) (q : R (Itt K a) H) : ∃ b, V.ref a = .ref b ∧ (∃ xs, SqT K H b xs) ∧ R (Itt K b) H := ⟨a, rfl, ⟨xs, h⟩, q⟩
theorem go_iRng1 (h : tr σ H fun vs H1 => ∃ j : Int, vs = [.int j] ∧ -(2 ^ 62) ≤ j ∧ j < 2 ^ 62 ∧ R (Itr 0 j.toNat) H1) : iRng1 tr σ H R := h
theorem go_iRng2 (h : tr σ H fun vs H1 => ∃ i j : Int, vs = [.int i, .int j] ∧ (-(2 ^ 62) ≤ i ∧ i < 2 ^ 62 ∧ -(2 ^ 62) ≤ j ∧ j < 2 ^ 62) ∧ R (Itr i (j - i).toNat) H1) : iRng2 tr σ H R := h
theorem go_isR1 {j : Int} (h0 : -(2 ^ 62) ≤ j) (h1 : j < 2 ^ 62) (q : R (Itr 0 j.toNat) H) : ∃ k : Int, [V.int j] = [.int k] ∧ -(2 ^ 62) ≤ k ∧ k < 2 ^ 62 ∧ R (Itr 0 k.toNat) H := ⟨j, rfl, h0, h1, q⟩
theorem go_while {c : TT} {tb : TS} (W : Nat → L2.St → Hp → Prop) (m0 : Nat) (h0 : W m0 σ H)
    (hs : ∀ m σ H, W m σ H → c σ H fun b H1 => if b = true then (∃ N : L2.St → Hp → Prop, (∀ σ' H', N σ' H' → ∃ m', m' < m ∧ W m' σ' H') ∧ tb { D with nx := N, ct := N, bk := D.nx } σ H1) else D.nx σ H1) : tWhile c tb D σ H := ⟨W, ⟨m0, h0⟩, hs⟩
end
/-! ### heaps -/
abbrev Ext := Evl.Ex
theorem mem_new {H : Hp} {p a : Addr} {o u : HO} (np : H p = none) (h : H a = some o) : upd H p u a = some o := by rw [upd_ne (ne_of_none h np)]; exact h
theorem mem_ext {H H' : Hp} {a : Addr} {o : HO} (e : Ext H H') (h : H a = some o) : H' a = some o := e a o h
theorem none_back {H : Hp} {p q : Addr} {o : HO} (h : upd H p o q = none) : H q = none ∧ q ≠ p := by
  by_cases e : q = p
  · subst e; rw [upd_same] at h; cases h
  · rw [upd_ne e] at h; exact ⟨h, e⟩
theorem ext_new {H H' : Hp} {p : Addr} {o : HO} (e : Ext H H') (np : H' p = none) : Ext H (upd H' p o) := e.trans (Evl.Ex.new np)
end At

namespace At
open L2 PyProof.Rows PySem.Spec PySem
/-- min(t), max(t) of one tuple of whole numbers, not empty: what a fold tells -/
def rLeast (K : PySem.W.Frag) (f : Int → Int → Int) : List V → Hp → VK → Prop := fun vs H Q => ∃ (a : Addr) (n : Int) (ns : List Int), vs = [.ref a] ∧ SqT K H a (.int n :: ns.map .int) ∧ Q (.int (ns.foldl f n)) H
theorem reads_nums {h : Heap} : ∀ {ns : List Int} {us : List Value}, Vals (ns.map V.int) us → ReadsAll h us (ns.map .int) []
  | [], _, r => by cases r; exact .nil
  | _ :: _, _, .cons ⟨_, e⟩ r => by
    subst e
    exact .cons (as := []) (bs := []) (.int _ _) (reads_nums r)
theorem flat_nums : ∀ ns : List Int, PyData.depthAll (ns.map .int) = 0
  | [] => rfl
  | n :: ns => by
    show Nat.max (PyData.depth (.int n)) (PyData.depthAll (ns.map .int)) = 0
    rw [flat_nums ns]
    rfl
theorem alike_nums (ns : List Int) : PySem.W.AlikeAll (ns.map .int) := by
  refine ⟨fun x hx y hy => ?_, fun x hx => ?_⟩
  · obtain ⟨i, _, rfl⟩ := List.mem_map.mp hx
    obtain ⟨j, _, rfl⟩ := List.mem_map.mp hy
    rfl
  · obtain ⟨i, _, rfl⟩ := List.mem_map.mp hx
    exact nofun
theorem int_of_reads {h : Heap} {v : Value} {i : Int} {as : List Addr} (r : Reads h v (.int i) as) : RelV (.int i) v := by
  cases r
  exact ⟨_, rfl⟩
section
variable {X : Cx}
theorem cr_leastT {k : Nat} (hc : X.calm = true) (hr : Room k X.A) : CallR X (.builtin "min") (rLeast X.K min) := by
  intro pins s σ H vs us Q I r ⟨a, n, ns, e, hs, q⟩
  subst e
  obtain ⟨its, rv, p, _⟩ := I.tuple hs
  rw [Vals.ref1 r]
  refine PySem.W.min_tuple_data (x := .int n) (xs := ns.map .int) (as := []) (I.ok.hd hc) p (reads_nums (ns := n :: ns) rv) (alike_nums (n :: ns)) ?_ fun _ v h' tk bs _ rd hk => ?_
  · rw [show PyData.int n :: ns.map PyData.int = (n :: ns).map .int from rfl, flat_nums]
    have := hr.un
    omega
  · rw [PySem.W.minD_ints] at rd
    exact ⟨_, H, I.kept hk, int_of_reads rd, q⟩
theorem cr_mostT {k : Nat} (hc : X.calm = true) (hr : Room k X.A) : CallR X (.builtin "max") (rLeast X.K max) := by
  intro pins s σ H vs us Q I r ⟨a, n, ns, e, hs, q⟩
  subst e
  obtain ⟨its, rv, p, _⟩ := I.tuple hs
  rw [Vals.ref1 r]
  refine PySem.W.max_tuple_data (x := .int n) (xs := ns.map .int) (as := []) (I.ok.hd hc) p (reads_nums (ns := n :: ns) rv) (alike_nums (n :: ns)) ?_ fun _ v h' tk bs _ rd hk => ?_
  · rw [show PyData.int n :: ns.map PyData.int = (n :: ns).map .int from rfl, flat_nums]
    have := hr.un
    omega
  · rw [PySem.W.maxD_ints] at rd
    exact ⟨_, H, I.kept hk, int_of_reads rd, q⟩
end
end At

namespace At
open L2 PyProof.Rows PySem.Spec PySem
/-! ### for i, x in enumerate(t), t a tuple -/
abbrev itOb (a : Addr) : Obj := { cls := .type "tuple_iterator", data := .fields #[.ref a, .int 0 0] }
abbrev enOb (i : Addr) : Obj := { cls := .type "enumerate", data := .fields #[.none, .bool false, .ref i, rawInt 0, .none, .none] }
abbrev enHp (h : Heap) (a : Addr) : Heap := (h.push (itOb a)).push (enOb h.objs.size)
theorem enum_newT (a : Addr) (vs : Array Value) : Meets (Builtin.«enumerate.__new__» ⟨[.type "enumerate", .ref a], []⟩)
    fun _ R s => s.heap.IsTuple a vs ∧ R (.ok (.ret (.ref (s.heap.push (itOb a)).objs.size))) { s with heap := enHp s.heap a } := by
  refine .of_wp fun prog w A R s hs => ?_
  obtain ⟨ht, hR⟩ := hs
  obtain ⟨hp, gs, dr, tk, os⟩ := s
  have same := sub_enumerate
  have goes : ∀ {B : Around} {E : Value → Shared → Prop} {Q : Value → Shared → Prop}, Q (.ref hp.objs.size) ⟨hp.push (itOb a), gs, dr, tk, os⟩ → wpAny (model prog w) B (pyIter (.ref a)) Q E ⟨hp, gs, dr, tk, os⟩ := fun q => wpAny_pyIter_tuple ht q
  wp_walk using goes
  refine wpAny_stack_any fun _ => wpAny_pure ?_
  split
  all_goals first
    | (wp_walk using goes; exact ⟨_, rfl, hR⟩)
    | (rename_i c _ _ _ _ _
       cases (c == Value.type "enumerate") <;> (wp_walk using goes; exact ⟨_, rfl, hR⟩))
theorem call_enumT {prog : Program} {w : World} {A : Around} {E : Value → Shared → Prop} {s : Shared} {a : Addr} {vs : Array Value} {Q : Value → Shared → Prop} (ht : s.heap.IsTuple a vs)
    (h : Q (.ref (s.heap.objs.size + 1)) { s with heap := enHp s.heap a }) : wpAny (model prog w) A (call (.type "enumerate") [.ref a]) Q E s := by
  have sz : (s.heap.push (itOb a)).objs.size = s.heap.objs.size + 1 := Heap.size_push ..
  have at_ : (enHp s.heap a).get? (s.heap.objs.size + 1) = some (enOb s.heap.objs.size) := by
    rw [← sz]
    (exact Heap.get?_push_size _ rfl)
  refine callType_new F.called_enumerate (by decide) (F.typeCall_enumerate_1 _) (F.newCall_enumerate_1 _) (fun _ => F.args_object_init_2 _ _) F.entry_enumerate_new (enum_newT a vs) ⟨ht, ?_⟩
  rw [sz]
  exact ⟨⟨_, at_, rfl⟩, h⟩
/-- the tuple at a, each item with its place in a new pair -/
def Itet (K : PySem.W.Frag) (a : Addr) (xs : List V) : It where
  go i H := SqT K H a xs ∧ i < xs.length
  yld i H v H' := ∃ T x, v = .ref T ∧ H T = none ∧ xs[i]? = some x ∧ H' = upd H T (.tup [.int (i : Nat), x])
  stop i H := SqT K H a xs ∧ i = xs.length
structure Ent (e it a : Addr) (i : Nat) (h : Heap) : Prop where
  en : ∃ old, IsEnum h e it (0 + (i : Int)) old
  at_ : h.IsTupleIter it a i
  ne1 : e ≠ it
  ne2 : a ≠ it
  ne3 : e ≠ a
theorem turn_enumT {P : Program} {w : World} {K : PySem.W.Frag} {elts : List Expr} {kk : Nat} {tpos : Pos} (a e it : Addr) (xs : List V) : Turn P w K (.Tuple elts kk tpos) (Itet K a xs) [e, it] e (Ent e it a) := by
  have two : ∀ {b : Addr} {p : Addr → Prop}, b ∈ [e, it] → p e → p it → p b := fun hb h1 h2 => by
    (rcases List.mem_cons.mp hb with z | z)
    · rw [z]; exact h1
    · rw [List.mem_singleton.mp z]; exact h2
  have E : ∀ {X : Cx} {s : Shared} {its : Array Value} {i : Nat}, X.calm = true → X.A.handled = none → Ent e it a i s.heap →
      GoesN X.prog X.w X.A (.Tuple elts kk tpos) e [e, it, a] [e, it] its.size (fun j h0 v h => ∃ T t x, v = .ref T ∧ h0.objs.size ≤ T ∧ its[j]? = some x ∧ h.IsTuple T #[.int (0 + (j : Int)) t, x])
        (fun j h => (∃ old, IsEnum h e it (0 + (j : Int)) old) ∧ h.IsTupleIter it a j ∧ h.IsTuple a its) := fun {X} {_} {_} {_} hc hh n =>
    GoesN.enumFrom 0 (Draws.tuple (A := X.A.in1) (show X.A.in1.handled = Option.none from hh) it a n.ne2 _) e n.ne1 (fun z => by
      (rcases List.mem_cons.mp z with z | z)
      · exact n.ne1 z
      · exact n.ne3 (List.mem_singleton.mp z)) List.mem_cons_self
  constructor
  case mem => exact List.mem_cons_self
  case obj =>
    intro i h n b hb
    obtain ⟨old, he⟩ := n.en
    obtain ⟨o, ho, _, hd⟩ := n.at_
    exact two (p := fun b => ∃ o, h.get? b = some o ∧ ∀ v, o.data ≠ .cell v) hb ⟨_, he, nofun⟩ ⟨o, ho, fun v q => by rw [hd] at q; cases q⟩
  case keep =>
    intro i h h' n k
    obtain ⟨old, he⟩ := n.en
    exact { n with en := ⟨old, k e List.mem_cons_self _ he⟩, at_ := n.at_.at fun o q => k it (List.mem_cons_of_mem _ List.mem_cons_self) o q }
  case item =>
    intro X hP hw hK hc i pins s σ H E' I hf n hg
    subst hP hw hK
    obtain ⟨hq, hi⟩ := hg
    obtain ⟨its, rv, p, _⟩ := I.tuple hq
    have W := E (its := its.toArray) hc (I.ok.hd hc) n
    refine W.goes i s _ _ (by rw [List.size_toArray, ← rv.length]; exact hi) ⟨n.en, n.at_, p⟩ fun v h' tk y st k tle => ?_
    obtain ⟨T, t, u, rfl, new, hu, hT⟩ := y
    obtain ⟨x, hx⟩ : ∃ x, xs[i]? = some x := ⟨_, List.getElem?_eq_getElem hi⟩
    obtain ⟨u', hu', ru⟩ := rv.get hx
    have e1 : u' = u := by
      rw [List.getElem?_toArray, hu'] at hu
      exact Option.some.inj hu
    subst e1
    have lt : ∀ b ∈ [e, it], b < T := fun b hb => by
      obtain ⟨old, he⟩ := n.en
      obtain ⟨o, ho, _⟩ := n.at_
      exact Nat.lt_of_lt_of_le (two (p := fun b => b < s.heap.objs.size) hb (Heap.lt_size he) (Heap.lt_size ho)) new
    rw [Int.zero_add] at hT
    refine ⟨.ref T, upd H T (.tup [.int (i : Nat), x]), I.turnedNew k hf new ⟨by show 2 ≤ sizeLine; decide, _, .cons ⟨_, rfl⟩ (.cons ru .nil), hT⟩, rfl, ⟨T, x, rfl, I.hok.fresh new, hx, rfl⟩, { n with en := st.1, at_ := st.2.1 }, fun b hb => ?_⟩
    rw [upd_ne (Nat.ne_of_lt (lt b hb))]
    exact (hf b hb).1
  case done =>
    intro X hP hw hK hc i pins s σ H E' I hf n hg
    subst hP hw hK
    obtain ⟨hq, hi⟩ := hg
    obtain ⟨its, rv, p, _⟩ := I.tuple hq
    have e1 : its.toArray.size = i := by rw [List.size_toArray, ← rv.length, hi]
    have W := E (its := its.toArray) hc (I.ok.hd hc) n
    rw [e1] at W
    exact W.stops s _ _ ⟨n.en, n.at_, p⟩ fun h' tk k _ => I.turnedL k hf
  case self =>
    intro A i s Q E' n h
    obtain ⟨old, he⟩ := n.en
    exact wpAny_pyIter_enum he h
def iEnumT (K : PySem.W.Frag) (ta : TA) : TI := fun σ H R => ta σ H fun vs H1 => ∃ a xs, vs = [.ref a] ∧ SqT K H1 a xs ∧ R (Itet K a xs) H1
theorem pi_enumT {X : Cx} {e : Expr} {ta : TA} {p pos tpos : Pos} {elts : List Expr} {kk : Nat} (hg : Gl X "enumerate") (hm : X.mg "enumerate" = none) (ha : PA X [e] ta) (hs : starEach [e] X.env = [(false, eval e X.env)] := by rfl) :
    PI X (.Tuple elts kk tpos) (.Call (.Name "enumerate" p) [e] [] pos) (iEnumT X.K ta) := by
  constructor
  intro pins s σ H R I h
  refine Call_ (ld_blt I hg hm boot_enumerate (callWith_type1 (thn (ha.run pos pins s σ H _ I h) fun us s1 q1 => ?_) hs rfl))
  obtain ⟨vs, H1, I1, r1, a, xs, rfl, hq, q⟩ := q1
  rw [Vals.ref1 r1]
  obtain ⟨its, rv, p', _⟩ := I1.tuple hq
  have z : (s1.heap.push (itOb a)).objs.size = s1.heap.objs.size + 1 := Heap.size_push ..
  have la : a < s1.heap.objs.size := by
    obtain ⟨_, k, _⟩ := p'
    exact Heap.lt_size k
  have kp : ∀ b o, s1.heap.get? b = some o → (enHp s1.heap a).get? b = some o := fun b o k => Heap.get?_push_of_some _ (Heap.get?_push_of_some _ k)
  have he : (enHp s1.heap a).get? (s1.heap.objs.size + 1) = some (enOb s1.heap.objs.size) := by
    rw [← z]
    (exact Heap.get?_push_size _ rfl)
  have hi : (enHp s1.heap a).get? s1.heap.objs.size = some (itOb a) := Heap.get?_push_of_some _ (Heap.get?_push_size _ rfl)
  refine call_enumT p' (wpAny_pyIter_enum (it := s1.heap.objs.size) (i := 0) (old := .none) he ?_)
  refine ⟨s1.heap.objs.size + 1, [s1.heap.objs.size + 1, s1.heap.objs.size], _, _, H1, rfl, I1.kept (t' := s1.toks) kp, turn_enumT a (s1.heap.objs.size + 1) s1.heap.objs.size xs, ⟨⟨.none, he⟩, ⟨_, hi, rfl, rfl⟩, Nat.succ_ne_self _, Nat.ne_of_lt la, fun k => ?_⟩, fun b hb => ?_, q⟩
  · rw [← k] at la
    exact absurd (Nat.lt_of_succ_lt la) (Nat.lt_irrefl _)
  · have le : s1.heap.objs.size ≤ b := by
      rcases List.mem_cons.mp hb with k | k
      · rw [k]; exact Nat.le_succ _
      · rw [List.mem_singleton.mp k]; exact Nat.le_refl _
    exact I1.fpOk le (I1.hok.fresh le)
end At

namespace At
open L2 PyProof.Rows PySem.Spec PySem
/-! ### x == y and x != y, x an object of the own class at C: its own __eq__ at g, no own __ne__ -/
structure EqAt_ (K : PySem.W.Frag) (C g : Addr) : Prop where
  eq : PySem.W.findIn K (.ref C) "__eq__" = some (some (.ref g))
  isf : PySem.W.isFn K (.ref g) = true
  ne : PySem.W.findIn K (.ref C) "__ne__" = some (some (.builtin "object.__ne__"))
  ob : PySem.W.mroIn K C (.type "object") = some true
/-- the answer is xor'ed with b: false for ==, true for != -/
def rOwnEq (K : PySem.W.Frag) (C : Addr) (sp : Sp) (E : XK) (b : Bool) : R2 := fun x y H Q =>
  ∃ a dx fs t, x = .ref a ∧ H a = some (.ins C dx fs) ∧ TyX K H y t ∧ PySem.W.notFirst K C t = true ∧ sp [x, y] H (fun v H' => ∃ c, v = .bl c ∧ Q (.bl (b ^^ c)) H') E
section
variable {X : Cx} {CX : CXT} {C g : Addr} {n : Nat} {sp : Sp} {E : XK}
theorem own_call {pins : List (Addr × Obj)} {σ : L2.St} {H : Hp} {s : Shared} {us : List Value} {vs : List V} {Q : VK} (F : FnR X.prog X.w X.K X.mg X.base CX n g sp) {B : Around} (hr : Room n B) (hx : Passes CX X E) (I : Inv X pins σ H s)
    (e0 : Env0 X.prog X.w X.K X.mg X.base B X.stack s H) (r : Vals vs us) (h : sp vs H Q E) : wpAny (model X.prog X.w) B (call (.ref g) us) (EP X pins σ Q) X.xe s := by
  refine wpAny_call (codeAny_mono (F B X.stack s H us vs Q E hr e0 r h) fun z s' hz => ?_)
  match z, hz with
  | .error e, hz => exact hx pins σ H s e s' I hz
  | .ok (.ret _), hz => exact I.after hz
theorem ne_call {prog : Program} {w : World} {A : Around} {E : Value → Shared → Prop} {s : Shared} {K : PySem.W.Frag} {a : Addr} {u : Value} {ox : Obj} {od : Option Obj} {Q : Value → Shared → Prop} (D : EqAt_ K C g) (k : K.In s.heap) (J : PySem.W.InstAt s.heap a ox C od) (hu : A.units + 1 < cLine)
    (h : wpAny (model prog w) A.in1 (call (.ref g) [.ref a, u]) (fun v s' => ∃ c, v = .bool c ∧ Q (.bool (!c)) s') E s) : wpAny (model prog w) A (call (.builtin "object.__ne__") [.ref a, u]) Q E s := by
  have run : wpAny (model prog w) A.in1 (Builtin.«object.__ne__» ⟨[.ref a, u], []⟩) (fun fin s' => ∃ v, fin = .done (.ret v) ∧ Q v s') E s := by
    (unfold Builtin.«object.__ne__»)
    refine wpAny_bind (wpAny_of_eq rfl ?_)
    (refine wpAny_bind (wpAny_cRoomFor hu ?_))
    refine wpAny_bind (PySem.W.ifBound_K k J D.eq D.isf (wpAny_mono h (fun v s' hv => ?_) fun _ _ e => e))
    obtain ⟨c, rfl, q⟩ := hv
    refine wpAny_bind (wpAny_truthy_bool ?_)
    exact wpAny_pure ⟨_, rfl, q⟩
  exact wpAny_call (codeAny_call_builtin F.cmp_object.ne.plain F.cmpEntry_ne (PySem.W.check_slot F.cmpKind_ne F.cmpSplit_ne (J.type.andThen (PySem.W.looks_mroIn k D.ob)) (F.cmpArgs_ne _ _) (wpAny_mono run (fun fin s' z => by
    obtain ⟨v, rfl, q⟩ := z
    exact q) fun _ _ z => z)))
theorem ne_rich {prog : Program} {w : World} {A : Around} {E : Value → Shared → Prop} {s : Shared} {K : PySem.W.Frag} {a : Addr} {u t : Value} {ox : Obj} {od : Option Obj} {Q : Value → Shared → Prop} (D : EqAt_ K C g) (k : K.In s.heap) (J : PySem.W.InstAt s.heap a ox C od) (hu : A.units + 1 < cLine)
    (ty : PySem.W.Looks (model prog w) s.heap (typeOf u) t) (nf : PySem.W.notFirst K C t = true)
    (h : wpAny (model prog w) A.in1 (call (.ref g) [.ref a, u]) (fun v s' => ∃ c, v = .bool c ∧ Q (.bool (!c)) s') E s) : wpAny (model prog w) A (richCompare .NotEq (.ref a) u) Q E s := by
  have mine : wpAny (model prog w) A (tryCompare (.ref a) "__ne__" u) (fun r s' => ∃ c, r = some (.bool c) ∧ Q (.bool c) s') E s := by
    unfold tryCompare callSpecialIfBound? bindSpecialIfBound?
    have done : wpAny (model prog w) A (call (.builtin "object.__ne__") ([.ref a] ++ [u])) (fun v s' => ∃ c, v = .bool c ∧ Q (.bool c) s') E s := ne_call D k J hu (wpAny_mono h (fun v s' hv => by
      obtain ⟨c, e, q⟩ := hv
      exact ⟨c, e, _, rfl, q⟩) fun _ _ z => z)
    have next : wpAny (model prog w) A (do
        let r ← call (.builtin "object.__ne__") ([.ref a] ++ [u])
        pure (some r)) (fun r s' => ∃ c, r = some (.bool c) ∧ Q (.bool c) s') E s := wpAny_bind (wpAny_mono done (fun v s' hv => by
      obtain ⟨c, rfl, q⟩ := hv
      exact wpAny_pure ⟨c, rfl, q⟩) fun _ _ z => z)
    refine wpAny_bind (wpAny_mono (Q := fun r s' => ∃ c, r = some (Value.bool c) ∧ Q (.bool c) s') (wpAny_holding (wpAny_bind (wpAny_bind (wpAny_bind (J.type.here ((PySem.W.looks_findIn k D.ne).here ?one)))))) (fun r s' z => ?two) fun _ _ z => z)
    case two =>
      obtain ⟨c, rfl, q⟩ := z
      exact wpAny_pure ⟨c, rfl, q⟩
    (refine wpAny_bind (wpAny_askSetting (wpAny_ite ?_)))
    split
    · exact wpAny_bind (wpAny_of_eq (F.cmp_object.ne.bind _) (wpAny_pure next))
    · exact wpAny_tryCatch (wpAny_bind (wpAny_of_eq (F.cmp_object.ne.bind _) (wpAny_pure next)))
  unfold richCompare
  simp only [oneThing_ref]
  refine wpAny_holding (wpAny_bind (wpAny_cRoomFor (by omega) ?_))
  refine wpAny_bind (J.type.here (wpAny_bind (ty.here ?_)))
  have told : wpAny (model prog w) A (tryCompare (.ref a) "__ne__" u) (fun r s' => ∃ c, r = some (.bool c) ∧ Q (.bool c) s') E s := mine
  split
  · rename_i ne
    have sub : PySem.W.subIn K t (.ref C) = some false := by
      rcases Bool.or_eq_true_iff.mp nf with e | e
      · exact absurd (beq_iff_eq.mp e) (fun z => by rw [z] at ne; simp at ne)
      · exact beq_iff_eq.mp e
    refine wpAny_bind ((PySem.W.looks_subIn k sub).here ?_)
    (simp only [Bool.false_eq_true, if_false])
    refine wpAny_bind (wpAny_mono told (fun r s' z => ?_) fun _ _ z => z)
    obtain ⟨c, rfl, q⟩ := z
    exact wpAny_pure q
  · (refine wpAny_bind (wpAny_pure ?_))
    (simp only [Bool.false_eq_true, if_false])
    refine wpAny_bind (wpAny_mono told (fun r s' z => ?_) fun _ _ z => z)
    obtain ⟨c, rfl, q⟩ := z
    exact wpAny_pure q
theorem op_eqO (D : EqAt_ X.K C g) (F : FnR X.prog X.w X.K X.mg X.base CX n g sp) (hr : Room (n + 1) X.A) (hx : Passes CX X E) : OpR X (compareOp .Eq) (rOwnEq X.K C sp E false) := by
  (intro pins s σ H x y v u Q I rx ry h)
  obtain ⟨a, dx, fs, t, rfl, ha, ty, nf, q⟩ := h
  (cases (show v = Value.ref a from rx))
  obtain ⟨_, J, _⟩ := ins_get I.hok ha
  obtain ⟨od, J, _⟩ := J.look
  obtain ⟨P, kx, hP, _⟩ := kit_of I ry ty
  obtain ⟨m, fr⟩ := I.fr
  refine PySem.W.cmp_K (op := .Eq) hr.units0 fr I.ok.mod.kin J (kx.ty _ _ I.kIn hP) nf D.eq D.isf (wpAny_mono (own_call (vs := [V.ref a, y]) F (hr.mono (Nat.le_succ n)) hx I I.env0 (.cons rfl (.cons ry .nil)) q) (fun w s' z => ?_) fun _ _ z => z)
  obtain ⟨z, H', I', rz, c, rfl, q'⟩ := z
  cases (show w = Value.bool c from rz)
  exact ⟨.bl c, H', I', rfl, by rw [Bool.false_xor] at q'; exact q'⟩
theorem op_neO (D : EqAt_ X.K C g) (F : FnR X.prog X.w X.K X.mg X.base CX n g sp) (hr : Room (n + 1) X.A) (hx : Passes CX X E) : OpR X (compareOp .NotEq) (rOwnEq X.K C sp E true) := by
  (intro pins s σ H x y v u Q I rx ry h)
  obtain ⟨a, dx, fs, t, rfl, ha, ty, nf, q⟩ := h
  (cases (show v = Value.ref a from rx))
  obtain ⟨_, J, _⟩ := ins_get I.hok ha
  obtain ⟨od, J, _⟩ := J.look
  obtain ⟨P, kx, hP, _⟩ := kit_of I ry ty
  refine ne_rich D I.kIn J (by have := hr.un; omega) (kx.ty _ _ I.kIn hP) nf (wpAny_mono (own_call (vs := [V.ref a, y]) F hr.in1 hx I I.env0.in1 (.cons rfl (.cons ry .nil)) q) (fun w s' z => ?_) fun _ _ z => z)
  obtain ⟨z, H', I', rz, c, rfl, q'⟩ := z
  cases (show w = Value.bool c from rz)
  exact ⟨c, rfl, .bl (!c), H', I', rfl, by rw [Bool.true_xor] at q'; exact q'⟩
end
end At

namespace At
open L2 PyProof.Rows PySem.Spec PySem
/-! ### more steps of a reading -/
section
variable {K : PySem.W.Frag} {σ : L2.St} {H : Hp} {D : Ends} {Q : VK} {ta te : TE} {tr tk : TA} {R : It → Hp → Prop} {sp : Sp} {E : XK} {C : Addr}
theorem go_fld {f : Str} (h : ta σ H fun x H1 => ∃ a C dx fs v, x = .ref a ∧ H1 a = some (.ins C dx fs) ∧ Cls K C ∧ NoAttr K C f ∧ fs.lookup f = some v ∧ Q v H1) : tFld K ta f σ H Q := h
theorem go_prop (h : ta σ H fun x H1 => ∃ a dx fs, x = .ref a ∧ H1 a = some (.ins C dx fs) ∧ sp [.ref a] H1 Q E) : tProp C sp [] E ta σ H Q := h
theorem go_sfld {tv : TE} {f : Str} (h : tv σ H fun y H1 => ta σ H1 fun x H2 => ∃ a C dx fs, x = .ref a ∧ H2 a = some (.ins C dx fs) ∧ Cls K C ∧ NoAttr K C f ∧ fs.length < 1000 ∧ D.nx σ (upd H2 a (.ins C dx (putF f y fs)))) : sFld K ta tv f D σ H := h
theorem go_iStr {tl : TE} (h : tl σ H fun v H1 => ∃ x, v = .str x ∧ R (Its x) H1) : iStr tl σ H R := h
theorem go_isS {x : Str} (q : R (Its x) H) : ∃ y, V.str x = .str y ∧ R (Its y) H := ⟨x, rfl, q⟩
theorem go_iEnT (h : tr σ H fun vs H1 => ∃ a xs, vs = [.ref a] ∧ SqT K H1 a xs ∧ R (Itet K a xs) H1) : iEnumT K tr σ H R := h
theorem go_isET {a : Addr} {xs : List V} (h : SqT K H a xs) (q : R (Itet K a xs) H) : ∃ b ys, [V.ref a] = [.ref b] ∧ SqT K H b ys ∧ R (Itet K b ys) H := ⟨a, xs, rfl, h, q⟩
/-- C(*xs) and C(e, *xs): a new instance -/
theorem go_makeR (h : tr σ H fun vs H1 => ∀ x dx, H1 x = none → H1 dx = none → dx ≠ x → sp (.ref x :: vs) (upd (upd H1 dx (.own x)) x (.ins C dx [])) (fun v H2 => v = .non ∧ Q (.ref x) H2) E) : StX.tMakeR C sp E tr σ H Q := h
theorem go_star {QA : List V → Hp → Prop} (h : te σ H fun x H1 => ∃ p xs, x = V.ref p ∧ (SqT K H1 p xs ∨ SqL K H1 p xs) ∧ tr σ H1 fun ys H2 => QA (xs ++ ys) H2) : StX.tStar K te tr σ H QA := h
theorem go_starT {p : Addr} {xs : List V} {P : List V → Prop} (h : SqT K H p xs) (q : P xs) : ∃ p' ys, V.ref p = V.ref p' ∧ (SqT K H p' ys ∨ SqL K H p' ys) ∧ P ys := ⟨p, xs, rfl, .inl h, q⟩
/-- C(k = v, ..) -/
theorem go_makeK {n m : Nat} {gV : List V → List V → List V} (h : tr σ H fun vs H1 => tk σ H1 fun zs H2 => vs.length = n ∧ zs.length = m ∧ ∀ x dx, H2 x = none → H2 dx = none → dx ≠ x → sp (gV (.ref x :: vs) zs) (upd (upd H2 dx (.own x)) x (.ins C dx [])) (fun v H3 => v = .non ∧ Q (.ref x) H3) E) : tMakeK C n m sp gV E tr tk σ H Q := h
/-- min, max of a tuple of whole numbers -/
theorem go_leastT {f : Int → Int → Int} {a : Addr} {n : Int} {ns : List Int} (h : SqT K H a (.int n :: ns.map .int)) (q : Q (.int (ns.foldl f n)) H) : rLeast K f [.ref a] H Q := ⟨a, n, ns, rfl, h, q⟩
/-- == and != of an instance -/
theorem go_ownEq {b : Bool} {a dx : Addr} {fs : List (Str × V)} {y : V} {t : Value} (h : H a = some (.ins C dx fs)) (ty : TyX K H y t) (nf : PySem.W.notFirst K C t = true) (q : sp [.ref a, y] H (fun v H' => ∃ c, v = .bl c ∧ Q (.bl (b ^^ c)) H') E) : rOwnEq K C sp E b (.ref a) y H Q := ⟨a, dx, fs, t, rfl, h, ty, nf, q⟩
end
/-! ### a list read where it is changed at once: xs[k] op= e -/
def rGetL (K : PySem.W.Frag) : V → V → Hp → VK → Prop := fun x y H Q => ∃ p xs k v, x = .ref p ∧ y = .int k ∧ 0 ≤ k ∧ k < 2 ^ 63 ∧ SqL K H p xs ∧ xs[k.toNat]? = some v ∧ Q v H
theorem get_list {X : Cx} : PGet X (rGetL X.K) := by
  intro pins s σ H o i ov iv Q I ro ri ⟨p, xs, k, v, eo, ei, h0, h1, hq, hv, q⟩
  subst eo ei
  obtain ⟨t, rfl⟩ := (show ∃ t, iv = Value.int k t from ri)
  cases (show ov = Value.ref p from ro)
  obtain ⟨its, rv, pl, _⟩ := I.list hq
  obtain ⟨u, hu, ru⟩ := rv.get hv
  exact wpAny_getItem_list pl.isList h0 h1 (by rw [List.getElem?_toArray]; exact hu) ⟨v, H, I, ru, q⟩
/-! ### a dict of the module, read -/
def rKd (K : PySem.W.Frag) (d : Addr) : R2 := fun x y H Q => ∃ (z : Str) (u0 : Value) (v0 : V), x = .ref d ∧ y = .str z ∧ PySem.W.nsIn K d z = some (some u0) ∧ RelV v0 u0 ∧ Q v0 H
theorem ix_kd {X : Cx} {d : Addr} {es : Array DictEntry} {n : Nat} (D : KDict X.K X.w d es n) : IxR X (rKd X.K d) := by
  intro value slice pins s σ H x y v u Q I rx ry ⟨z, u0, v0, ex, ey, e, r, q⟩ hs
  exact ix_kdict value slice pins s σ H x y v u Q I rx ry ⟨d, z, v0, ex, ey, ⟨es, n, u0, D.at_, D.lit, e, r⟩, q⟩ hs
/-! ### what a walk gives, where the heap only grows -/
theorem walk_enT {K : PySem.W.Frag} {a : Addr} {xs : List V} : Walk (Itet K a xs) xs.length (fun H => SqT K H a xs) (YPair (fun i => some (.int (i : Nat))) fun i => xs[i]?) where
  goes i H hi h := ⟨h, hi⟩
  stops H h := ⟨h, rfl⟩
  yields i H x H' hi h y := by
    obtain ⟨T, z, e1, e2, e3, e4⟩ := y
    exact ⟨T, _, z, e1, e2, e4, rfl, e3⟩
/-- what tLc asks behind its iterator -/
def Lcs (J : It) (g : TG) (te : TE) (vs : List Nat) (σ : L2.St) (H : Hp) (Q : VK) : Prop := tLc (fun _ G R => R J G) g tYes te vs σ H Q
/-- a comprehension that keeps all, its i-th item ys[i] -/
theorem lc_all {J : It} {n : Nat} {G : Hp → Prop} {Y : Nat → Hp → V → Hp → Prop} (w : Walk J n G Y) {g : TG} {te : TE} {vs : List Nat} {σ : L2.St} {H1 : Hp} {Q : VK} (ys : List V) (hn : ys.length = n) (hz : n ≤ 60000)
    (hG : ∀ H, Ext H1 H → G H)
    (hs : ∀ d, H1 d = none → ∀ i x y H H' (QE : VK), ys[i]? = some y → Ext H1 H → Y i H x H' → (∀ H4, Ext H H4 → QE y H4) → g x (wipe σ vs) H' fun σ2 H2 => wipe σ2 vs = wipe σ vs ∧ te σ2 H2 QE)
    (hm : ∀ {x : V} {τ : L2.St} {H : Hp} {P P' : L2.St → Hp → Prop}, (∀ τ H, P τ H → P' τ H) → g x τ H P → g x τ H P')
    (hd : ∀ d, H1 d = none → ∀ H, Ext H1 H → H d = some (.lst ys) → Q (.ref d) H) : Lcs J g te vs σ H1 Q := by
  intro D nD
  refine lc_it w (fun i H => Ext H1 H ∧ H D = some (.lst (ys.take i))) ⟨Evl.Ex.new nD, upd_same⟩ (fun i H _ p => hG H p.1) (fun i x H H' hi p y => ?_) fun H p => hd D nD H p.1 (by rw [p.2, ← hn, List.take_length])
  obtain ⟨z, hz'⟩ : ∃ z, ys[i]? = some z := ⟨_, List.getElem?_eq_getElem (hn ▸ hi)⟩
  refine hm (fun τ H2 q => q) (hs D nD i x z H H' (fun v H4 => ∃ acc, H4 D = some (.lst acc) ∧ acc.length < sizeLine ∧ Ext H1 (upd H4 D (.lst (acc ++ [v]))) ∧ upd H4 D (.lst (acc ++ [v])) D = some (.lst (ys.take (i + 1)))) hz' p.1 y fun H4 e => ?_)
  refine ⟨_, e _ _ p.2, ?_, (p.1.trans e).mut nD, ?_⟩
  · rw [List.length_take, sizeLine_eq]
    omega
  · rw [upd_same, List.take_add_one, hz']
    rfl
theorem mono_name {i : Nat} {x : V} {τ : L2.St} {H : Hp} {P P' : L2.St → Hp → Prop} (h : ∀ τ H, P τ H → P' τ H) (q : gName i x τ H P) : gName i x τ H P' := h _ _ q
end At

namespace At
open L2 PyProof.Rows PySem.Spec PySem
/-! ### what the head is asked of an own class -/
def GR : Int := 10 ^ 60 * 10 ^ 60 * 10 ^ 60 * 10 ^ 60 * 10 ^ 60
def MT : Int := 10 ^ 62 * 10 ^ 62 * 10 ^ 62 * 10 ^ 62 * 10 ^ 62
def method (K : PySem.W.Frag) (c m : Str) : Addr := He.ma K (He.ga K c) m
/-- where the property's own object stands, and its getter -/
def propAt (K : PySem.W.Frag) (c p : Str) : Addr := match PySem.W.findIn K (.ref (He.ga K c)) p with
  | some (some (.ref a)) => a
  | _ => 0
def getter (K : PySem.W.Frag) (c p : Str) : Addr := match PySem.W.recIn K (propAt K c p) "property" with
  | some (.ref g :: _) => g
  | _ => 0
def atG (x : Str) (s : Stmt) : He5.DefA := ⟨fun K => He.ga K x, x, x, defArgs s, defBody s, defScope s, [], []⟩
def atM (c m q : Str) (s : Stmt) : He5.DefA := ⟨fun K => method K c m, m, q, defArgs s, defBody s, defScope s, [], []⟩
def atP (c m q : Str) (s : Stmt) : He5.DefA := ⟨fun K => getter K c m, m, q, defArgs s, defBody s, defScope s, [], []⟩
def starts (g : Addr) : Option (List Value) → Bool
  | some (v :: _) => v == .ref g
  | _ => false
def propOk (K : PySem.W.Frag) (c p : Str) : Bool := decide (PySem.W.findIn K (.ref (He.ga K c)) p = some (some (.ref (propAt K c p)))) && (decide (PySem.W.specialIn K (.ref (propAt K c p)) "__get__" = some (some (.builtin "property.__get__"))) &&
  (decide (PySem.W.takesIn K (.ref (propAt K c p)) = some true) && starts (getter K c p) (PySem.W.recIn K (propAt K c p) "property")))
def eqOk (K : PySem.W.Frag) (c : Str) : Bool := decide (PySem.W.findIn K (.ref (He.ga K c)) "__eq__" = some (some (.ref (method K c "__eq__")))) && (PySem.W.isFn K (.ref (method K c "__eq__")) &&
  (decide (PySem.W.findIn K (.ref (He.ga K c)) "__ne__" = some (some (.builtin "object.__ne__"))) && decide (PySem.W.mroIn K (He.ga K c) (.type "object") = some true)))
def isOk (K : PySem.W.Frag) (c : Str) : Bool := decide (PySem.W.findIn K (.ref (He.ga K c)) "__class__" = some (some (.builtin "object.__class__"))) && (decide (PySem.W.specialIn K (.builtin "object.__class__") "__get__" = some (some (.builtin "getset_descriptor.__get__"))) &&
  (decide (PySem.W.takesIn K (.builtin "object.__class__") = some true) && (decide (PySem.W.mroIn K (He.ga K c) (.type "object") = some true) && (decide (PySem.W.kitOne K (.type "tuple") (.ref (He.ga K c)) = some false) && PySem.W.notFirst K (He.ga K c) (.type "tuple")))))
section
variable {K : PySem.W.Frag} {c p : Str}
theorem propOk.of (h : propOk K c p = true) : PropOf K (He.ga K c) p (propAt K c p) (getter K c p) := by
  unfold propOk at h
  (simp only [Bool.and_eq_true, decide_eq_true_eq] at h)
  obtain ⟨h1, h2, h3, h4⟩ := h
  refine ⟨h1, h2, h3, ?_⟩
  match e : PySem.W.recIn K (propAt K c p) "property", h4 with
  | some (v :: r), h4 => exact ⟨r, by rw [eq_of_beq (show (v == .ref (getter K c p)) = true from h4)]⟩
theorem eqOk.of (h : eqOk K c = true) : EqAt_ K (He.ga K c) (method K c "__eq__") := by
  unfold eqOk at h
  (simp only [Bool.and_eq_true, decide_eq_true_eq] at h)
  obtain ⟨h1, h2, h3, h4⟩ := h
  exact ⟨h1, h2, h3, h4⟩
/-- an instance's class, as isinstance and == see it -/
theorem isOk.ty (h : isOk K c = true) (cl : Cls K (He.ga K c)) {H : Hp} {a dx : Addr} {fs : List (Str × V)} (e : H a = some (.ins (He.ga K c) dx fs)) : TyX K H (.ref a) (.ref (He.ga K c)) := by
  unfold isOk at h
  (simp only [Bool.and_eq_true, decide_eq_true_eq] at h)
  obtain ⟨h1, h2, h3, h4, _⟩ := h
  exact .base (.ins e cl h1 h2 h3 h4)
theorem isOk.no (h : isOk K c = true) : PySem.W.kitOne K (.type "tuple") (.ref (He.ga K c)) = some false := by
  unfold isOk at h
  (simp only [Bool.and_eq_true, decide_eq_true_eq] at h)
  exact h.2.2.2.2.1
theorem isOk.tup (h : isOk K c = true) : PySem.W.notFirst K (He.ga K c) (.type "tuple") = true := by
  unfold isOk at h
  (simp only [Bool.and_eq_true, decide_eq_true_eq] at h)
  exact h.2.2.2.2.2
theorem same_first (C : Addr) : PySem.W.notFirst K C (.ref C) = true := by
  unfold PySem.W.notFirst
  rw [show (Value.ref C == Value.ref C) = true from beq_self_eq_true _, Bool.true_or]
theorem same_kit (C : Addr) : PySem.W.kitOne K (.ref C) (.ref C) = some true := by
  unfold PySem.W.kitOne
  (rw [if_pos (beq_self_eq_true _)])
end
/-- a def's promise, where it stands -/
def OkD (P : Program) (w : World) (K : PySem.W.Frag) (mg : Str → Option Value) (base : Heap) (k : Nat) (f : Addr) (ps : List Str) (sp : Sp) : Prop :=
  ∃ fd, FnOk P w K mg base CX0 k f fd ps sp ∧ Binds K fd ps [] ∧ PySem.W.keepIn K (.ref f) = true
theorem plainR {P : Program} {w : World} {K : PySem.W.Frag} {mg : Str → Option Value} {base : Heap} {CX : CXT} {k : Nat} {f : Addr} {fd : FuncData} {ps : List Str} {sp : Sp} (F : FnOk P w K mg base CX k f fd ps sp) (b : Binds K fd ps []) : FnR P w K mg base CX k f sp :=
  (F.raw b .nil).imp fun vs H Q E h => by rw [List.append_nil]; exact h
/-- f(k = v, ..) and C(k = v, ..): all parameters by keywords -/
theorem kbn_of {K : PySem.W.Frag} {x q : Str} {st : Stmt} {f : Addr} {fd : FuncData} {ps : List Str} (F : Fun K x q st f fd) (n : Nat) (ks : List Str) (g : {α : Type} → List α → List α → List α) (hr : ∀ {vs : List V} {us : List Value} {zs : List V} {ws : List Value}, Vals vs us → Vals zs ws → Vals (g vs zs) (g us ws))
    (h : ∀ (kV doc pm : Value) (an : Option Addr) (cdv ct : Value) (us ws : List Value), us.length = n → ws.length = ks.length → bindArgs (PySem.W.fnOf x q (defArgs st) (defBody st) (defScope st) .none kV doc pm an cdv ct) ⟨us, ks.zip ws⟩ = pure (ps.zip (g us ws))) :
    KBn K fd ps n ks (fun us ws => g us ws) (fun vs zs => g vs zs) := by
  obtain ⟨_, _, kV, doc, pm, an, cdv, ct, _, rfl, _, _⟩ := F.ex
  exact ⟨fun s us ws _ l1 l2 => .of_eq (h kV doc pm an cdv ct us ws l1 l2), hr⟩
end At

namespace At
open L2 PyProof.Rows PySem.Spec PySem
/-! ### a module's tuple of texts, asked of the head -/
def textsAre : List Value → List Str → Bool
  | [], [] => true
  | .str z _ :: us, y :: ys => decide (z = y) && textsAre us ys
  | _, _ => false
def tupleOf (o : Obj) (zs : List Str) : Bool := (o.cls == .type "tuple") && (match o.data with
  | .seq its _ => decide (its.size ≤ 1000) && textsAre its.toList zs
  | _ => false)
def tupS (K : PySem.W.Frag) (a : Addr) (zs : List Str) : Bool := match K.lookup a with
  | some o => tupleOf o zs
  | none => false
theorem textsAre.vals : ∀ {us : List Value} {zs : List Str}, textsAre us zs = true → Vals (zs.map V.str) us
  | [], [], _ => .nil
  | .str z t :: us, y :: ys, h => by
    have h : (decide (z = y) && textsAre us ys) = true := h
    (rw [Bool.and_eq_true, decide_eq_true_eq] at h)
    obtain ⟨rfl, h2⟩ := h
    exact .cons ⟨t, rfl⟩ (textsAre.vals h2)
theorem tupleOf.of {o : Obj} {zs : List Str} (h : tupleOf o zs = true) : ∃ its n, o.cls = .type "tuple" ∧ o.data = .seq its n ∧ its.size ≤ 1000 ∧ Vals (zs.map V.str) its.toList := by
  obtain ⟨c, d, da, sl⟩ := o
  unfold tupleOf at h
  rw [Bool.and_eq_true] at h
  obtain ⟨h1, h2⟩ := h
  cases da with
  | seq its n =>
    dsimp only at h2
    rw [Bool.and_eq_true, decide_eq_true_eq] at h2
    exact ⟨its, n, eq_of_beq h1, rfl, h2.1, textsAre.vals h2.2⟩
  | _ => cases h2
theorem thousand : 1000 ≤ sizeLine := by decide +kernel
theorem tupS.of {K : PySem.W.Frag} {a : Addr} {zs : List Str} (h : tupS K a zs = true) {H : Hp} : SqT K H a (zs.map V.str) := by
  cases e : K.lookup a with
  | none =>
    unfold tupS at h
    rw [e] at h
    cases h
  | some o =>
    have h2 : tupleOf o zs = true := by
      unfold tupS at h
      rw [e] at h
      exact h
    obtain ⟨its, n, c1, c2, c3, c4⟩ := tupleOf.of h2
    exact .inr ⟨o, its, n, e, c1, c2, Nat.le_trans c3 thousand, c4⟩
end At

namespace At
open L2 PyProof.Rows PySem.Spec PySem
def top (i : Nat) : Stmt := PySem.Challenge.pw_arrowtrios_k52_whole_own_namings_of_kind.main.body.getD i (.Pass ⟨0, 0, 0, 0⟩)
abbrev s_places_of : Stmt := top 9
abbrev s_is_integer : Stmt := top 11
abbrev s_is_integer_within : Stmt := top 12
abbrev s_place_before : Stmt := top 14
abbrev s_place_behind : Stmt := top 15
abbrev s_sizes_of : Stmt := top 16
abbrev s_goes_round : Stmt := top 17
abbrev s_mark_of : Stmt := top 18
abbrev s_turned_at : Stmt := top 19
abbrev s_opposite_greatest : Stmt := top 20
abbrev s_place_down : Stmt := top 21
abbrev s_arrows_between : Stmt := top 22
abbrev s_renamed_by : Stmt := top 23
abbrev s_behind_even : Stmt := top 25
abbrev s_way_to : Stmt := top 28
abbrev s_partner_of : Stmt := top 29
abbrev s_even_turns : Stmt := top 30
abbrev s_foot_of : Stmt := top 32
abbrev s_ways_from : Stmt := top 33
abbrev s_check_numbers : Stmt := top 37
abbrev s_check_standing : Stmt := top 38
abbrev s_renamed : Stmt := top 39
abbrev s_least : Stmt := top 41
abbrev s_foot : Stmt := top 42
abbrev s_free_ones : Stmt := top 43
abbrev s_naming_between : Stmt := top 45
abbrev s_own_namings : Stmt := top 46
abbrev s_namings_between : Stmt := top 47
abbrev s__law_cell : Stmt := top 49
abbrev s__law_purse : Stmt := top 50
abbrev s__law_roll : Stmt := top 51
abbrev s__law_pushed : Stmt := top 52
abbrev s__law_turn : Stmt := top 53
abbrev s__law_walk : Stmt := top 54
abbrev s__law_is_round : Stmt := top 55
abbrev s__law_pick : Stmt := top 56
abbrev s__law_led : Stmt := top 57
abbrev s__law_trio : Stmt := top 58
abbrev s__law_near : Stmt := top 59
abbrev s__law_room : Stmt := top 60
abbrev s__law_renamed : Stmt := top 61
abbrev s__law_fitting : Stmt := top 62
abbrev s__law_behind : Stmt := top 63
abbrev s__law_case_right : Stmt := top 64
abbrev s_law : Stmt := top 65
abbrev s_Standing___init__ : Stmt := inClass (top 36) 0
abbrev s_Standing_numbers : Stmt := inClass (top 36) 1
abbrev s_Standing_sizes : Stmt := inClass (top 36) 2
abbrev s_Standing_mark : Stmt := inClass (top 36) 4
abbrev s_Standing___eq__ : Stmt := inClass (top 36) 5
abbrev s_Way___init__ : Stmt := inClass (top 27) 0
def fa : List He.Fa := ([.glo "places_of", .glo "is_integer", .glo "is_integer_within", .glo "place_before", .glo "place_behind", .glo "sizes_of", .glo "goes_round", .glo "mark_of", .glo "turned_at", .glo "opposite_greatest", .glo "place_down", .glo "arrows_between", .glo "renamed_by", .glo "behind_even", .glo "way_to", .glo "partner_of", .glo "even_turns", .glo "foot_of", .glo "ways_from", .glo "check_numbers", .glo "check_standing", .glo "renamed", .glo "least", .glo "foot", .glo "free_ones", .glo "naming_between", .glo "own_namings", .glo "namings_between", .glo "_law_cell", .glo "_law_purse"] : List He.Fa) ++ ([.glo "_law_roll", .glo "_law_pushed", .glo "_law_turn", .glo "_law_walk", .glo "_law_is_round", .glo "_law_pick", .glo "_law_led", .glo "_law_trio", .glo "_law_near", .glo "_law_room", .glo "_law_renamed", .glo "_law_fitting", .glo "_law_behind", .glo "_law_case_right", .glo "law", .glo "Standing", .cls "Standing", .mkr "Standing", .noat "Standing" "_numbers", .glo "Way", .cls "Way", .mkr "Way", .noat "Way" "entry", .noat "Way" "pair", .noat "Way" "many", .noat "Way" "above", .int "GREATEST" (GR), .glo "PLACE_OF", .glo "NAMINGS", .free "len"] : List He.Fa) ++ ([.free "range", .free "min", .free "max", .free "abs", .free "isinstance", .free "int", .free "bool", .free "str", .free "tuple", .free "list", .free "all", .free "enumerate", .free "sum", .free "divmod", .free "repr", .free "sorted"] : List He.Fa)
def fn : List He5.DefA := ([atG "places_of" s_places_of, atG "is_integer" s_is_integer, atG "is_integer_within" s_is_integer_within, atG "place_before" s_place_before, atG "place_behind" s_place_behind, atG "sizes_of" s_sizes_of, atG "goes_round" s_goes_round, atG "mark_of" s_mark_of, atG "turned_at" s_turned_at, atG "opposite_greatest" s_opposite_greatest, atG "place_down" s_place_down, atG "arrows_between" s_arrows_between, atG "renamed_by" s_renamed_by, atG "behind_even" s_behind_even, atG "way_to" s_way_to, atG "partner_of" s_partner_of, atG "even_turns" s_even_turns, atG "foot_of" s_foot_of, atG "ways_from" s_ways_from, atG "check_numbers" s_check_numbers, atG "check_standing" s_check_standing, atG "renamed" s_renamed, atG "least" s_least, atG "foot" s_foot, atG "free_ones" s_free_ones, atG "naming_between" s_naming_between, atG "own_namings" s_own_namings, atG "namings_between" s_namings_between, atG "_law_cell" s__law_cell, atG "_law_purse" s__law_purse] : List He5.DefA) ++ ([atG "_law_roll" s__law_roll, atG "_law_pushed" s__law_pushed, atG "_law_turn" s__law_turn, atG "_law_walk" s__law_walk, atG "_law_is_round" s__law_is_round, atG "_law_pick" s__law_pick, atG "_law_led" s__law_led, atG "_law_trio" s__law_trio, atG "_law_near" s__law_near, atG "_law_room" s__law_room, atG "_law_renamed" s__law_renamed, atG "_law_fitting" s__law_fitting, atG "_law_behind" s__law_behind, atG "_law_case_right" s__law_case_right, atG "law" s_law, atM "Standing" "__init__" "Standing.__init__" s_Standing___init__, atP "Standing" "numbers" "Standing.numbers" s_Standing_numbers, atP "Standing" "sizes" "Standing.sizes" s_Standing_sizes, atP "Standing" "mark" "Standing.mark" s_Standing_mark, atM "Standing" "__eq__" "Standing.__eq__" s_Standing___eq__, atM "Way" "__init__" "Way.__init__" s_Way___init__] : List He5.DefA)
def ts : List He.Tab := [(fun K => He.ga K "PLACE_OF", ["a", "b", "c"])]
def ex (K : PySem.W.Frag) : Bool := propOk K "Standing" "numbers" && (propOk K "Standing" "sizes" && (propOk K "Standing" "mark" && (eqOk K "Standing" && (isOk K "Standing" && (isOk K "Way" && (He.valsB K (He.ga K "PLACE_OF") [("a", .int 0), ("b", .int 1), ("c", .int 2)] && (tupS K (He.ga K "NAMINGS") ["abc", "acb", "bac", "bca", "cab", "cba"])))))))
def tabsOf (K : PySem.W.Frag) : List (Option (List (Option (Str × Int)))) := ts.map fun t => He.dicW K (t.1 K)
def tabsAt (w : World) : List (Option (List (Option (Str × Int)))) := ts.map fun t => some (He.keysIn w.params t.2)
abbrev Seen : Type := (He.AlD × List (Option (List (Option (Str × Int))))) × Bool
def seen_at : List Addr := ([3, 190, 191, 192, 193, 194, 195, 196, 197, 198, 199, 200, 201, 202, 203, 204, 205, 206, 207, 208, 209, 210, 211, 212, 213, 214, 215, 216, 217, 218, 219, 220, 221, 222, 223, 224, 225, 226, 227, 268, 269, 270, 271, 272, 273, 274, 275, 276, 277, 278, 279, 280, 281, 282, 283, 284, 285, 286, 287, 288] : List Addr) ++ ([289, 290, 291, 292, 293, 294, 295, 296, 297, 298, 299, 300, 301, 302, 303, 304, 305, 306, 307, 308, 309, 310, 311, 312, 313, 314, 315, 316, 317, 318, 319, 320, 321, 322, 323, 4, 6, 5, 21, 20, 38, 37, 58, 57, 77, 76, 96, 95, 99, 98, 104, 103, 111, 110, 118, 117, 125, 124, 132, 131] : List Addr) ++ ([137, 136, 144, 143, 151, 150, 158, 157, 165, 164, 172, 171, 179, 178, 184, 183, 189, 188, 238, 237, 245, 244, 252, 251, 259, 258, 266, 265, 267, 334, 333, 341, 340, 348, 347, 355, 354, 362, 361, 367, 366, 374, 373, 381, 380, 386, 385, 393, 392, 400, 399, 407, 406, 414, 413, 421, 420, 428, 427, 435] : List Addr) ++ ([434, 442, 441, 447, 446, 452, 451, 457, 456, 462, 461, 469, 468, 474, 473, 479, 478, 484, 483, 491, 490, 2] : List Addr)
def part (_ : Nat) (g : Addr → Option Obj) : PySem.W.Frag := He.frG g seen_at
def looks (n : Nat) (g : Addr → Option Obj) : Seen := ((He5.obsA fa fn (part n g), tabsOf (part n g)), ex (part n g))
def hook (n : Nat) : PySem.W.Hook where
  α := Seen
  obs s := looks n s.heap.get?
  val w := ((He5.valA fn, tabsAt w), true)
  says w h := ∃ K : PySem.W.Frag, K.In h ∧ He5.SaysA fa fn K ∧ tabsOf K = tabsAt w ∧ ex K = true
  of _ _ e := ⟨_, He.frG_in, congrArg (fun z : Seen => z.1.1) e, congrArg (fun z : Seen => z.1.2) e, congrArg Prod.snd e⟩
  keeps _ _ _ z k := let ⟨K, i, c⟩ := z; ⟨K, PySem.W.Frag.In.keeps i k, c⟩
structure Top (w : World) (K : PySem.W.Frag) (mg : Str → Option Value) : Prop where
  s : He5.SaysA fa fn K
  t : tabsOf K = tabsAt w
  e : ex K = true
  x : ∃ h : Heap, K.In h ∧ h.Ns mainGlobals mg
section
variable {w : World} {K : PySem.W.Frag} {mg : Str → Option Value}
theorem Top.tab (T : Top w K mg) (i : Nat) {t : He.Tab} (h : ts[i]? = some t := by rfl) : ∃ es n, KDict K w (t.1 K) es n := by
  have e : (ts.map fun t => He.dicW K (t.1 K))[i]? = (ts.map fun t => some (He.keysIn w.params t.2))[i]? := congrArg (fun z : List (Option (List (Option (Str × Int)))) => z[i]?) T.t
  rw [List.getElem?_map, List.getElem?_map, h] at e
  exact He.dicW_ok (Option.some.inj e)
theorem Top.g_places_of (T : Top w K mg) : mg "places_of" = some (.ref (He.ga K "places_of")) := let ⟨_, X, G⟩ := T.x; He.glo_ok X G (T.s.fact 0)
theorem Top.g_is_integer (T : Top w K mg) : mg "is_integer" = some (.ref (He.ga K "is_integer")) := let ⟨_, X, G⟩ := T.x; He.glo_ok X G (T.s.fact 1)
theorem Top.g_is_integer_within (T : Top w K mg) : mg "is_integer_within" = some (.ref (He.ga K "is_integer_within")) := let ⟨_, X, G⟩ := T.x; He.glo_ok X G (T.s.fact 2)
theorem Top.g_place_before (T : Top w K mg) : mg "place_before" = some (.ref (He.ga K "place_before")) := let ⟨_, X, G⟩ := T.x; He.glo_ok X G (T.s.fact 3)
theorem Top.g_place_behind (T : Top w K mg) : mg "place_behind" = some (.ref (He.ga K "place_behind")) := let ⟨_, X, G⟩ := T.x; He.glo_ok X G (T.s.fact 4)
theorem Top.g_sizes_of (T : Top w K mg) : mg "sizes_of" = some (.ref (He.ga K "sizes_of")) := let ⟨_, X, G⟩ := T.x; He.glo_ok X G (T.s.fact 5)
theorem Top.g_goes_round (T : Top w K mg) : mg "goes_round" = some (.ref (He.ga K "goes_round")) := let ⟨_, X, G⟩ := T.x; He.glo_ok X G (T.s.fact 6)
theorem Top.g_mark_of (T : Top w K mg) : mg "mark_of" = some (.ref (He.ga K "mark_of")) := let ⟨_, X, G⟩ := T.x; He.glo_ok X G (T.s.fact 7)
theorem Top.g_turned_at (T : Top w K mg) : mg "turned_at" = some (.ref (He.ga K "turned_at")) := let ⟨_, X, G⟩ := T.x; He.glo_ok X G (T.s.fact 8)
theorem Top.g_opposite_greatest (T : Top w K mg) : mg "opposite_greatest" = some (.ref (He.ga K "opposite_greatest")) := let ⟨_, X, G⟩ := T.x; He.glo_ok X G (T.s.fact 9)
theorem Top.g_place_down (T : Top w K mg) : mg "place_down" = some (.ref (He.ga K "place_down")) := let ⟨_, X, G⟩ := T.x; He.glo_ok X G (T.s.fact 10)
theorem Top.g_arrows_between (T : Top w K mg) : mg "arrows_between" = some (.ref (He.ga K "arrows_between")) := let ⟨_, X, G⟩ := T.x; He.glo_ok X G (T.s.fact 11)
theorem Top.g_renamed_by (T : Top w K mg) : mg "renamed_by" = some (.ref (He.ga K "renamed_by")) := let ⟨_, X, G⟩ := T.x; He.glo_ok X G (T.s.fact 12)
theorem Top.g_behind_even (T : Top w K mg) : mg "behind_even" = some (.ref (He.ga K "behind_even")) := let ⟨_, X, G⟩ := T.x; He.glo_ok X G (T.s.fact 13)
theorem Top.g_way_to (T : Top w K mg) : mg "way_to" = some (.ref (He.ga K "way_to")) := let ⟨_, X, G⟩ := T.x; He.glo_ok X G (T.s.fact 14)
theorem Top.g_partner_of (T : Top w K mg) : mg "partner_of" = some (.ref (He.ga K "partner_of")) := let ⟨_, X, G⟩ := T.x; He.glo_ok X G (T.s.fact 15)
theorem Top.g_even_turns (T : Top w K mg) : mg "even_turns" = some (.ref (He.ga K "even_turns")) := let ⟨_, X, G⟩ := T.x; He.glo_ok X G (T.s.fact 16)
theorem Top.g_foot_of (T : Top w K mg) : mg "foot_of" = some (.ref (He.ga K "foot_of")) := let ⟨_, X, G⟩ := T.x; He.glo_ok X G (T.s.fact 17)
theorem Top.g_ways_from (T : Top w K mg) : mg "ways_from" = some (.ref (He.ga K "ways_from")) := let ⟨_, X, G⟩ := T.x; He.glo_ok X G (T.s.fact 18)
theorem Top.g_check_numbers (T : Top w K mg) : mg "check_numbers" = some (.ref (He.ga K "check_numbers")) := let ⟨_, X, G⟩ := T.x; He.glo_ok X G (T.s.fact 19)
theorem Top.g_check_standing (T : Top w K mg) : mg "check_standing" = some (.ref (He.ga K "check_standing")) := let ⟨_, X, G⟩ := T.x; He.glo_ok X G (T.s.fact 20)
theorem Top.g_renamed (T : Top w K mg) : mg "renamed" = some (.ref (He.ga K "renamed")) := let ⟨_, X, G⟩ := T.x; He.glo_ok X G (T.s.fact 21)
theorem Top.g_least (T : Top w K mg) : mg "least" = some (.ref (He.ga K "least")) := let ⟨_, X, G⟩ := T.x; He.glo_ok X G (T.s.fact 22)
theorem Top.g_foot (T : Top w K mg) : mg "foot" = some (.ref (He.ga K "foot")) := let ⟨_, X, G⟩ := T.x; He.glo_ok X G (T.s.fact 23)
theorem Top.g_free_ones (T : Top w K mg) : mg "free_ones" = some (.ref (He.ga K "free_ones")) := let ⟨_, X, G⟩ := T.x; He.glo_ok X G (T.s.fact 24)
theorem Top.g_naming_between (T : Top w K mg) : mg "naming_between" = some (.ref (He.ga K "naming_between")) := let ⟨_, X, G⟩ := T.x; He.glo_ok X G (T.s.fact 25)
theorem Top.g_own_namings (T : Top w K mg) : mg "own_namings" = some (.ref (He.ga K "own_namings")) := let ⟨_, X, G⟩ := T.x; He.glo_ok X G (T.s.fact 26)
theorem Top.g_namings_between (T : Top w K mg) : mg "namings_between" = some (.ref (He.ga K "namings_between")) := let ⟨_, X, G⟩ := T.x; He.glo_ok X G (T.s.fact 27)
theorem Top.g__law_cell (T : Top w K mg) : mg "_law_cell" = some (.ref (He.ga K "_law_cell")) := let ⟨_, X, G⟩ := T.x; He.glo_ok X G (T.s.fact 28)
theorem Top.g__law_purse (T : Top w K mg) : mg "_law_purse" = some (.ref (He.ga K "_law_purse")) := let ⟨_, X, G⟩ := T.x; He.glo_ok X G (T.s.fact 29)
theorem Top.g__law_roll (T : Top w K mg) : mg "_law_roll" = some (.ref (He.ga K "_law_roll")) := let ⟨_, X, G⟩ := T.x; He.glo_ok X G (T.s.fact 30)
theorem Top.g__law_pushed (T : Top w K mg) : mg "_law_pushed" = some (.ref (He.ga K "_law_pushed")) := let ⟨_, X, G⟩ := T.x; He.glo_ok X G (T.s.fact 31)
theorem Top.g__law_turn (T : Top w K mg) : mg "_law_turn" = some (.ref (He.ga K "_law_turn")) := let ⟨_, X, G⟩ := T.x; He.glo_ok X G (T.s.fact 32)
theorem Top.g__law_walk (T : Top w K mg) : mg "_law_walk" = some (.ref (He.ga K "_law_walk")) := let ⟨_, X, G⟩ := T.x; He.glo_ok X G (T.s.fact 33)
theorem Top.g__law_is_round (T : Top w K mg) : mg "_law_is_round" = some (.ref (He.ga K "_law_is_round")) := let ⟨_, X, G⟩ := T.x; He.glo_ok X G (T.s.fact 34)
theorem Top.g__law_pick (T : Top w K mg) : mg "_law_pick" = some (.ref (He.ga K "_law_pick")) := let ⟨_, X, G⟩ := T.x; He.glo_ok X G (T.s.fact 35)
theorem Top.g__law_led (T : Top w K mg) : mg "_law_led" = some (.ref (He.ga K "_law_led")) := let ⟨_, X, G⟩ := T.x; He.glo_ok X G (T.s.fact 36)
theorem Top.g__law_trio (T : Top w K mg) : mg "_law_trio" = some (.ref (He.ga K "_law_trio")) := let ⟨_, X, G⟩ := T.x; He.glo_ok X G (T.s.fact 37)
theorem Top.g__law_near (T : Top w K mg) : mg "_law_near" = some (.ref (He.ga K "_law_near")) := let ⟨_, X, G⟩ := T.x; He.glo_ok X G (T.s.fact 38)
theorem Top.g__law_room (T : Top w K mg) : mg "_law_room" = some (.ref (He.ga K "_law_room")) := let ⟨_, X, G⟩ := T.x; He.glo_ok X G (T.s.fact 39)
theorem Top.g__law_renamed (T : Top w K mg) : mg "_law_renamed" = some (.ref (He.ga K "_law_renamed")) := let ⟨_, X, G⟩ := T.x; He.glo_ok X G (T.s.fact 40)
theorem Top.g__law_fitting (T : Top w K mg) : mg "_law_fitting" = some (.ref (He.ga K "_law_fitting")) := let ⟨_, X, G⟩ := T.x; He.glo_ok X G (T.s.fact 41)
theorem Top.g__law_behind (T : Top w K mg) : mg "_law_behind" = some (.ref (He.ga K "_law_behind")) := let ⟨_, X, G⟩ := T.x; He.glo_ok X G (T.s.fact 42)
theorem Top.g__law_case_right (T : Top w K mg) : mg "_law_case_right" = some (.ref (He.ga K "_law_case_right")) := let ⟨_, X, G⟩ := T.x; He.glo_ok X G (T.s.fact 43)
theorem Top.g_law (T : Top w K mg) : mg "law" = some (.ref (He.ga K "law")) := let ⟨_, X, G⟩ := T.x; He.glo_ok X G (T.s.fact 44)
theorem Top.g_Standing (T : Top w K mg) : mg "Standing" = some (.ref (He.ga K "Standing")) := let ⟨_, X, G⟩ := T.x; He.glo_ok X G (T.s.fact 45)
theorem Top.c_Standing (T : Top w K mg) : Cls K (He.ga K "Standing") := He.cls_ok (T.s.fact 46)
theorem Top.m_Standing (T : Top w K mg) : Mk K (He.ga K "Standing") (He.ma K (He.ga K "Standing") "__init__") := He.mkr_ok (T.s.fact 47)
theorem Top.na_Standing_numbers (T : Top w K mg) : NoAttr K (He.ga K "Standing") "_numbers" := He.noat_ok (T.s.fact 48)
theorem Top.g_Way (T : Top w K mg) : mg "Way" = some (.ref (He.ga K "Way")) := let ⟨_, X, G⟩ := T.x; He.glo_ok X G (T.s.fact 49)
theorem Top.c_Way (T : Top w K mg) : Cls K (He.ga K "Way") := He.cls_ok (T.s.fact 50)
theorem Top.m_Way (T : Top w K mg) : Mk K (He.ga K "Way") (He.ma K (He.ga K "Way") "__init__") := He.mkr_ok (T.s.fact 51)
theorem Top.na_Wayentry (T : Top w K mg) : NoAttr K (He.ga K "Way") "entry" := He.noat_ok (T.s.fact 52)
theorem Top.na_Waypair (T : Top w K mg) : NoAttr K (He.ga K "Way") "pair" := He.noat_ok (T.s.fact 53)
theorem Top.na_Waymany (T : Top w K mg) : NoAttr K (He.ga K "Way") "many" := He.noat_ok (T.s.fact 54)
theorem Top.na_Wayabove (T : Top w K mg) : NoAttr K (He.ga K "Way") "above" := He.noat_ok (T.s.fact 55)
theorem Top.n_GREATEST (T : Top w K mg) : ∃ u, mg "GREATEST" = some u ∧ RelV (.int (GR)) u := let ⟨_, X, G⟩ := T.x; let ⟨t, e⟩ := He.int_ok X G (T.s.fact 56); ⟨_, e, t, rfl⟩
theorem Top.g_PLACE_OF (T : Top w K mg) : mg "PLACE_OF" = some (.ref (He.ga K "PLACE_OF")) := let ⟨_, X, G⟩ := T.x; He.glo_ok X G (T.s.fact 57)
theorem Top.g_NAMINGS (T : Top w K mg) : mg "NAMINGS" = some (.ref (He.ga K "NAMINGS")) := let ⟨_, X, G⟩ := T.x; He.glo_ok X G (T.s.fact 58)
theorem Top.b_len (T : Top w K mg) : mg "len" = none := let ⟨_, X, G⟩ := T.x; He.free_ok X G (T.s.fact 59)
theorem Top.b_range (T : Top w K mg) : mg "range" = none := let ⟨_, X, G⟩ := T.x; He.free_ok X G (T.s.fact 60)
theorem Top.b_min (T : Top w K mg) : mg "min" = none := let ⟨_, X, G⟩ := T.x; He.free_ok X G (T.s.fact 61)
theorem Top.b_max (T : Top w K mg) : mg "max" = none := let ⟨_, X, G⟩ := T.x; He.free_ok X G (T.s.fact 62)
theorem Top.b_abs (T : Top w K mg) : mg "abs" = none := let ⟨_, X, G⟩ := T.x; He.free_ok X G (T.s.fact 63)
theorem Top.b_isinstance (T : Top w K mg) : mg "isinstance" = none := let ⟨_, X, G⟩ := T.x; He.free_ok X G (T.s.fact 64)
theorem Top.b_int (T : Top w K mg) : mg "int" = none := let ⟨_, X, G⟩ := T.x; He.free_ok X G (T.s.fact 65)
theorem Top.b_bool (T : Top w K mg) : mg "bool" = none := let ⟨_, X, G⟩ := T.x; He.free_ok X G (T.s.fact 66)
theorem Top.b_str (T : Top w K mg) : mg "str" = none := let ⟨_, X, G⟩ := T.x; He.free_ok X G (T.s.fact 67)
theorem Top.b_tuple (T : Top w K mg) : mg "tuple" = none := let ⟨_, X, G⟩ := T.x; He.free_ok X G (T.s.fact 68)
theorem Top.b_list (T : Top w K mg) : mg "list" = none := let ⟨_, X, G⟩ := T.x; He.free_ok X G (T.s.fact 69)
theorem Top.b_all (T : Top w K mg) : mg "all" = none := let ⟨_, X, G⟩ := T.x; He.free_ok X G (T.s.fact 70)
theorem Top.b_enumerate (T : Top w K mg) : mg "enumerate" = none := let ⟨_, X, G⟩ := T.x; He.free_ok X G (T.s.fact 71)
theorem Top.b_sum (T : Top w K mg) : mg "sum" = none := let ⟨_, X, G⟩ := T.x; He.free_ok X G (T.s.fact 72)
theorem Top.b_divmod (T : Top w K mg) : mg "divmod" = none := let ⟨_, X, G⟩ := T.x; He.free_ok X G (T.s.fact 73)
theorem Top.b_repr (T : Top w K mg) : mg "repr" = none := let ⟨_, X, G⟩ := T.x; He.free_ok X G (T.s.fact 74)
theorem Top.b_sorted (T : Top w K mg) : mg "sorted" = none := let ⟨_, X, G⟩ := T.x; He.free_ok X G (T.s.fact 75)
theorem Top.f_places_of (T : Top w K mg) : ∃ fd, Fun K "places_of" "places_of" s_places_of (He.ga K "places_of") fd := let ⟨fd, F⟩ := T.s.def_ (d := atG "places_of" s_places_of) 0; ⟨fd, He5.fun_of F⟩
theorem Top.f_is_integer (T : Top w K mg) : ∃ fd, Fun K "is_integer" "is_integer" s_is_integer (He.ga K "is_integer") fd := let ⟨fd, F⟩ := T.s.def_ (d := atG "is_integer" s_is_integer) 1; ⟨fd, He5.fun_of F⟩
theorem Top.f_is_integer_within (T : Top w K mg) : ∃ fd, Fun K "is_integer_within" "is_integer_within" s_is_integer_within (He.ga K "is_integer_within") fd := let ⟨fd, F⟩ := T.s.def_ (d := atG "is_integer_within" s_is_integer_within) 2; ⟨fd, He5.fun_of F⟩
theorem Top.f_place_before (T : Top w K mg) : ∃ fd, Fun K "place_before" "place_before" s_place_before (He.ga K "place_before") fd := let ⟨fd, F⟩ := T.s.def_ (d := atG "place_before" s_place_before) 3; ⟨fd, He5.fun_of F⟩
theorem Top.f_place_behind (T : Top w K mg) : ∃ fd, Fun K "place_behind" "place_behind" s_place_behind (He.ga K "place_behind") fd := let ⟨fd, F⟩ := T.s.def_ (d := atG "place_behind" s_place_behind) 4; ⟨fd, He5.fun_of F⟩
theorem Top.f_sizes_of (T : Top w K mg) : ∃ fd, Fun K "sizes_of" "sizes_of" s_sizes_of (He.ga K "sizes_of") fd := let ⟨fd, F⟩ := T.s.def_ (d := atG "sizes_of" s_sizes_of) 5; ⟨fd, He5.fun_of F⟩
theorem Top.f_goes_round (T : Top w K mg) : ∃ fd, Fun K "goes_round" "goes_round" s_goes_round (He.ga K "goes_round") fd := let ⟨fd, F⟩ := T.s.def_ (d := atG "goes_round" s_goes_round) 6; ⟨fd, He5.fun_of F⟩
theorem Top.f_mark_of (T : Top w K mg) : ∃ fd, Fun K "mark_of" "mark_of" s_mark_of (He.ga K "mark_of") fd := let ⟨fd, F⟩ := T.s.def_ (d := atG "mark_of" s_mark_of) 7; ⟨fd, He5.fun_of F⟩
theorem Top.f_turned_at (T : Top w K mg) : ∃ fd, Fun K "turned_at" "turned_at" s_turned_at (He.ga K "turned_at") fd := let ⟨fd, F⟩ := T.s.def_ (d := atG "turned_at" s_turned_at) 8; ⟨fd, He5.fun_of F⟩
theorem Top.f_opposite_greatest (T : Top w K mg) : ∃ fd, Fun K "opposite_greatest" "opposite_greatest" s_opposite_greatest (He.ga K "opposite_greatest") fd := let ⟨fd, F⟩ := T.s.def_ (d := atG "opposite_greatest" s_opposite_greatest) 9; ⟨fd, He5.fun_of F⟩
theorem Top.f_place_down (T : Top w K mg) : ∃ fd, Fun K "place_down" "place_down" s_place_down (He.ga K "place_down") fd := let ⟨fd, F⟩ := T.s.def_ (d := atG "place_down" s_place_down) 10; ⟨fd, He5.fun_of F⟩
theorem Top.f_arrows_between (T : Top w K mg) : ∃ fd, Fun K "arrows_between" "arrows_between" s_arrows_between (He.ga K "arrows_between") fd := let ⟨fd, F⟩ := T.s.def_ (d := atG "arrows_between" s_arrows_between) 11; ⟨fd, He5.fun_of F⟩
theorem Top.f_renamed_by (T : Top w K mg) : ∃ fd, Fun K "renamed_by" "renamed_by" s_renamed_by (He.ga K "renamed_by") fd := let ⟨fd, F⟩ := T.s.def_ (d := atG "renamed_by" s_renamed_by) 12; ⟨fd, He5.fun_of F⟩
theorem Top.f_behind_even (T : Top w K mg) : ∃ fd, Fun K "behind_even" "behind_even" s_behind_even (He.ga K "behind_even") fd := let ⟨fd, F⟩ := T.s.def_ (d := atG "behind_even" s_behind_even) 13; ⟨fd, He5.fun_of F⟩
theorem Top.f_way_to (T : Top w K mg) : ∃ fd, Fun K "way_to" "way_to" s_way_to (He.ga K "way_to") fd := let ⟨fd, F⟩ := T.s.def_ (d := atG "way_to" s_way_to) 14; ⟨fd, He5.fun_of F⟩
theorem Top.f_partner_of (T : Top w K mg) : ∃ fd, Fun K "partner_of" "partner_of" s_partner_of (He.ga K "partner_of") fd := let ⟨fd, F⟩ := T.s.def_ (d := atG "partner_of" s_partner_of) 15; ⟨fd, He5.fun_of F⟩
theorem Top.f_even_turns (T : Top w K mg) : ∃ fd, Fun K "even_turns" "even_turns" s_even_turns (He.ga K "even_turns") fd := let ⟨fd, F⟩ := T.s.def_ (d := atG "even_turns" s_even_turns) 16; ⟨fd, He5.fun_of F⟩
theorem Top.f_foot_of (T : Top w K mg) : ∃ fd, Fun K "foot_of" "foot_of" s_foot_of (He.ga K "foot_of") fd := let ⟨fd, F⟩ := T.s.def_ (d := atG "foot_of" s_foot_of) 17; ⟨fd, He5.fun_of F⟩
theorem Top.f_ways_from (T : Top w K mg) : ∃ fd, Fun K "ways_from" "ways_from" s_ways_from (He.ga K "ways_from") fd := let ⟨fd, F⟩ := T.s.def_ (d := atG "ways_from" s_ways_from) 18; ⟨fd, He5.fun_of F⟩
theorem Top.f_check_numbers (T : Top w K mg) : ∃ fd, Fun K "check_numbers" "check_numbers" s_check_numbers (He.ga K "check_numbers") fd := let ⟨fd, F⟩ := T.s.def_ (d := atG "check_numbers" s_check_numbers) 19; ⟨fd, He5.fun_of F⟩
theorem Top.f_check_standing (T : Top w K mg) : ∃ fd, Fun K "check_standing" "check_standing" s_check_standing (He.ga K "check_standing") fd := let ⟨fd, F⟩ := T.s.def_ (d := atG "check_standing" s_check_standing) 20; ⟨fd, He5.fun_of F⟩
theorem Top.f_renamed (T : Top w K mg) : ∃ fd, Fun K "renamed" "renamed" s_renamed (He.ga K "renamed") fd := let ⟨fd, F⟩ := T.s.def_ (d := atG "renamed" s_renamed) 21; ⟨fd, He5.fun_of F⟩
theorem Top.f_least (T : Top w K mg) : ∃ fd, Fun K "least" "least" s_least (He.ga K "least") fd := let ⟨fd, F⟩ := T.s.def_ (d := atG "least" s_least) 22; ⟨fd, He5.fun_of F⟩
theorem Top.f_foot (T : Top w K mg) : ∃ fd, Fun K "foot" "foot" s_foot (He.ga K "foot") fd := let ⟨fd, F⟩ := T.s.def_ (d := atG "foot" s_foot) 23; ⟨fd, He5.fun_of F⟩
theorem Top.f_free_ones (T : Top w K mg) : ∃ fd, Fun K "free_ones" "free_ones" s_free_ones (He.ga K "free_ones") fd := let ⟨fd, F⟩ := T.s.def_ (d := atG "free_ones" s_free_ones) 24; ⟨fd, He5.fun_of F⟩
theorem Top.f_naming_between (T : Top w K mg) : ∃ fd, Fun K "naming_between" "naming_between" s_naming_between (He.ga K "naming_between") fd := let ⟨fd, F⟩ := T.s.def_ (d := atG "naming_between" s_naming_between) 25; ⟨fd, He5.fun_of F⟩
theorem Top.f_own_namings (T : Top w K mg) : ∃ fd, Fun K "own_namings" "own_namings" s_own_namings (He.ga K "own_namings") fd := let ⟨fd, F⟩ := T.s.def_ (d := atG "own_namings" s_own_namings) 26; ⟨fd, He5.fun_of F⟩
theorem Top.f_namings_between (T : Top w K mg) : ∃ fd, Fun K "namings_between" "namings_between" s_namings_between (He.ga K "namings_between") fd := let ⟨fd, F⟩ := T.s.def_ (d := atG "namings_between" s_namings_between) 27; ⟨fd, He5.fun_of F⟩
theorem Top.f__law_cell (T : Top w K mg) : ∃ fd, Fun K "_law_cell" "_law_cell" s__law_cell (He.ga K "_law_cell") fd := let ⟨fd, F⟩ := T.s.def_ (d := atG "_law_cell" s__law_cell) 28; ⟨fd, He5.fun_of F⟩
theorem Top.f__law_purse (T : Top w K mg) : ∃ fd, Fun K "_law_purse" "_law_purse" s__law_purse (He.ga K "_law_purse") fd := let ⟨fd, F⟩ := T.s.def_ (d := atG "_law_purse" s__law_purse) 29; ⟨fd, He5.fun_of F⟩
theorem Top.f__law_roll (T : Top w K mg) : ∃ fd, Fun K "_law_roll" "_law_roll" s__law_roll (He.ga K "_law_roll") fd := let ⟨fd, F⟩ := T.s.def_ (d := atG "_law_roll" s__law_roll) 30; ⟨fd, He5.fun_of F⟩
theorem Top.f__law_pushed (T : Top w K mg) : ∃ fd, Fun K "_law_pushed" "_law_pushed" s__law_pushed (He.ga K "_law_pushed") fd := let ⟨fd, F⟩ := T.s.def_ (d := atG "_law_pushed" s__law_pushed) 31; ⟨fd, He5.fun_of F⟩
theorem Top.f__law_turn (T : Top w K mg) : ∃ fd, Fun K "_law_turn" "_law_turn" s__law_turn (He.ga K "_law_turn") fd := let ⟨fd, F⟩ := T.s.def_ (d := atG "_law_turn" s__law_turn) 32; ⟨fd, He5.fun_of F⟩
theorem Top.f__law_walk (T : Top w K mg) : ∃ fd, Fun K "_law_walk" "_law_walk" s__law_walk (He.ga K "_law_walk") fd := let ⟨fd, F⟩ := T.s.def_ (d := atG "_law_walk" s__law_walk) 33; ⟨fd, He5.fun_of F⟩
theorem Top.f__law_is_round (T : Top w K mg) : ∃ fd, Fun K "_law_is_round" "_law_is_round" s__law_is_round (He.ga K "_law_is_round") fd := let ⟨fd, F⟩ := T.s.def_ (d := atG "_law_is_round" s__law_is_round) 34; ⟨fd, He5.fun_of F⟩
theorem Top.f__law_pick (T : Top w K mg) : ∃ fd, Fun K "_law_pick" "_law_pick" s__law_pick (He.ga K "_law_pick") fd := let ⟨fd, F⟩ := T.s.def_ (d := atG "_law_pick" s__law_pick) 35; ⟨fd, He5.fun_of F⟩
theorem Top.f__law_led (T : Top w K mg) : ∃ fd, Fun K "_law_led" "_law_led" s__law_led (He.ga K "_law_led") fd := let ⟨fd, F⟩ := T.s.def_ (d := atG "_law_led" s__law_led) 36; ⟨fd, He5.fun_of F⟩
theorem Top.f__law_trio (T : Top w K mg) : ∃ fd, Fun K "_law_trio" "_law_trio" s__law_trio (He.ga K "_law_trio") fd := let ⟨fd, F⟩ := T.s.def_ (d := atG "_law_trio" s__law_trio) 37; ⟨fd, He5.fun_of F⟩
theorem Top.f__law_near (T : Top w K mg) : ∃ fd, Fun K "_law_near" "_law_near" s__law_near (He.ga K "_law_near") fd := let ⟨fd, F⟩ := T.s.def_ (d := atG "_law_near" s__law_near) 38; ⟨fd, He5.fun_of F⟩
theorem Top.f__law_room (T : Top w K mg) : ∃ fd, Fun K "_law_room" "_law_room" s__law_room (He.ga K "_law_room") fd := let ⟨fd, F⟩ := T.s.def_ (d := atG "_law_room" s__law_room) 39; ⟨fd, He5.fun_of F⟩
theorem Top.f__law_renamed (T : Top w K mg) : ∃ fd, Fun K "_law_renamed" "_law_renamed" s__law_renamed (He.ga K "_law_renamed") fd := let ⟨fd, F⟩ := T.s.def_ (d := atG "_law_renamed" s__law_renamed) 40; ⟨fd, He5.fun_of F⟩
theorem Top.f__law_fitting (T : Top w K mg) : ∃ fd, Fun K "_law_fitting" "_law_fitting" s__law_fitting (He.ga K "_law_fitting") fd := let ⟨fd, F⟩ := T.s.def_ (d := atG "_law_fitting" s__law_fitting) 41; ⟨fd, He5.fun_of F⟩
theorem Top.f__law_behind (T : Top w K mg) : ∃ fd, Fun K "_law_behind" "_law_behind" s__law_behind (He.ga K "_law_behind") fd := let ⟨fd, F⟩ := T.s.def_ (d := atG "_law_behind" s__law_behind) 42; ⟨fd, He5.fun_of F⟩
theorem Top.f__law_case_right (T : Top w K mg) : ∃ fd, Fun K "_law_case_right" "_law_case_right" s__law_case_right (He.ga K "_law_case_right") fd := let ⟨fd, F⟩ := T.s.def_ (d := atG "_law_case_right" s__law_case_right) 43; ⟨fd, He5.fun_of F⟩
theorem Top.f_law (T : Top w K mg) : ∃ fd, Fun K "law" "law" s_law (He.ga K "law") fd := let ⟨fd, F⟩ := T.s.def_ (d := atG "law" s_law) 44; ⟨fd, He5.fun_of F⟩
theorem Top.f_Standing___init__ (T : Top w K mg) : ∃ fd, Fun K "__init__" "Standing.__init__" s_Standing___init__ (method K "Standing" "__init__") fd := let ⟨fd, F⟩ := T.s.def_ (d := atM "Standing" "__init__" "Standing.__init__" s_Standing___init__) 45; ⟨fd, He5.fun_of F⟩
theorem Top.f_Standing_numbers (T : Top w K mg) : ∃ fd, Fun K "numbers" "Standing.numbers" s_Standing_numbers (getter K "Standing" "numbers") fd := let ⟨fd, F⟩ := T.s.def_ (d := atP "Standing" "numbers" "Standing.numbers" s_Standing_numbers) 46; ⟨fd, He5.fun_of F⟩
theorem Top.f_Standing_sizes (T : Top w K mg) : ∃ fd, Fun K "sizes" "Standing.sizes" s_Standing_sizes (getter K "Standing" "sizes") fd := let ⟨fd, F⟩ := T.s.def_ (d := atP "Standing" "sizes" "Standing.sizes" s_Standing_sizes) 47; ⟨fd, He5.fun_of F⟩
theorem Top.f_Standing_mark (T : Top w K mg) : ∃ fd, Fun K "mark" "Standing.mark" s_Standing_mark (getter K "Standing" "mark") fd := let ⟨fd, F⟩ := T.s.def_ (d := atP "Standing" "mark" "Standing.mark" s_Standing_mark) 48; ⟨fd, He5.fun_of F⟩
theorem Top.f_Standing___eq__ (T : Top w K mg) : ∃ fd, Fun K "__eq__" "Standing.__eq__" s_Standing___eq__ (method K "Standing" "__eq__") fd := let ⟨fd, F⟩ := T.s.def_ (d := atM "Standing" "__eq__" "Standing.__eq__" s_Standing___eq__) 49; ⟨fd, He5.fun_of F⟩
theorem Top.f_Way___init__ (T : Top w K mg) : ∃ fd, Fun K "__init__" "Way.__init__" s_Way___init__ (method K "Way" "__init__") fd := let ⟨fd, F⟩ := T.s.def_ (d := atM "Way" "__init__" "Way.__init__" s_Way___init__) 50; ⟨fd, He5.fun_of F⟩
theorem Top.x_prop_Standing_numbers (T : Top w K mg) : propOk K "Standing" "numbers" = true := (He.ba T.e).1
theorem Top.x_prop_Standing_sizes (T : Top w K mg) : propOk K "Standing" "sizes" = true := (He.ba (He.ba T.e).2).1
theorem Top.x_prop_Standing_mark (T : Top w K mg) : propOk K "Standing" "mark" = true := (He.ba (He.ba (He.ba T.e).2).2).1
theorem Top.x_eq_Standing (T : Top w K mg) : eqOk K "Standing" = true := (He.ba (He.ba (He.ba (He.ba T.e).2).2).2).1
theorem Top.x_is_Standing (T : Top w K mg) : isOk K "Standing" = true := (He.ba (He.ba (He.ba (He.ba (He.ba T.e).2).2).2).2).1
theorem Top.x_is_Way (T : Top w K mg) : isOk K "Way" = true := (He.ba (He.ba (He.ba (He.ba (He.ba (He.ba T.e).2).2).2).2).2).1
theorem Top.x_val_PLACE_OF (T : Top w K mg) : He.valsB K (He.ga K "PLACE_OF") [("a", .int 0), ("b", .int 1), ("c", .int 2)] = true := (He.ba (He.ba (He.ba (He.ba (He.ba (He.ba (He.ba T.e).2).2).2).2).2).2).1
theorem Top.x_tup_NAMINGS (T : Top w K mg) : tupS K (He.ga K "NAMINGS") ["abc", "acb", "bac", "bca", "cab", "cba"] = true := (He.ba (He.ba (He.ba (He.ba (He.ba (He.ba (He.ba T.e).2).2).2).2).2).2).2
theorem Top.d_PLACE_OF (T : Top w K mg) : ∃ es n, KDict K w (He.ga K "PLACE_OF") es n := T.tab 0
end
end At

namespace At
open L2 PyProof.Rows PySem.Spec PySem
abbrev R : PySem.W.OpenRow := PySem.W.OpenLaw.row PySem.Challenge.rw_arrowtrios_k52_whole_own_namings_of_kind
abbrev hk : PySem.W.Hook := hook 8
def ob (s : PySem.W.SharedT) : Seen := looks 8 (HandSHeadRun.getT s)
theorem ob_eq (s : PySem.W.SharedT) : ob s = hk.obs s.abs := congrArg (looks 8) (funext (HandSHeadRun.getT_eq s))
def loose : List Str := (["_wall", "WrongValue", "InvalidNaming", "NotAStanding", "InvalidNumbers", "GREATEST", "PLACE_OF", "places_of", "is_integer", "is_integer_within", "place_before", "place_behind", "sizes_of", "goes_round", "mark_of", "turned_at", "opposite_greatest", "place_down", "arrows_between", "renamed_by", "behind_even", "Way", "way_to", "partner_of", "even_turns", "foot_of", "ways_from", "NAMINGS", "Standing", "check_numbers"] : List Str) ++ (["check_standing", "renamed", "least", "foot", "free_ones", "naming_between", "own_namings", "namings_between", "_law_cell", "_law_purse", "_law_roll", "_law_pushed", "_law_turn", "_law_walk", "_law_is_round", "_law_pick", "_law_led", "_law_trio", "_law_near", "_law_room", "_law_renamed", "_law_fitting", "_law_behind", "_law_case_right"] : List Str)
theorem run0 (w : World) : HandSHeadRun.RunEq R (PySem.W.view R.prog [65]) hk ob 9000 loose (w.withFollow "special-get-raises" false) := by
  intro os
  kernel_rfl
theorem run1 (w : World) : HandSHeadRun.RunEq R (PySem.W.view R.prog [65]) hk ob 9000 loose (w.withFollow "special-get-raises" true) := by
  intro os
  kernel_rfl
theorem run (w : World) : HandSHeadRun.RunEq R (PySem.W.view R.prog [65]) hk ob 9000 loose w := PySem.W.byRow2 "special-get-raises" (P := fun w => HandSHeadRun.RunEq R (PySem.W.view R.prog [65]) hk ob 9000 loose w) run0 run1 w
end At

namespace At
open L2 PyProof.Rows PySem.Spec PySem
/-! ### loops and comprehensions, by what is walked -/
/-- what tFor asks behind its iterator -/
def Loops (J : It) (g : TG) (tb : TS) (D : Ends) (σ : L2.St) (H : Hp) : Prop := tFor (fun _ H R => R J H) g tb D σ H
section
variable {K : PySem.W.Frag} {a : Addr} {xs : List V} {g : TG} {tb : TS} {te : TE} {D : Ends} {σ : L2.St} {H : Hp} {wi : TI} {vs : List Nat} {Q : VK}
theorem go_for (h : wi σ H fun J H1 => Loops J g tb D σ H1) : tFor wi g tb D σ H := h
theorem go_lc (h : wi σ H fun J H1 => Lcs J g te vs σ H1 Q) : tLc wi g tYes te vs σ H Q := h
theorem loop_list (Pv : Nat → L2.St → Hp → Prop) (h0 : Pv 0 σ H) (hq : ∀ i σ H, i ≤ xs.length → Pv i σ H → SqL K H a xs)
    (hs : ∀ i x σ H, xs[i]? = some x → Pv i σ H → g x σ H fun σ2 H2 => tb { D with nx := Pv (i + 1), ct := Pv (i + 1), bk := D.nx } σ2 H2) (hd : ∀ σ H, Pv xs.length σ H → D.nx σ H) : Loops (Itl K a) g tb D σ H :=
  for_it walk_list Pv h0 hq (fun i x σ H H' _ p y => by
    obtain ⟨rfl, e⟩ := y
    exact hs i x σ _ e p) hd
theorem loop_tup (Pv : Nat → L2.St → Hp → Prop) (h0 : Pv 0 σ H) (hq : ∀ i σ H, i ≤ xs.length → Pv i σ H → SqT K H a xs)
    (hs : ∀ i x σ H, xs[i]? = some x → Pv i σ H → g x σ H fun σ2 H2 => tb { D with nx := Pv (i + 1), ct := Pv (i + 1), bk := D.nx } σ2 H2) (hd : ∀ σ H, Pv xs.length σ H → D.nx σ H) : Loops (Itt K a) g tb D σ H :=
  for_it walk_tup Pv h0 hq (fun i x σ H H' _ p y => by
    obtain ⟨rfl, e⟩ := y
    exact hs i x σ _ e p) hd
theorem loop_enumT (Pv : Nat → L2.St → Hp → Prop) (h0 : Pv 0 σ H) (hq : ∀ i σ H, i ≤ xs.length → Pv i σ H → SqT K H a xs)
    (hs : ∀ i x σ H T, xs[i]? = some x → Pv i σ H → H T = none → g (.ref T) σ (upd H T (.tup [.int (i : Nat), x])) fun σ2 H2 => tb { D with nx := Pv (i + 1), ct := Pv (i + 1), bk := D.nx } σ2 H2) (hd : ∀ σ H, Pv xs.length σ H → D.nx σ H) : Loops (Itet K a xs) g tb D σ H :=
  for_it walk_enT Pv h0 hq (fun i x σ H H' _ p y => by
    obtain ⟨T, u, v, rfl, nT, rfl, e1, e2⟩ := y
    cases Option.some.inj e1
    exact hs i v σ H T e2 p nT) hd
theorem loop_str {z : Str} (Pv : Nat → L2.St → Hp → Prop) (h0 : Pv 0 σ H) (hs : ∀ i c σ H, z.cps[i]? = some c → Pv i σ H → g (.str ⟨#[c]⟩) σ H fun σ2 H2 => tb { D with nx := Pv (i + 1), ct := Pv (i + 1), bk := D.nx } σ2 H2)
    (hd : ∀ σ H, Pv z.cps.size σ H → D.nx σ H) : Loops (Its z) g tb D σ H :=
  for_it walk_str Pv h0 (fun _ _ _ _ _ => trivial) (fun i x σ H H' _ p y => by
    obtain ⟨rfl, c, e, rfl⟩ := y
    exact hs i c σ _ e p) hd
theorem loop_range {lo : Int} {n : Nat} (Pv : Nat → L2.St → Hp → Prop) (h0 : Pv 0 σ H) (hs : ∀ i σ H, i < n → Pv i σ H → g (.int (lo + i)) σ H fun σ2 H2 => tb { D with nx := Pv (i + 1), ct := Pv (i + 1), bk := D.nx } σ2 H2)
    (hd : ∀ σ H, Pv n σ H → D.nx σ H) : Loops (Itr lo n) g tb D σ H := for_range Pv h0 hs hd
variable {j : Nat}
/-- the items by their places -/
theorem lc_tupI (ha : H a = some (.tup xs)) (hz : xs.length ≤ 60000) (f : Nat → V) 
    (hs : ∀ d, H d = none → ∀ i x H' (QE : VK), xs[i]? = some x → Ext H H' → (∀ H4, Ext H' H4 → QE (f i) H4) → gName j x (wipe σ vs) H' fun σ2 H2 => wipe σ2 vs = wipe σ vs ∧ te σ2 H2 QE)
    (hd : ∀ d, H d = none → ∀ H', Ext H H' → H' d = some (.lst ((List.range xs.length).map f)) → Q (.ref d) H') : Lcs (Itt K a) (gName j) te vs σ H Q :=
  lc_all walk_tup ((List.range xs.length).map f) (by rw [List.length_map, List.length_range]) hz (fun _ e => SqT.of (e _ _ ha)) (fun d nd i x y H1 H' QE hy e y1 q => by
    obtain ⟨rfl, e1⟩ := y1
    refine hs d nd i x _ QE e1 e fun H4 e4 => ?_
    have hi : i < xs.length := (List.getElem?_eq_some_iff.mp e1).1
    rw [List.getElem?_map, List.getElem?_range hi] at hy
    cases Option.some.inj hy
    exact q H4 e4) mono_name hd
theorem mapped {ys : List V} {f : V → V} {i : Nat} {x y : V} (h : (ys.map f)[i]? = some y) (e : ys[i]? = some x) : y = f x := by
  rw [List.getElem?_map, e] at h
  exact (Option.some.inj h).symm
theorem lc_tupP (ha : H a = some (.tup xs)) (hz : xs.length ≤ 60000) (f : V → V) 
    (hs : ∀ d, H d = none → ∀ x H' (_ : x ∈ xs) (_ : Ext H H') (QE : VK), (∀ H4, Ext H' H4 → QE (f x) H4) → gName j x (wipe σ vs) H' fun σ2 H2 => wipe σ2 vs = wipe σ vs ∧ te σ2 H2 QE)
    (hd : ∀ d, H d = none → ∀ H', Ext H H' → H' d = some (.lst (xs.map f)) → Q (.ref d) H') : Lcs (Itt K a) (gName j) te vs σ H Q :=
  lc_all walk_tup (xs.map f) (List.length_map ..) hz (fun _ e => SqT.of (e _ _ ha)) (fun d nd i x y H1 H' QE hy e y1 q => by
    obtain ⟨rfl, e1⟩ := y1
    cases mapped hy e1
    exact hs d nd x _ (List.mem_of_getElem? e1) e QE q) mono_name hd
theorem lc_lstP (ha : H a = some (.lst xs)) (hz : xs.length ≤ 60000) (f : V → V) 
    (hs : ∀ d, H d = none → ∀ x H' (_ : x ∈ xs) (_ : Ext H H') (QE : VK), (∀ H4, Ext H' H4 → QE (f x) H4) → gName j x (wipe σ vs) H' fun σ2 H2 => wipe σ2 vs = wipe σ vs ∧ te σ2 H2 QE)
    (hd : ∀ d, H d = none → ∀ H', Ext H H' → H' d = some (.lst (xs.map f)) → Q (.ref d) H') : Lcs (Itl K a) (gName j) te vs σ H Q :=
  lc_all walk_list (xs.map f) (List.length_map ..) hz (fun _ e => SqL.of (e _ _ ha)) (fun d nd i x y H1 H' QE hy e y1 q => by
    obtain ⟨rfl, e1⟩ := y1
    cases mapped hy e1
    exact hs d nd x _ (List.mem_of_getElem? e1) e QE q) mono_name hd
theorem lc_strP {z : Str} (hz : z.cps.size ≤ 60000) (f : Nat → V) 
    (hs : ∀ d, H d = none → ∀ c H' (_ : c ∈ z.cps.toList) (_ : Ext H H') (QE : VK), (∀ H4, Ext H' H4 → QE (f c) H4) → gName j (.str ⟨#[c]⟩) (wipe σ vs) H' fun σ2 H2 => wipe σ2 vs = wipe σ vs ∧ te σ2 H2 QE)
    (hd : ∀ d, H d = none → ∀ H', Ext H H' → H' d = some (.lst (z.cps.toList.map f)) → Q (.ref d) H') : Lcs (Its z) (gName j) te vs σ H Q :=
  lc_all walk_str (z.cps.toList.map f) (by rw [List.length_map, Array.length_toList]) hz (fun _ _ => trivial) (fun d nd i x y H1 H' QE hy e y1 q => by
    obtain ⟨rfl, c, e1, rfl⟩ := y1
    rw [List.getElem?_map, Array.getElem?_toList, e1] at hy
    cases Option.some.inj hy
    exact hs d nd c _ (Array.mem_toList_iff.mpr (Array.mem_of_getElem? e1)) e QE q) mono_name hd
theorem lc_rng {lo : Int} {n : Nat} (hz : n ≤ 60000) (f : Nat → V) 
    (hs : ∀ d, H d = none → ∀ i H' (_ : i < n) (_ : Ext H H') (QE : VK), (∀ H4, Ext H' H4 → QE (f i) H4) → gName j (.int (lo + (i : Nat))) (wipe σ vs) H' fun σ2 H2 => wipe σ2 vs = wipe σ vs ∧ te σ2 H2 QE)
    (hd : ∀ d, H d = none → ∀ H', Ext H H' → H' d = some (.lst ((List.range n).map f)) → Q (.ref d) H') : Lcs (Itr lo n) (gName j) te vs σ H Q :=
  lc_all (walk_range (lo := lo)) ((List.range n).map f) (by rw [List.length_map, List.length_range]) hz (fun _ _ => trivial) (fun d nd i x y H1 H' QE hy e y1 q => by
    obtain ⟨rfl, rfl⟩ := y1
    have hi : i < n := by
      have := (List.getElem?_eq_some_iff.mp hy).1
      rw [List.length_map, List.length_range] at this
      exact this
    rw [List.getElem?_map, List.getElem?_range hi] at hy
    cases Option.some.inj hy
    exact hs d nd i _ hi e QE q) mono_name hd
end
end At

namespace At
open L2 PyProof.Rows PySem.Spec PySem
/-! ### e[::-1] of a tuple and of a text -/
/-- a value of a built-in type whose own method takes indexes -/
def Items (s : Shared) (v : Value) : Prop := ∃ T id : String, s.TypeIs v T ∧ typeLookup (.type T) "__getitem__" = pure (some (.builtin id))
/-- r tells what comes of the slice (None, None, -1) -/
def SlBack (X : Cx) (r : V → Hp → VK → Prop) : Prop :=
  ∀ (pins : List (Addr × Obj)) (s : Shared) (σ : L2.St) (H : Hp) (x : V) (v : Value) (sl : Addr) (t : Tok) (Q : VK), Inv X pins σ H s → RelV x v →
    s.heap.IsSliceOf sl .none .none (.int (-1) t) → r x H Q →
    Items s v ∧ wpAny (model X.prog X.w) X.A (getItem v (.ref sl)) (EP X pins σ Q) X.xe s
def tBack (r : V → Hp → VK → Prop) (te : TE) : TE := fun σ H Q => te σ H fun x H1 => r x H1 Q
theorem go_back {r : V → Hp → VK → Prop} {te : TE} {σ : L2.St} {H : Hp} {Q : VK} (h : te σ H fun x H1 => r x H1 Q) : tBack r te σ H Q := h
theorem pe_back {X : Cx} {r : V → Hp → VK → Prop} {e : Expr} {te : TE} {k : Nat} {p1 p2 p3 pos : Pos} (hr : SlBack X r) (he : PE X e te) :
    PE X (.Subscript e (.Slice none none (some (.UnaryOp .USub (.Constant (.int 1) k p1) p2)) p3) pos) (tBack r te) := by
  constructor
  intro pins s σ H Q I h
  refine Subscript_ (thn (he.run pins s σ H _ I h) fun v s1 z => ?_)
  obtain ⟨x, H1, I1, rx, q⟩ := z
  have step : PO X (some (.UnaryOp .USub (.Constant (.int 1) k p1) p2)) _ := po_some (pe_un un_neg pe_int)
  refine wpAny_Slice ?_
  refine thn (po_none.run pins s1 σ H1 (fun o G => o = none ∧ G = H1) I1 ⟨rfl, rfl⟩) fun vl s2 z => ?_
  obtain ⟨l, G, I2, pl, rfl, rfl⟩ := z
  cases pl
  refine thn (po_none.run pins s2 σ G (fun o G' => o = none ∧ G' = G) I2 ⟨rfl, rfl⟩) fun vu s3 z => ?_
  obtain ⟨u, G', I3, pu, rfl, rfl⟩ := z
  cases pu
  refine thn (step.run pins s3 σ G' (fun o J => o = some (-1) ∧ J = G') I3 ⟨1, rfl, -1, rfl, rfl, rfl⟩) fun vs s4 z => ?_
  obtain ⟨o, J, I4, ps, rfl, rfl⟩ := z
  cases ps with
  | int _ t =>
    let s5 : Shared := { s4 with heap := s4.heap.push { cls := .type "slice", data := .fields #[.none, .none, .int (-1) t] } }
    have I5 : Inv X pins σ J s5 := I4.kept (t' := s4.toks) fun b ob q => Heap.get?_push_of_some _ q
    obtain ⟨⟨T, id, ty, lk⟩, run⟩ := hr pins s5 σ J x v s4.heap.objs.size t Q I5 rx (Heap.IsSliceOf.new ..) q
    exact tail_any (ops := [v, .ref s4.heap.objs.size]) ty lk run (by with_unfolding_all rfl)
def rBackT (K : PySem.W.Frag) : V → Hp → VK → Prop := fun x H Q => ∃ a xs, x = .ref a ∧ SqT K H a xs ∧ ∀ p, H p = none → Q (.ref p) (upd H p (.tup xs.reverse))
def rBackS : V → Hp → VK → Prop := fun x H Q => ∃ z : Str, x = .str z ∧ z.length ≤ sizeLine ∧ Q (.str ⟨z.cps.toList.reverse.toArray⟩) H
theorem adj_back (n : Nat) : Builtin.Slice.sliceAdjust none none (-1) (n : Int) = ((n : Int) - 1, -1) := rfl
theorem places_back (n : Nat) : Builtin.Slice.slicePlaces ((n : Int) - 1) (-1) (-1) = n := by
  (unfold Builtin.Slice.slicePlaces)
  rw [if_neg (by decide)]
  split
  · rw [show (-(-1) : Int) = 1 from rfl, Int.ediv_one]; omega
  · omega
theorem fm_same {α β : Type} {f g : α → Option β} : ∀ {l : List α}, (∀ a ∈ l, f a = g a) → l.filterMap f = l.filterMap g
  | [], _ => rfl
  | a :: l, h => by rw [List.filterMap_cons, List.filterMap_cons, h a List.mem_cons_self, fm_same fun b hb => h b (List.mem_cons_of_mem _ hb)]
theorem pick_back (xs : Array Value) : (List.range xs.size).filterMap (fun (k : Nat) => xs[((xs.size : Int) - 1 + (k : Int) * -1).toNat]?) = xs.toList.reverse := by
  have e : ∀ k ∈ List.range xs.size, xs[((xs.size : Int) - 1 + (k : Int) * -1).toNat]? = ((fun i => xs[i]?) ∘ fun k => xs.size - 1 - k) k := fun k hk => by
    have := List.mem_range.mp hk
    show _ = xs[xs.size - 1 - k]?
    congr 1
    omega
  rw [fm_same e, ← List.filterMap_map, PySem.W.krv_range, List.filterMap_reverse, PySem.W.krv_all]
theorem slot_none {M : Model} {A : Around} {E : Value → Shared → Prop} {s : Shared} {Q : Option Int → Shared → Prop} (h : Q none s) : wpAny M A (Builtin.Slice.slicePartIndex .none) Q E s := by
  (unfold Builtin.Slice.slicePartIndex)
  exact wpAny_pure h
theorem applied_back {prog : Program} {w : World} {A : Around} {E : Value → Shared → Prop} {s : Shared} {sl : Addr} {t : Tok} {n : Nat} {Q : Int × Int × Nat → Shared → Prop} (hs : s.heap.IsSliceOf sl .none .none (.int (-1) t))
    (h : Q ((n : Int) - 1, -1, n) s) : wpAny (model prog w) A (Builtin.Slice.sliceApplied (.ref sl) (pure (n : Int))) Q E s := by
  obtain ⟨ob, g, c, d⟩ := hs
  (unfold Builtin.Slice.sliceApplied Builtin.Slice.sliceFields)
  refine wpAny_bind (wpAny_bind (wpAny_field g d (x := .none) rfl (wpAny_bind (wpAny_field g d (x := .none) rfl (wpAny_bind (wpAny_field g d (x := .int (-1) t) rfl (wpAny_pure ?_)))))))
  refine wpAny_bind (HT.slicePart_ (.int (-1) t) ?_)
  refine wpAny_bind (HT.slicePart_ .none (wpAny_bind (HT.slicePart_ .none (wpAny_bind (wpAny_pure ?_)))))
  show wpAny _ _ (match Builtin.Slice.sliceAdjust none none (-1) (n : Int) with | (lo, hi) => pure (lo, (-1 : Int), Builtin.Slice.slicePlaces lo hi (-1))) _ _ s
  rw [adj_back]
  show wpAny _ _ (pure ((n : Int) - 1, (-1 : Int), Builtin.Slice.slicePlaces ((n : Int) - 1) (-1) (-1))) _ _ s
  rw [places_back]
  exact wpAny_pure h
/-- what the tuple's own method makes of that slice -/
theorem meets_tup_back (a sl : Addr) (items : Array Value) (t : Tok) : Meets (Builtin.«tuple.__getitem__» ⟨[.ref a, .ref sl], []⟩) (fun _ R s => (IsTup s.heap a items ∧ s.heap.IsSliceOf sl .none .none (.int (-1) t) ∧ items.size ≤ sizeLine) ∧
    R (.ok (.ret (.ref s.heap.objs.size))) { s with heap := s.heap.push { cls := .type "tuple", data := .seq items.toList.reverse.toArray } }) := by
  refine .of_wp fun prog w A R s ⟨⟨ht, hs, hz⟩, done⟩ => ?_
  obtain ⟨_, g, c, _⟩ := id hs
  show wpAny _ _ (Builtin.Tuple.tupleItemsOf _ >>= _) _ _ s
  refine wpAny_bind (PyProof.Rows.tupleItemsOf_ ht (wpAny_bind (wpAny_typeOf (v := .ref sl) ⟨_, g, c⟩ ?_)))
  refine wpAny_ite_true (by decide) (wpAny_bind (applied_back hs ?_))
  refine wpAny_ite_false (by simp) ?_
  have so : sizeOk (.seq items.toList.reverse.toArray) := show items.toList.reverse.toArray.size ≤ sizeLine by simpa using hz
  rw [pick_back]
  (unfold Builtin.Tuple.tupleExact)
  exact wpAny_bind (wpAny_newObj_type (wpAny_pure ⟨_, rfl, done⟩) so)
theorem back_tup {X : Cx} : SlBack X (rBackT X.K) := by
  intro pins s σ H x v sl t Q I rx hs h
  obtain ⟨a, xs, rfl, at_a, q⟩ := h
  have ev : v = Value.ref a := rx
  subst ev
  obtain ⟨its, rv, ht, hz⟩ := I.tuple at_a
  have few : its.toArray.size ≤ sizeLine := by rw [List.size_toArray, ← rv.length]; exact hz
  have end_ : EP X pins σ Q (.ref s.heap.objs.size) { s with heap := s.heap.push { cls := .type "tuple", data := .seq its.toArray.toList.reverse.toArray } } :=
    ⟨.ref _, _, I.laid (t' := s.toks) (o := .tup xs.reverse) (fun b ob e => Heap.get?_push_of_some _ e) (Nat.le_refl _) ⟨(List.length_reverse (as := xs)).symm ▸ hz, _, rv.reverse, IsTup.new _ _⟩, rfl, q _ (I.hok.fresh (Nat.le_refl _))⟩
  refine ⟨⟨"tuple", _, ht.typeIs, PyProof.Rows.slot_tuple_getitem.lookup⟩, ?_⟩
  have asked := call_meets (A := X.A) (w := X.w) (prog := X.prog) (Q := EP X pins σ Q) (E := X.xe) PyProof.Rows.slot_tuple_getitem ht.typeIs entry_tuple_getitem (args_tuple_getitem _ _) (meets_tup_back a sl its.toArray t) ⟨⟨ht, hs, few⟩, end_⟩
  unfold getItem
  exact wpAny_holding (wpAny_bind (wpAny_sequenceKey ht.typeIs (by decide) (wpAny_bind (wpAny_callSpecial?_slot (name := Str.ofString "__getitem__") ht.typeIs PyProof.Rows.slot_tuple_getitem (thn asked fun r s' z => wpAny_pure z)))))
theorem back_str {X : Cx} : SlBack X rBackS := by
  intro pins s σ H x v sl t Q I rx hs h
  obtain ⟨z, rfl, hz, q⟩ := h
  obtain ⟨tz, rfl⟩ := rx
  refine ⟨⟨"str", _, typeIs_str _ _ _, F.slot_str_getitem.lookup⟩, ?_⟩
  refine wpAny_getItem_str_slice (l := none) (u := none) (st := some (-1, t)) hs rfl ?_
  have e : (Builtin.Str.strSliceIndices none none (-1) z.length).filterMap (z.cps[·]?) = z.cps.toList.reverse := by
    rw [PyProof.Rows.picked_rev]
    show ((List.range z.cps.size).map fun k => z.cps.size - 1 - k).filterMap _ = _
    rw [PySem.W.krv_range, List.filterMap_reverse, PySem.W.krv_all]
  show Made.post (if ((-1 : Int) == 1 && (Builtin.Str.strSliceIndices none none (-1) z.length).length == z.length) = true then Made.val (.str z tz)
    else Made.str ⟨((Builtin.Str.strSliceIndices none none (-1) z.length).filterMap (z.cps[·]?)).toArray⟩) (EP X pins σ Q) s
  rw [if_neg (by rw [show ((-1 : Int) == 1) = false from rfl, Bool.false_and]; exact Bool.false_ne_true), e]
  refine ⟨?_, .str _, H, I.tok _, ⟨_, rfl⟩, q⟩
  show z.cps.toList.reverse.toArray.size ≤ sizeLine
  rw [List.size_toArray, List.length_reverse]
  exact hz
/-! ### comprehensions over a tuple of pairs -/
theorem mono_pair {K : PySem.W.Frag} {i j : Nat} {x : V} {τ : L2.St} {H : Hp} {P P' : L2.St → Hp → Prop} (h : ∀ τ H, P τ H → P' τ H) (q : gTup K 2 (gCons (gName i) (gCons (gName j) gNil)) x τ H P) : gTup K 2 (gCons (gName i) (gCons (gName j) gNil)) x τ H P' := by
  obtain ⟨a, xs, e1, e2, e3, v, ys, e4, w, zs, e5, e6, q⟩ := q
  exact ⟨a, xs, e1, e2, e3, v, ys, e4, w, zs, e5, e6, h _ _ q⟩
theorem lc_tup2 {K K' : PySem.W.Frag} {H : Hp} {a : Addr} {xs : List V} {j k : Nat} {te : TE} {vs : List Nat} {σ : L2.St} {Q : VK} (ha : H a = some (.tup xs)) (hz : xs.length ≤ 60000) (f : Nat → V)
    (hs : ∀ d, H d = none → ∀ i x H' (QE : VK), xs[i]? = some x → Ext H H' → (∀ H4, Ext H' H4 → QE (f i) H4) → gTup K' 2 (gCons (gName j) (gCons (gName k) gNil)) x (wipe σ vs) H' fun σ2 H2 => wipe σ2 vs = wipe σ vs ∧ te σ2 H2 QE)
    (hd : ∀ d, H d = none → ∀ H', Ext H H' → H' d = some (.lst ((List.range xs.length).map f)) → Q (.ref d) H') : Lcs (Itt K a) (gTup K' 2 (gCons (gName j) (gCons (gName k) gNil))) te vs σ H Q :=
  lc_all walk_tup ((List.range xs.length).map f) (by simp) hz (fun _ e => SqT.of (e _ _ ha)) (fun d nd i x y H1 H' QE hy e y1 q => by
    obtain ⟨rfl, e1⟩ := y1
    have hi : i < xs.length := (List.getElem?_eq_some_iff.mp e1).1
    have ey : y = f i := by
      rw [List.getElem?_map, List.getElem?_range hi] at hy
      exact (Option.some.inj hy).symm
    exact hs d nd i x _ QE e1 e fun H4 e4 => ey ▸ q H4 e4) mono_pair hd
/-! ### f(k = v, ..): keywords alone -/
def tCallN0 (m : Nat) (sp : Sp) (gV : List V → List V → List V) (E : XK) (tk : TA) : TE := fun σ H Q => tk σ H fun zs H1 => zs.length = m ∧ sp (gV [] zs) H1 Q E
theorem go_callN0 {m : Nat} {sp : Sp} {gV : List V → List V → List V} {E : XK} {tk : TA} {σ : L2.St} {H : Hp} {Q : VK} (h : tk σ H fun zs H1 => zs.length = m ∧ sp (gV [] zs) H1 Q E) : tCallN0 m sp gV E tk σ H Q := h
theorem pe_callN0 {X : Cx} {CX : CXT} {k : Nat} {f : Addr} {fd : FuncData} {ps ks : List Str} {sp : Sp} {E : XK} {x : Str} {p pos : Pos} {kws : List Keyword} {tk : TA} {g : List Value → List Value → List Value} {gV : List V → List V → List V}
    (F : FnOk X.prog X.w X.K X.mg X.base CX k f fd ps sp) (hr : Room k X.A) (hg : Gl X x) (hm : X.mg x = some (.ref f)) (hk : PySem.W.keepIn X.K (.ref f) = true) (hb : KBn X.K fd ps 0 ks g gV) (hx : Passes CX X E) (hkw : PK X kws tk)
    (named : (backToKw pos (keywordEach kws X.env)).all (·.1.isSome) = true := by rfl) (names : (backToKw pos (keywordEach kws X.env)).filterMap (·.1) = ks := by rfl) (nd : (x == ("__debug__" : Str)) = false := by decide)
    (plain : ((backTo pos (starEach [] X.env)).any (·.1) || (backToKw pos (keywordEach kws X.env)).any (·.1.isNone)) = false := by rfl) : PE X (.Call (.Name x p) [] kws pos) (tCallN0 ks.length sp gV E tk) := by
  constructor
  intro pins s σ H Q I h
  refine wpAny_Call_Name_kw (ld_glob I hg hm (PySem.W.callWith_KW0 (h₀ := X.base) I.ok.mod.kin hk named ?_ plain) nd)
  refine thn (hkw.run pos pins s σ H _ I h) fun ws s2 z => ?_
  obtain ⟨zs, H2, I2, rz, l2, q2⟩ := z
  refine ⟨I2.kIn, ?_⟩
  rw [names]
  exact run_fnN (us := []) (vs := []) F hr hb hx I2 .nil rz rfl l2 q2
/-- the order of two keywords turned round -/
def gSwap {α : Type} : List α → List α → List α
  | _, [a, b] => [b, a]
  | _, ws => ws
theorem relSwap {vs : List V} {us : List Value} {zs : List V} {ws : List Value} (a : Vals vs us) (b : Vals zs ws) : Vals (gSwap vs zs) (gSwap us ws) := by
  cases b with
  | nil => exact .nil
  | cons p b => cases b with
    | nil => exact .cons p .nil
    | cons q b => cases b with
      | nil => exact .cons q (.cons p .nil)
      | cons r b => exact .cons p (.cons q (.cons r b))
def gSame {α : Type} : List α → List α → List α := fun _ ws => ws
theorem relSame {vs : List V} {us : List Value} {zs : List V} {ws : List Value} (a : Vals vs us) (b : Vals zs ws) : Vals (gSame vs zs) (gSame us ws) := b
end At

namespace At
open L2 PyProof.Rows PySem.Spec PySem
/-! ### sorted(t), t a tuple of whole numbers -/
def rSortT (K : PySem.W.Frag) : List V → Hp → VK → Prop := fun vs H Q => ∃ (a : Addr) (ns : List Int), vs = [.ref a] ∧ SqT K H a (ns.map .int) ∧ ns.length < 64 ∧
  ∀ (ms : List Int) (p : Addr), ms.Perm ns → ms.Pairwise (· ≤ ·) → H p = none → Q (.ref p) (upd H p (.lst (ms.map .int)))
theorem cr_sortT {X : Cx} : CallR X (.builtin "sorted") (rSortT X.K) := by
  (intro pins s σ H vs us Q I r h)
  (obtain ⟨a, ns, rfl, hs, h64, q⟩ := h)
  obtain ⟨its, rv, tup, hz⟩ := I.tuple hs
  obtain ⟨o, ho, hc, n, hd⟩ := tup
  have hi := rv.ints
  have fits : its.length ≤ sizeLine := by rw [← rv.length]; exact hz
  rw [Vals.ref1 r]
  (refine Calls.call_function_entry kind_sorted plain_sorted entry_sorted (args_sorted1 _) ?_)
  unfold Builtin.«sorted»
  refine wpAny_bind (wpAny_pure (wpAny_bind (wpAny_collect_seq a (.inr rfl) ho hc hd (fun h' k => ?_) (by rw [List.size_toArray]; exact fits))))
  refine wpAny_bind (wpAny_newList ?_ (by simpa using fits))
  have here : (h'.push (seqObj "list" its.toArray 0)).get? h'.objs.size = some (seqObj "list" its.toArray 0) := Heap.get?_push_size _ rfl
  have sorts := fun A => list_sort_tree (prog := X.prog) (w := X.w) (A := A) (E := X.xe) (s := { s with heap := h'.push (seqObj "list" its.toArray 0) }) (P := fun r s' => ∃ v, r = .done (.ret v) ∧ ∃ out ms, s' = { s with heap := sortedHeap (h'.push (seqObj "list" its.toArray 0)) h'.objs.size its out } ∧ IntsAre out.toList ms ∧ ms.Perm ns ∧ ms.Pairwise (· ≤ ·)) here hi (by rw [hi.length]; exact h64) fun out ms h1 h2 h3 => ⟨_, rfl, out, ms, rfl, h1, h2, h3⟩
  refine wpAny_bind (wpAny_holding (thn (wpAny_call_entry slot_list_sort ⟨_, here, rfl⟩ entry_list_sort (sorts _) (args_list_sort _)) fun u s2 z => ?_))
  obtain ⟨out, ms, rfl, h1, h2, h3⟩ := z
  obtain ⟨ep, at_p⟩ := sortedHeap_at (vs := its) (out := out) here
  have I1 : Inv X pins σ H { s with heap := h' } := I.kept (t' := s.toks) k
  have old : ∀ b u, h'.get? b = some u → (sortedHeap (h'.push (seqObj "list" its.toArray 0)) h'.objs.size its out).get? b = some u := fun b u hb => by
    have lt := Heap.lt_size hb
    have sz : (h'.push (seqObj "list" its.toArray 0)).objs.size = h'.objs.size + 1 := size_push' _ _
    rw [sortedHeap_old (Nat.ne_of_lt lt) (by rw [sz]; exact Nat.lt_succ_of_lt lt), Heap.get?_push_of_some _ hb]
  have len : (ms.map V.int).length ≤ sizeLine := by rw [List.length_map, h2.length_eq]; exact small64 h64
  exact wpAny_pure ⟨_, rfl, V.ref h'.objs.size, _, I1.laid (t' := s.toks) (o := .lst (ms.map .int)) old (Nat.le_refl _) ⟨len, out.toList, ep, vals_of_ints h1, at_p⟩, rfl, q ms _ h2 h3 (I1.hok.fresh (Nat.le_refl _))⟩
end At

namespace At
open L2 PyProof.Rows PySem.Spec PySem
/-- a function brought from the module math: the global name holds the built-in -/
theorem pe_callI {X : Cx} {x : Str} {at1 at2 : Pos} {e1 : Expr} {more : List Expr} {ts : TA} {nm : String} {rule : List V → Hp → VK → Prop} (hc : CallR X (.builtin nm) rule) (hg : Gl X x) (hm : X.mg x = some (.builtin nm)) (hs : PA X (e1 :: more) ts)
    (hd : (x == ("__debug__" : Str)) = false := by decide) (one : starEach (e1 :: more) X.env = (false, eval e1 X.env) :: starEach more X.env := by rfl) (none_ : (backTo at2 (starEach more X.env)).any (·.1) = false := by rfl) :
    PE X (.Call (.Name x at1) (e1 :: more) [] at2) (tCB rule ts) where
  run pins s σ H Q I h := wpAny_Call_Name_kw (ld_glob I hg hm (PyProof.Rows.callWith_builtin1
    (thn (hs.run at2 pins s σ H _ I h) fun us s' got => by
      obtain ⟨ys, H', I', rel, z⟩ := got
      exact hc pins s' σ H' ys us Q I' rel z) one none_) hd)
/-- text.join(..) of a list or a tuple inside a comprehension, the frame named -/
theorem pe_joinK {X : Cx} {K : PySem.W.Frag} {o e : Expr} {to te : TE} {apos pos : Pos} (same : X.K = K) (ho : PE X o to) (he : PE X e te)
    (one : starEach [e] X.env = [(false, eval e X.env)] := by rfl) (base : attributeBase o ("join" : Str) X.env (eval o X.env) = eval o X.env := by rfl) (hline : (apos.endLine == pos.line) = true := by rfl) :
    PE X (.Call (.Attribute o "join" apos) [e] [] pos) (tM1 (fun x xs H Q => ∃ (a : Str) (p : Addr) (ys : List Str), x = .str a ∧ xs = [.ref p] ∧ (SqL K H p (ys.map V.str) ∨ SqT K H p (ys.map V.str)) ∧ (ys.map (fun x => x.length)).sum + ys.length * a.length ≤ 16777216 ∧ Q (.str (Txt.join a ys)) H) to te) := same ▸ pe_join ho he one base hline
theorem sl_listK {X : Cx} {K : PySem.W.Frag} (same : X.K = K) : SlR X (rSlL K) := same ▸ sl_list
theorem sl_tupK {X : Cx} {K : PySem.W.Frag} (same : X.K = K) : SlR X (rSlT K) := same ▸ sl_tup
theorem pe_revLK {X : Cx} {K : PySem.W.Frag} {e : Expr} {te : TE} {k : Nat} {p1 p2 p3 pos : Pos} (same : X.K = K) (h : PE X e te) : PE X (.Subscript e (.Slice none none (some (.UnaryOp .USub (.Constant (.int 1) k p1) p2)) p3) pos) (tRevL K te) := same ▸ pe_revL h
theorem call_len_seqK {X : Cx} {K : PySem.W.Frag} (same : X.K = K) : CallR X (.builtin "len") (fun xs H Q => ∃ p ys, xs = [V.ref p] ∧ (SqL K H p ys ∨ SqT K H p ys) ∧ Q (V.int (ys.length : Nat)) H) := same ▸ call_len_seq
theorem pi_tupK {X : Cx} {K : PySem.W.Frag} {tg e : Expr} {te : TE} (same : X.K = K) (he : PE X e te) : PI X tg e (iTup K te) := same ▸ pi_tup he
theorem pi_listK {X : Cx} {K : PySem.W.Frag} {tg e : Expr} {te : TE} (same : X.K = K) (he : PE X e te) : PI X tg e (iList K te) := same ▸ pi_list he
theorem cr_maxK {X : Cx} {K : PySem.W.Frag} (same : X.K = K) (calm : X.calm = true) : CallR X (.builtin "max") (rMax K) := same ▸ cr_max calm
theorem cr_minK {X : Cx} {K : PySem.W.Frag} (same : X.K = K) (calm : X.calm = true) : CallR X (.builtin "min") (rMin K) := same ▸ cr_min calm
theorem cr_allK {X : Cx} {K : PySem.W.Frag} (same : X.K = K) (calm : X.calm = true) : CallR X (.builtin "all") (rAll K) := same ▸ cr_all calm
/-- what tuple(..) of a list or a tuple asks, the frame named -/
abbrev asksTup (K : PySem.W.Frag) : List V → Hp → VK → Prop := fun args H R => ∃ (b : Addr) (zs : List V), args = [.ref b] ∧ ((SqL K H b zs ∧ ∀ t, H t = none → R (.ref t) (upd H t (.tup zs))) ∨ SqT K H b zs ∧ R (.ref b) H)
/-- what list(..) of a list or a tuple asks, the frame named -/
abbrev asksLst (K : PySem.W.Frag) : List V → Hp → VK → Prop := fun args H R => ∃ (b : Addr) (zs : List V), args = [.ref b] ∧ (SqL K H b zs ∨ SqT K H b zs) ∧ ∀ t, H t = none → R (.ref t) (upd H t (.lst zs))
theorem call_tupK {X : Cx} {K : PySem.W.Frag} (same : X.K = K) : CallR X (.type "tuple") (asksTup K) := by
  subst same
  exact call_tuple_of
theorem call_lstK {X : Cx} {K : PySem.W.Frag} (same : X.K = K) : CallR X (.type "list") (asksLst K) := by
  subst same
  exact call_list_of
theorem op_in_seqK {X : Cx} {K : PySem.W.Frag} (same : X.K = K) : OpR X (compareOp .In) (rIn K false) := same ▸ op_in_seq
theorem op_notin_seqK {X : Cx} {K : PySem.W.Frag} (same : X.K = K) : OpR X (compareOp .NotIn) (rIn K true) := same ▸ op_notIn_seq
/-- a comprehension with a test, behind its iterator -/
def LcT (J : It) (g : TG) (tt : TT) (te : TE) (vs : List Nat) (σ : L2.St) (H : Hp) (Q : VK) : Prop := tLc (fun _ G R => R J G) g tt te vs σ H Q
theorem go_lcT {wi : TI} {g : TG} {tt : TT} {te : TE} {vs : List Nat} {σ : L2.St} {H : Hp} {Q : VK} (h : wi σ H fun J H1 => LcT J g tt te vs σ H1 Q) : tLc wi g tt te vs σ H Q := h
theorem go_meth {C : Addr} {m : Str} {sp : Sp} {E : XK} {ta : TE} {t : TA} {σ : L2.St} {H : Hp} {Q : VK} (h : ta σ H fun x H1 => ∃ a dx fs, x = .ref a ∧ H1 a = some (.ins C dx fs) ∧ fs.lookup m = none ∧ t σ H1 fun vs H2 => sp (x :: vs) H2 Q E) : tMeth C m sp [] E ta t σ H Q := by
  have e : (fun vs H2 => sp (V.non :: (vs ++ [])) H2 Q E) = (fun vs H2 => sp (V.non :: vs) H2 Q E) := by
    funext vs H2
    rw [List.append_nil]
  have e2 : ∀ x : V, (fun vs H2 => sp (x :: (vs ++ [])) H2 Q E) = (fun vs H2 => sp (x :: vs) H2 Q E) := fun x => by
    funext vs H2
    rw [List.append_nil]
  show ta σ H fun x H1 => ∃ a dx fs, x = .ref a ∧ H1 a = some (.ins C dx fs) ∧ fs.lookup m = none ∧ t σ H1 fun vs H2 => sp (x :: (vs ++ [])) H2 Q E
  simp only [e2]
  exact h
end At

namespace At
open L2 PyProof.Rows PySem.Spec PySem
/-! ### {k: v}, k a tuple -/
def tDict1 (tk tv : TE) : TE := fun σ H Q => ∀ p, H p = none → tk σ (upd H p (.dT [])) fun x H1 => tv σ H1 fun y H2 => ∃ (b : Addr) (ks : List L2.Key), x = .ref b ∧ H2 b = some (.tup (ks.map kV)) ∧ H2 p = some (.dT []) ∧ Q (.ref p) (upd H2 p (.dT [(ks, y)]))
theorem pe_dict1 {X : Cx} {pos : Pos} {k v : Expr} {tk tv : TE} (hu : X.A.units + 64 < cLine) (hk : PE X k tk) (hv : PE X v tv) : PE X (.Dict [some k] [v] pos) (tDict1 tk tv) := by
  (refine ⟨fun pins s σ H Q I q => ?_⟩)
  have free_d := I.hok.fresh (Nat.le_refl s.heap.objs.size)
  have I1 := I.laid (a := s.heap.objs.size) (o := .dT []) (h' := s.heap.push { cls := .type "dict", data := .dict #[] }) (t' := s.toks) (fun _ _ z => Heap.get?_push_of_some _ z) (Nat.le_refl _) (dt_empty s.heap I.big)
  have run := (pps_cons (pos := pos) hk hv pps_nil).run pins _ σ _ (fun ps H2 => ∃ (b : Addr) (ks : List L2.Key) (y : V), ps = [(.ref b, y)] ∧ H2 b = some (.tup (ks.map kV)) ∧ H2 s.heap.objs.size = some (.dT []) ∧ Q (.ref s.heap.objs.size) (upd H2 s.heap.objs.size (.dT [(ks, y)]))) I1 (by
    have h := q _ free_d
    have mono : ∀ {x : V} {H1 : Hp}, (tv σ H1 fun y H2 => ∃ (b : Addr) (ks : List L2.Key), x = .ref b ∧ H2 b = some (.tup (ks.map kV)) ∧ H2 s.heap.objs.size = some (.dT []) ∧ Q (.ref s.heap.objs.size) (upd H2 s.heap.objs.size (.dT [(ks, y)]))) = (tv σ H1 fun y H2 => tPairs [] σ H2 fun ps H3 => ∃ (b : Addr) (ks : List L2.Key) (y' : V), (x, y) :: ps = [(.ref b, y')] ∧ H3 b = some (.tup (ks.map kV)) ∧ H3 s.heap.objs.size = some (.dT []) ∧ Q (.ref s.heap.objs.size) (upd H3 s.heap.objs.size (.dT [(ks, y')]))) := fun {x H1} => by
      congr 1
      funext y H2
      refine propext ⟨?_, ?_⟩
      · rintro ⟨b, ks, rfl, h1, h2, h3⟩
        exact ⟨b, ks, y, rfl, h1, h2, h3⟩
      · rintro ⟨b, ks, y', e, h1, h2, h3⟩
        simp only [List.cons.injEq, Prod.mk.injEq, and_true] at e
        obtain ⟨rfl, rfl⟩ := e
        exact ⟨b, ks, rfl, h1, h2, h3⟩
    have h2 : tk σ (upd H s.heap.objs.size (.dT [])) (fun x H1 => tv σ H1 fun y H2 => tPairs [] σ H2 fun ps H3 => ∃ (b : Addr) (ks : List L2.Key) (y' : V), (x, y) :: ps = [(.ref b, y')] ∧ H3 b = some (.tup (ks.map kV)) ∧ H3 s.heap.objs.size = some (.dT []) ∧ Q (.ref s.heap.objs.size) (upd H3 s.heap.objs.size (.dT [(ks, y')]))) := by
      have e : (fun (x : V) (H1 : Hp) => tv σ H1 fun y H2 => tPairs [] σ H2 fun ps H3 => ∃ (b : Addr) (ks : List L2.Key) (y' : V), (x, y) :: ps = [(.ref b, y')] ∧ H3 b = some (.tup (ks.map kV)) ∧ H3 s.heap.objs.size = some (.dT []) ∧ Q (.ref s.heap.objs.size) (upd H3 s.heap.objs.size (.dT [(ks, y')]))) = (fun x H1 => tv σ H1 fun y H2 => ∃ (b : Addr) (ks : List L2.Key), x = .ref b ∧ H2 b = some (.tup (ks.map kV)) ∧ H2 s.heap.objs.size = some (.dT []) ∧ Q (.ref s.heap.objs.size) (upd H2 s.heap.objs.size (.dT [(ks, y)]))) := by
        funext x H1
        exact mono.symm
      rw [e]
      exact h
    exact h2)
  rw [arm_eval_Dict, zip_pairTrees [some k] [v] X.env pos rfl rfl, dictDisplay_pairs _ (by simp [pairTrees]) (by simp [pairTrees])]
  refine wpAny_bind (wpAny_standAt (wpAny_bind (wpAny_subDictH (knd := tupleKind (mixKind X.prog X.w)) (Q := fun d s' => wpAny (model X.prog X.w) X.A (pure (Value.ref d)) _ _ s') (by show X.A.units < cLine; omega) (by simp [pairTrees]) (thn run fun ws s2 got => ?_))))
  obtain ⟨ps, H2, I2, rel, b, ks, y, rfl, hb, hp, q2⟩ := got
  match ws, rel with
  | [(u, w2)], .cons ⟨r1, r2⟩ .nil =>
    cases (show u = Value.ref b from r1)
    obtain ⟨z, hd, xs, relx, dd⟩ := dt_of I2.hok hp
    cases relx
    refine ⟨[(ks, b, w2)], ⟨rfl, rfl, key_of I2.hok hb, trivial⟩, dd, fun h' tk' dd' hs => wpAny_pure ⟨.ref s.heap.objs.size, _, ?_, rfl, q2⟩⟩
    obtain ⟨qo, es, ep, hq, h2, h3, h4, _, h5⟩ := dd'
    refine d_write I2 (by rw [hp]; exact True.intro) hs ⟨qo, hq⟩ ⟨by rw [sizeLine_eq]; exact Nat.le_of_ble_eq_true rfl, hd, _, ((KT.put (kvs := []) (xs := []) .nil ks hb r2).keeps fun c ys ec => ?_), qo, es, ep, hq, h2, h3, h4, h5⟩
    rw [upd_ne (ne_of ec hp (fun z => nomatch z))]
    exact ec
theorem hu65 {A : Around} {k : Nat} (hr : Room k A) : A.units + 65 < cLine := by have := hr.un; omega
theorem hu1 {A : Around} {k : Nat} (hr : Room k A) : A.units + 1 < cLine := by have := hr.un; omega
section
variable {σ : L2.St} {H : Hp} {D : Ends} {Q : VK} {ta tb tv : TE}
theorem go_dict1 (h : ∀ p, H p = none → ta σ (upd H p (.dT [])) fun x H1 => tb σ H1 fun y H2 => ∃ (b : Addr) (ks : List L2.Key), x = .ref b ∧ H2 b = some (.tup (ks.map kV)) ∧ H2 p = some (.dT []) ∧ Q (.ref p) (upd H2 p (.dT [(ks, y)]))) : tDict1 ta tb σ H Q := h
theorem go_dput (h : tv σ H fun v H1 => ta σ H1 fun x H2 => tb σ H2 fun y H3 => ∃ a H4, x = .ref a ∧ DPut H3 a y v H4 ∧ D.nx σ H4) : sDPut ta tb tv D σ H := h
theorem go_dget (h : ta σ H fun x H1 => tb σ H1 fun y H2 => ∃ a v, x = .ref a ∧ DGet H2 a y (some v) ∧ Q v H2) : tDGet ta tb σ H Q := h
theorem go_dnotin (h : tb σ H fun y H1 => ta σ H1 fun x H2 => ∃ a o, x = .ref a ∧ DGet H2 a y o ∧ Q (.bl (!o.isSome)) H2) : tDNotIn tb ta σ H Q := h
theorem go_din (h : tb σ H fun y H1 => ta σ H1 fun x H2 => ∃ a o, x = .ref a ∧ DGet H2 a y o ∧ Q (.bl o.isSome) H2) : tDIn tb ta σ H Q := h
end
end At

namespace At
open L2 PyProof.Rows PySem.Spec PySem
/-! ### sorted(xs), xs a list of triples of whole numbers -/
abbrev Z3 := Int × Int × Int
def zv (t : Z3) : List V := [.int t.1, .int t.2.1, .int t.2.2]
def lt3 (u v : Z3) : Bool := decide (u.1 < v.1) || (!decide (v.1 < u.1) && (decide (u.2.1 < v.2.1) || (!decide (v.2.1 < u.2.1) && (decide (u.2.2 < v.2.2)))))
def key3 (u : Z3) : List (Int ⊕ List Nat) := [.inl u.1, .inl u.2.1, .inl u.2.2]
theorem lex3 (u v : Z3) : lexLt itemOrd (key3 u) (key3 v) = lt3 u v := by
  show (decide (u.1 < v.1) || (!decide (v.1 < u.1) && (decide (u.2.1 < v.2.1) || (!decide (v.2.1 < u.2.1) && (decide (u.2.2 < v.2.2) || (!decide (v.2.2 < u.2.2) && false)))))) = _
  unfold lt3
  rw [Bool.and_false, Bool.or_false]
def rSort3 : List V → Hp → VK → Prop := fun vs H Q => ∃ (a : Addr) (L : List (Addr × Z3)), vs = [.ref a] ∧ H a = some (.lst (L.map fun q => .ref q.1)) ∧ (∀ q ∈ L, H q.1 = some (.tup (zv q.2))) ∧
  ∀ (M : List (Addr × Z3)) (p : Addr), M.Perm L → M.Pairwise (fun q r => lt3 r.2 q.2 = false) → H p = none → Q (.ref p) (upd H p (.lst (M.map fun q => .ref q.1)))
/-- what stands at an address -/
def at3 (L : List (Addr × Z3)) (v : Value) : Addr × Z3 := match v with
  | .ref a => ((L.find? fun q => q.1 == a).getD (a, 0, 0, 0))
  | _ => (0, 0, 0, 0)
theorem zv_inj {u v : Z3} (h : zv u = zv v) : u = v := by
  obtain ⟨x, y, z⟩ := u
  obtain ⟨x', y', z'⟩ := v
  simp only [zv, List.cons.injEq, V.int.injEq, and_true] at h
  obtain ⟨rfl, rfl, rfl⟩ := h
  rfl
theorem at3_of {H : Hp} {L : List (Addr × Z3)} (hx : ∀ q ∈ L, H q.1 = some (.tup (zv q.2))) {q : Addr × Z3} (hq : q ∈ L) : at3 L (.ref q.1) = q := by
  show ((L.find? fun r => r.1 == q.1).getD (q.1, 0, 0, 0)) = q
  cases z : L.find? fun r => r.1 == q.1 with
  | none => exact absurd (List.find?_eq_none.mp z q hq) (by simp)
  | some r =>
    have h1 : r.1 = q.1 := by simpa using List.find?_some z
    have h2 := hx r (List.mem_of_find?_eq_some z)
    rw [h1, hx q hq] at h2
    have h3 : q.2 = r.2 := zv_inj (HO.tup.inj (Option.some.inj h2))
    show r = q
    exact Prod.ext h1 h3.symm
theorem refs3 : ∀ {L : List (Addr × Z3)} {its : List Value}, Vals (L.map fun q => V.ref q.1) its → its = L.map fun q => Value.ref q.1
  | [], _, r => by cases r; rfl
  | q :: L, _, r => by
    cases r with
    | cons h t =>
      rw [List.map_cons, refs3 t]
      cases (show _ = Value.ref q.1 from h)
      rfl
variable {X : Cx}
theorem cr_sorted3 : CallR X (.builtin "sorted") rSort3 := by
  (intro pins s σ H vs us Q I r h)
  obtain ⟨a, L, rfl, hl, hx, q⟩ := h
  obtain ⟨its, rv, hil, hz⟩ := I.list (SqL.of hl)
  rw [Vals.ref1 r]
  have e1 := refs3 rv
  have key : ∀ p ∈ L, G.tupKeyC s.heap (fun _ => false) (.ref p.1) = some (key3 p.2) ∧ ∃ f, TupOf s.heap (fun _ => false) (.ref p.1) f := fun p hp => by
    obtain ⟨ws, rw_, ⟨o, ho, hc, n, hd⟩, _⟩ := I.tuple (SqT.of (hx p hp))
    match ws, rw_ with
    | [u1, u2, u3], .cons h1 (.cons h2 (.cons h3 .nil)) =>
      obtain ⟨t1, rfl⟩ := h1
      obtain ⟨t2, rfl⟩ := h2
      obtain ⟨t3, rfl⟩ := h3
      refine ⟨?_, _, p.1, o, _, n, rfl, ho, hc, hd, rfl, fun _ => ⟨_, _, rfl⟩, fun z => nomatch z⟩
      unfold G.tupKeyC G.isTupObj tupKey
      simp only [ho, hc, hd]
      rfl
  have keyV : ∀ v ∈ its, G.tupKeyC s.heap (fun _ => false) v = some (key3 (at3 L v).2) := fun v hv => by
    rw [e1] at hv
    obtain ⟨p, hp, rfl⟩ := List.mem_map.mp hv
    rw [at3_of hx hp]
    exact (key p hp).1
  obtain ⟨fs, tups⟩ : ∃ fs, TupsOf s.heap (fun _ => false) its fs := by
    have go : ∀ M : List (Addr × Z3), (∀ p ∈ M, p ∈ L) → ∃ fs, TupsOf s.heap (fun _ => false) (M.map fun q => Value.ref q.1) fs := by
      intro M
      induction M with
      | nil => intro _; exact ⟨[], .nil⟩
      | cons p M ih =>
        intro hM
        obtain ⟨fs, hf⟩ := ih fun x hx => hM x (List.mem_cons_of_mem _ hx)
        obtain ⟨_, f, t⟩ := key p (hM p List.mem_cons_self)
        exact ⟨f :: fs, .cons t hf⟩
    rw [e1]
    exact go L fun _ h => h
  refine G.sorted_tups hil.isList tups (fun v hv => ⟨_, keyV v hv⟩) (by rw [← rv.length]; exact hz) fun st' hp hs _ => ?_
  obtain ⟨ep, he'⟩ := PyProof.Rows.sortedAll_at s.heap its ((arrOf st').map (·.2))
  have pl : (arrOf st').toList.Perm (its.zip its) := by
    have := hp.toList
    rwa [pairsOf_toList] at this
  have same : ∀ p ∈ (arrOf st').toList, p.1 = p.2 ∧ p.1 ∈ its := fun p h => mem_zip_self (pl.mem_iff.mp h)
  have outP : ((arrOf st').map (·.2)).toList.Perm its := by
    rw [Array.toList_map]
    have z := pl.map Prod.snd
    (rw [List.map_snd_zip (Nat.le_refl _)] at z)
    exact z
  obtain ⟨M, hM⟩ : ∃ M, ((arrOf st').map (·.2)).toList.map (at3 L) = M := ⟨_, rfl⟩
  have back : (M.map fun q => Value.ref q.1) = ((arrOf st').map (·.2)).toList := by
    rw [← hM, List.map_map]
    refine Eq.trans (List.map_congr_left fun v hv => ?_) (List.map_id _)
    have := outP.mem_iff.mp hv
    rw [e1] at this
    obtain ⟨p, hp', rfl⟩ := List.mem_map.mp this
    show Value.ref (at3 L (.ref p.1)).1 = _
    rw [at3_of hx hp']
    rfl
  have perm : M.Perm L := by
    have z := outP.map (at3 L)
    rw [hM, e1, List.map_map] at z
    refine z.trans (List.Perm.of_eq ?_)
    refine Eq.trans (List.map_congr_left fun p hp' => ?_) (List.map_id _)
    exact at3_of hx hp'
  have valsM : Vals (M.map fun q => V.ref q.1) ((arrOf st').map (·.2)).toList := by
    rw [← back]
    have go : ∀ M : List (Addr × Z3), Vals (M.map fun q => V.ref q.1) (M.map fun q => Value.ref q.1) := by
      intro M
      induction M with
      | nil => exact .nil
      | cons p M ih => exact .cons rfl ih
    exact go M
  have sorted : M.Pairwise (fun q r => lt3 r.2 q.2 = false) := by
    rw [← hM, List.pairwise_map, Array.toList_map, List.pairwise_map, List.pairwise_iff_getElem]
    intro i j hi hj lt
    have hsz : (arrOf st').size = (pairsOf its).size := hp.size_eq
    have hk := hs i j (Nat.le_of_lt lt) (by rw [← hsz, ← Array.length_toList]; exact hj)
    have kk : ∀ (k : Nat) (h : k < (arrOf st').toList.length), KK (G.tupKindC s.heap fun _ => false) (arrOf st') k = key3 (at3 L ((arrOf st').toList[k]).2).2 := fun k h => by
      unfold KK
      rw [← Array.getElem?_toList, List.getElem?_eq_getElem h]
      obtain ⟨e, m⟩ := same _ (List.getElem_mem h)
      show ((G.tupKeyC s.heap (fun _ => false) ((arrOf st').toList[k]).1).getD []) = _
      rw [keyV _ m, ← e]
      rfl
    rw [kk i hi, kk j hj] at hk
    rw [← lex3]
    exact hk
  have hlen : (M.map fun q => V.ref q.1).length ≤ sizeLine := by
    rw [List.length_map, perm.length_eq]
    rwa [List.length_map] at hz
  exact ⟨.ref _, upd H (s.heap.objs.size + 1) (.lst (M.map fun q => .ref q.1)), I.laid (t' := s.toks) (fun _ _ => PyProof.Rows.sortedAll_old) (Nat.le_succ _) ⟨hlen, _, ep, valsM, he'⟩, rfl, q M _ perm sorted (I.hok.fresh (Nat.le_succ _))⟩
end At

namespace At
open L2 PyProof.Rows PySem.Spec PySem
/-! ### three names bound to the three signs of a text -/
section
variable {w : World} {A : Around} {E : Value → Shared → Prop} {prog : Program}
def one1 (c : Nat) (k : Tok) : Value := .str ⟨#[c]⟩ k
theorem three_signs {a b c : Nat} {t : Tok} {s : Shared} {Q : List Value → Shared → Prop} (calm : A.handled = none) (low : (#[a, b, c] : Array Nat).all (· < 128) = true)
    (fin : ∀ h' i j k, Heap.ExtBut s.heap.objs.size s.heap h' → Q [one1 a i, one1 b j, one1 c k] { s with heap := h', toks := s.toks + 1 + 1 + 1 }) : wpAny (model prog w) A (unpackItems (.str ⟨#[a, b, c]⟩ t) 3 none) Q E s := by
  have low' : (⟨#[a, b, c]⟩ : Str).cps.all (· < 128) = true := low
  unfold unpackItems notIterableAtAll
  refine wpAny_bind (wpAny_bind (wpAny_specialOf (typeIs_str s _ t) F.slot_str_iter.lookup (wpAny_pure ?_)))
  (rw [if_neg Bool.false_ne_true])
  refine wpAny_bind (wpAny_holding (wpAny_pyIter_ascii low' ?_))
  have z0 : Heap.IsStrIter (s.heap.push { cls := .type "str_ascii_iterator", data := .fields #[.str ⟨#[a, b, c]⟩ t, .int 0 0] }) s.heap.objs.size "str_ascii_iterator" ⟨#[a, b, c]⟩ t 0 := ⟨_, Heap.get?_push_size _ rfl, rfl, rfl⟩
  have k0 : Heap.ExtBut s.heap.objs.size s.heap (s.heap.push { cls := .type "str_ascii_iterator", data := .fields #[.str ⟨#[a, b, c]⟩ t, .int 0 0] }) := fun x o _ h => Heap.get?_push_of_some _ h
  generalize s.heap.push { cls := .type "str_ascii_iterator", data := .fields #[.str ⟨#[a, b, c]⟩ t, .int 0 0] } = g0 at z0 k0 ⊢
  (refine wpAny_bind (wpAny_holding ?_))
  unfold draw
  refine wpAny_bind (wpAny_pyNext_ascii_item (c := a) z0 rfl fun g1 z1 k1 => ?_)
  (refine wpAny_bind (wpAny_holding ?_))
  unfold draw
  refine wpAny_bind (wpAny_pyNext_ascii_item (c := b) z1 rfl fun g2 z2 k2 => ?_)
  (refine wpAny_bind (wpAny_holding ?_))
  unfold draw
  refine wpAny_bind (wpAny_pyNext_ascii_item (c := c) z2 rfl fun g3 z3 k3 => ?_)
  (refine wpAny_bind (wpAny_holding ?_))
  unfold draw
  refine wpAny_pure (wpAny_pure (wpAny_pure (wpAny_pure ?_)))
  dsimp only
  rw [if_neg (by show ¬ 3 < 3; decide)]
  refine wpAny_bind (wpAny_holding (wpAny_pyNext_ascii_end calm z3 rfl fun g4 k4 => ?_))
  rw [if_neg (by simp)]
  exact wpAny_pure (fin g4 _ _ _ fun x o n h => k4 x o n (k3.extBut x o n (k2.extBut x o n (k1.extBut x o n (k0 x o n h)))))
end
def gUn3 (t : TGs) : TG := fun v σ H Q => ∃ a b c : Nat, v = .str ⟨#[a, b, c]⟩ ∧ (#[a, b, c] : Array Nat).all (· < 128) = true ∧ t [.str ⟨#[a]⟩, .str ⟨#[b]⟩, .str ⟨#[c]⟩] σ H Q
theorem pg_un3 {X : Cx} {pos : Pos} {es : List Expr} {k : Nat} {t : TGs} (calm : X.calm = true) (each : PGs X es t) (three : (assignEach es X.env).length = 3 := by rfl) (plain : (assignEach es X.env).findIdx? (·.1) = none := by rfl) : PG X (.Tuple es k pos) (gUn3 t) where
  run := fun pins s σ H v u Q I r hw => by
    obtain ⟨a, b, c, rfl, low, hw⟩ := hw
    obtain ⟨tk, rfl⟩ := r
    rw [assign_Tuple]
    refine wpAny_bind (wpAny_standAt (by
      unfold unpack
      rw [three, plain]
      exact wpAny_bind (wpAny_holding (three_signs (I.ok.hd calm) low fun g i j k e => each.run pins _ σ H _ _ Q (I.kept fun x o hx => e x o (Nat.ne_of_lt (Heap.lt_size hx)) hx) (show Vals [V.str ⟨#[a]⟩, V.str ⟨#[b]⟩, V.str ⟨#[c]⟩] _ from .cons ⟨i, rfl⟩ (.cons ⟨j, rfl⟩ (.cons ⟨k, rfl⟩ .nil))) hw))))
end At

namespace At
open L2 PyProof.Rows PySem.Spec PySem
/-! ### a tuple whose own record is known: it has no dict, so its methods can be called -/
def Frt (H : Hp) (a : Addr) (xs : List V) : Prop := ∃ o : Obj, H a = some (.frz o (.tup xs)) ∧ o.dict = none
theorem Frt.ext {H H' : Hp} {a : Addr} {xs : List V} (h : Frt H a xs) (e : Ext H H') : Frt H' a xs := let ⟨o, h1, h2⟩ := h; ⟨o, e _ _ h1, h2⟩
section
variable {pins : List (Addr × Obj)} {σ : L2.St} {H : Hp} {s : Shared} {X : Cx}
theorem frt_ok {a : Addr} {xs : List V} (I : Inv X pins σ H s) (h : Frt H a xs) : ∃ its : List Value, Vals xs its ∧ IsTup s.heap a its.toArray ∧ ∃ o, s.heap.get? a = some o ∧ o.dict = none := by
  obtain ⟨o, h1, h2⟩ := h
  obtain ⟨e, _, its, rv, p⟩ := (show ObjOk X.prog X.w H s.heap a (.frz o (.tup xs)) from I.hok a _ h1)
  exact ⟨its, rv, p, o, e, h2⟩
/-- tuple(list): as a tuple, or as one whose record is known -/
def rTupF (K : PySem.W.Frag) : List V → Hp → VK → Prop := fun vs H Q => ∃ p ys, vs = [.ref p] ∧ SqL K H p ys ∧
  ((∀ l, H l = none → Q (.ref l) (upd H l (.tup ys))) ∨ ∀ l o, H l = none → o.dict = none → Q (.ref l) (upd H l (.frz o (.tup ys))))
theorem call_tupF : CallR X (.type "tuple") (rTupF X.K) := by
  intro pins s σ H xs us Q I r ⟨p, ys, ex, hq, h⟩
  subst ex
  rw [Vals.ref1 r]
  (obtain ⟨its, rv, pl, hz⟩ := I.list hq)
  have hl := rv.length
  refine PySem.call_tuple_list pl.isList (fun h' kp => ?_) (by rw [List.size_toArray, ← hl]; exact hz)
  have J : Inv X pins σ H { s with heap := h' } := I.kept (t' := s.toks) kp
  have new : H h'.objs.size = none := J.hok.fresh (Nat.le_refl _)
  have old : ∀ b o, h'.get? b = some o → (h'.push { cls := .type "tuple", data := .seq its.toArray }).get? b = some o := fun b o e => Heap.get?_push_of_some _ e
  rcases h with h | h
  · exact ⟨.ref h'.objs.size, _, J.laid (t' := s.toks) (o := .tup ys) old (Nat.le_refl _) ⟨hz, its, rv, IsTup.new _ _⟩, rfl, h _ new⟩
  · refine ⟨.ref h'.objs.size, _, J.laid (t' := s.toks) (o := .frz { cls := .type "tuple", data := .seq its.toArray } (.tup ys)) old (Nat.le_refl _) ⟨Heap.get?_push_size _ rfl, hz, its, rv, IsTup.new _ _⟩, rfl, h _ _ new rfl⟩
/-- max(t) of such a tuple -/
def rMostF (f : Int → Int → Int) : List V → Hp → VK → Prop := fun vs H Q => ∃ (a : Addr) (n : Int) (ns : List Int), vs = [.ref a] ∧ Frt H a (.int n :: ns.map .int) ∧ Q (.int (ns.foldl f n)) H
theorem cr_mostF {k : Nat} (hc : X.calm = true) (hr : Room k X.A) : CallR X (.builtin "max") (rMostF max) := by
  intro pins s σ H vs us Q I r ⟨a, n, ns, e, hs, q⟩
  subst e
  obtain ⟨its, rv, p, _⟩ := frt_ok I hs
  rw [Vals.ref1 r]
  refine PySem.W.max_tuple_data (x := .int n) (xs := ns.map .int) (as := []) (I.ok.hd hc) p (reads_nums (ns := n :: ns) rv) (alike_nums (n :: ns)) ?_ fun _ v h' tk bs _ rd hk => ?_
  · rw [show PyData.int n :: ns.map PyData.int = (n :: ns).map .int from rfl, flat_nums]
    have := hr.un
    omega
  · rw [PySem.W.maxD_ints] at rd
    exact ⟨_, H, I.kept hk, int_of_reads rd, q⟩
end
/-- t.index(k), k among the whole numbers of t -/
def tTidx (to te : TE) : TE := fun σ H Q => to σ H fun x H1 => ∃ (a : Addr) (ns : List Int), x = .ref a ∧ Frt H1 a (ns.map .int) ∧ te σ H1 fun y H2 => ∃ k, y = .int k ∧ k ∈ ns ∧ Frt H2 a (ns.map .int) ∧ Q (.int (ns.idxOf k : Nat)) H2
theorem go_tidx {σ : L2.St} {H : Hp} {Q : VK} {to te : TE} (h : to σ H fun x H1 => ∃ (a : Addr) (ns : List Int), x = .ref a ∧ Frt H1 a (ns.map .int) ∧ te σ H1 fun y H2 => ∃ k, y = .int k ∧ k ∈ ns ∧ Frt H2 a (ns.map .int) ∧ Q (.int (ns.idxOf k : Nat)) H2) : tTidx to te σ H Q := h
section
variable {X : Cx} {o e : Expr} {to te : TE} {apos cpos : Pos}
theorem pe_tidx (ho : PE X o to) (he : PE X e te) (hb : attributeBase o "index" X.env (eval o X.env) = eval o X.env := by rfl)
    (few : ((backTo cpos (starEach [e] X.env)).all (fun x => !x.1) && (backToKw cpos (keywordEach [] X.env)).all (fun x => x.1.isSome) && decide (([e] : List Expr).length + ([] : List Keyword).length + (if ([] : List Keyword).isEmpty then 0 else 1) < 30)) = true := by rfl)
    (line : (apos.endLine == cpos.line) = true := by rfl) (hs : starEach [e] X.env = (false, eval e X.env) :: starEach [] X.env := by rfl) (plain : (backTo cpos (starEach [] X.env)).any (·.1) = false := by rfl) :
    PE X (.Call (.Attribute o "index" apos) [e] [] cpos) (tTidx to te) := by
  have args : PA X [e] (tCons te tNil) := pa_cons he pa_nil hs
  constructor
  intro pins s σ H Q I h
  refine wpAny_Call_method_late hb few line rfl (thn (ho.run pins s σ H _ I h) fun v s1 z => ?_)
  obtain ⟨x, H1, I1, rx, a, ns, rfl, ft, q⟩ := z
  (cases (show v = Value.ref a from rx))
  obtain ⟨its, _, ⟨ob, g, c, _⟩, ob', g', nod⟩ := frt_ok I1 ft
  refine ⟨"tuple", "tuple.index", PySem.F.plainAttrs_tuple, PySem.F.slot_tuple_index, PySem.F.type_tuple_index, ⟨ob, g, c⟩, fun b eb => ?_, ?_⟩
  · cases eb
    exact ⟨ob', g', nod⟩
  have got := args.run cpos pins s1 σ H1 (fun vs H2 => ∃ k, vs = [V.int k] ∧ k ∈ ns ∧ Frt H2 a (ns.map .int) ∧ Q (.int (ns.idxOf k : Nat)) H2) I1 (go_cons (show te σ H1 _ from by
    have e1 : (fun (y : V) (H2 : Hp) => tNil σ H2 fun xs H3 => ∃ k, (y :: xs : List V) = [V.int k] ∧ k ∈ ns ∧ Frt H3 a (ns.map .int) ∧ Q (.int (ns.idxOf k : Nat)) H3) = fun y H2 => ∃ k, y = .int k ∧ k ∈ ns ∧ Frt H2 a (ns.map .int) ∧ Q (.int (ns.idxOf k : Nat)) H2 := by
      funext y H2
      apply propext
      constructor
      · rintro ⟨k, e, r⟩
        exact ⟨k, (List.cons.inj e).1, r⟩
      · rintro ⟨k, e, r⟩
        exact ⟨k, by rw [e], r⟩
    rw [e1]
    exact q))
  rw [hs] at got ⊢
  refine Calls.callWith_builtin (by show (false || (backTo cpos (starEach [] X.env)).any (·.1)) = false; rw [plain]; rfl) (Calls.evalArgs_plain ?_)
  refine thn got fun us s2 w => ?_
  obtain ⟨vs, H2, I2, r2, k, rfl, hk, ft2, q2⟩ := w
  obtain ⟨its2, rv2, p2, _⟩ := frt_ok I2 ft2
  match us, r2 with
  | [u], .cons ru .nil =>
    obtain ⟨t, rfl⟩ := (show ∃ t, u = Value.int k t from ru)
    exact PySem.SeqAt.tuple_index_ints p2 (Vals.ints rv2) hk ⟨.int (ns.idxOf k : Nat), H2, I2.tok _, ⟨_, rfl⟩, q2⟩
end
/-- C(*y): a new instance, its parameters the items of y -/
def tMakeS (K : PySem.W.Frag) (C : Addr) (sp : Sp) (E : XK) (te : TE) : TE := fun σ H Q => te σ H fun y H1 => ∃ a xs, y = V.ref a ∧ (SqT K H1 a xs ∨ SqL K H1 a xs) ∧
  ∀ x dx, H1 x = none → H1 dx = none → dx ≠ x → sp (.ref x :: xs) (upd (upd H1 dx (.own x)) x (.ins C dx [])) (fun v H2 => v = .non ∧ Q (.ref x) H2) E
theorem go_makeS {K : PySem.W.Frag} {C : Addr} {sp : Sp} {E : XK} {te : TE} {σ : L2.St} {H : Hp} {Q : VK} (h : te σ H fun y H1 => ∃ a xs, y = V.ref a ∧ (SqT K H1 a xs ∨ SqL K H1 a xs) ∧
  ∀ x dx, H1 x = none → H1 dx = none → dx ≠ x → sp (.ref x :: xs) (upd (upd H1 dx (.own x)) x (.ins C dx [])) (fun v H2 => v = .non ∧ Q (.ref x) H2) E) : tMakeS K C sp E te σ H Q := h
theorem pe_makeS {X : Cx} {CX : CXT} {k : Nat} {f C : Addr} {sp : Sp} {E : XK} {x : Str} {e : Expr} {te : TE} {p q pos : Pos} (M : Mk X.K C f) (F : FnR X.prog X.w X.K X.mg X.base CX k f sp) (hr : Room (k + 1) X.A) (hg : Gl X x) (hm : X.mg x = some (.ref C)) (hx : Passes CX X E) (he : PE X e te)
    (hd : (x == ("__debug__" : Str)) = false := by decide) (one : starEach [.Starred e q] X.env = [(true, eval e X.env)] := by rfl) : PE X (.Call (.Name x p) [.Starred e q] [] pos) (tMakeS X.K C sp E te) := by
  constructor
  intro pins s σ H Q I h
  refine wpAny_Call_Name_kw (ld_glob I hg hm (PySem.W.callWith_S (h₀ := X.base) I.ok.mod.kin M.kp (thn (he.run pins s σ H _ I h) fun v s1 z => ?_) one) hd)
  obtain ⟨y, J, I1, ry, a, xs, rfl, hxs, made⟩ := z
  cases (show v = Value.ref a from ry)
  exact StX.star_any I1 hxs fun us s2 I2 rv => ⟨I2.kIn, StX.run_makeR M F hr hx I2 rv made⟩
end At

/-! Arrowtrios: turns, words and what they lead to. Plain Lean. -/
namespace At
inductive P3 where
  | a | b | c
  deriving DecidableEq
def P3.i : P3 → Int
  | .a => 0
  | .b => 1
  | .c => 2
abbrev T3 := Int × Int × Int
def push (u v w : Int) : Int := if 0 < u ∧ 0 < v then w - u * v else if u < 0 ∧ v < 0 then w + u * v else w
def turn : P3 → T3 → T3
  | .a, (x, y, z) => (-x, push z x y, -z)
  | .b, (x, y, z) => (-x, -y, push x y z)
  | .c, (x, y, z) => (push y z x, -y, -z)
def co : P3 → T3 → Int
  | .a, (_, _, z) => z
  | .b, (x, _, _) => x
  | .c, (_, y, _) => y
def go : P3 → T3 → Int
  | .a, (x, _, _) => x
  | .b, (_, y, _) => y
  | .c, (_, _, z) => z
def opp : P3 → T3 → Int
  | .a, (_, y, _) => y
  | .b, (_, _, z) => z
  | .c, (x, _, _) => x
def nat (i : Int) : Int := if i < 0 then -i else i
theorem push_push (u v w : Int) : push (-u) (-v) (push u v w) = w := by
  unfold push
  have e : -u * -v = u * v := by rw [Int.neg_mul_neg]
  rw [e]
  by_cases h1 : 0 < u ∧ 0 < v
  · rw [if_pos h1, if_neg (by omega), if_pos (by omega)]; omega
  · by_cases h2 : u < 0 ∧ v < 0
    · rw [if_pos (show 0 < -u ∧ 0 < -v by omega), if_neg h1, if_pos h2]; omega
    · rw [if_neg (show ¬ (0 < -u ∧ 0 < -v) by omega), if_neg (show ¬ (-u < 0 ∧ -v < 0) by omega), if_neg h1, if_neg h2]
theorem drop_last {p : P3} : ∀ {l : List P3}, l.getLast? = some p → l = l.dropLast ++ [p]
  | [], h => by simp at h
  | [q], h => by
    have e : q = p := by simpa using h
    rw [e]
    rfl
  | q :: r :: l, h => by
    (rw [List.getLast?_cons_cons] at h)
    have ih := drop_last h
    show q :: r :: l = q :: (r :: l).dropLast ++ [p]
    rw [List.cons_append, ← ih]
theorem turn_turn (p : P3) (t : T3) : turn p (turn p t) = t := by
  obtain ⟨x, y, z⟩ := t
  cases p <;> simp only [turn, push_push, Int.neg_neg]
def walk (t : T3) (ps : List P3) : T3 := ps.foldl (fun t p => turn p t) t
theorem walk_nil (t : T3) : walk t [] = t := rfl
theorem walk_cons (t : T3) (p : P3) (ps : List P3) : walk t (p :: ps) = walk (turn p t) ps := rfl
theorem walk_append (t : T3) (ps qs : List P3) : walk t (ps ++ qs) = walk (walk t ps) qs := by
  unfold walk
  rw [List.foldl_append]
theorem walk_back : ∀ (ps : List P3) (t : T3), walk (walk t ps) ps.reverse = t
  | [], t => rfl
  | p :: ps, t => by
    rw [walk_cons, List.reverse_cons, walk_append, walk_back ps (turn p t), walk_cons, walk_nil, turn_turn]
/-- so many times a word -/
def many : Nat → List P3 → T3 → T3
  | 0, _, t => t
  | n + 1, ps, t => many n ps (walk t ps)
theorem many_add (ps : List P3) : ∀ (n m : Nat) (t : T3), many (n + m) ps t = many m ps (many n ps t)
  | 0, m, t => by rw [Nat.zero_add]; rfl
  | n + 1, m, t => by
    rw [show n + 1 + m = (n + m) + 1 by omega]
    show many (n + m) ps (walk t ps) = many m ps (many n ps (walk t ps))
    exact many_add ps n m _
theorem many_mul (ps : List P3) (m : Nat) : ∀ (n : Nat) (t : T3), (∀ s, many m ps s = s) → many (n * m) ps t = t
  | 0, t, _ => by rw [Nat.zero_mul]; rfl
  | n + 1, t, h => by rw [Nat.succ_mul, many_add, many_mul ps m n t h, h]
/-- a round that leads back to t falls out -/
theorem many_round (ps : List P3) (m : Nat) (t : T3) (h : many m ps t = t) (n : Nat) : many n ps t = many (n % m) ps t := by
  have hk : ∀ k, many (k * m) ps t = t := by
    intro k
    induction k with
    | zero => rw [Nat.zero_mul]; rfl
    | succ k ih => rw [Nat.succ_mul, many_add, ih, h]
  have e : n = (n / m) * m + n % m := by
    have := Nat.div_add_mod n m
    rw [Nat.mul_comm] at this
    exact this.symm
  have e2 : many n ps t = many ((n / m) * m + n % m) ps t := by rw [← e]
  rw [e2, many_add, hk]
theorem many_congr {ps qs : List P3} (h : ∀ t, walk t ps = walk t qs) : ∀ (n : Nat) (t : T3), many n ps t = many n qs t
  | 0, _ => rfl
  | n + 1, t => by
    show many n ps (walk t ps) = many n qs (walk t qs)
    rw [h, many_congr h n]
theorem many_around (w c : List P3) : ∀ (n : Nat) (t : T3), many n (w ++ c ++ w.reverse) t = walk (many n c (walk t w)) w.reverse
  | 0, t => (walk_back w t).symm
  | n + 1, t => by
    show many n (w ++ c ++ w.reverse) (walk t (w ++ c ++ w.reverse)) = walk (many n c (walk (walk t w) c)) w.reverse
    rw [many_around w c n, walk_append, walk_append]
    have e : ∀ s, walk (walk s w.reverse) w = s := fun s => by
      have := walk_back w.reverse s
      rw [List.reverse_reverse] at this
      exact this
    rw [e]
def rep (n : Nat) (ps : List P3) : List P3 := (List.replicate n ps).flatten
theorem rep_zero (ps : List P3) : rep 0 ps = [] := rfl
theorem rep_succ (n : Nat) (ps : List P3) : rep (n + 1) ps = ps ++ rep n ps := by
  unfold rep
  (rw [List.replicate_succ, List.flatten_cons])
theorem walk_rep (ps : List P3) : ∀ (n : Nat) (t : T3), walk t (rep n ps) = many n ps t
  | 0, _ => rfl
  | n + 1, t => by
    rw [rep_succ, walk_append, walk_rep ps n]
    rfl
theorem many_rep (ps : List P3) (k : Nat) : ∀ (n : Nat) (t : T3), many n (rep k ps) t = many (n * k) ps t
  | 0, t => by rw [Nat.zero_mul]; rfl
  | n + 1, t => by
    show many n (rep k ps) (walk t (rep k ps)) = _
    rw [many_rep ps k n, walk_rep, ← many_add, Nat.succ_mul, Nat.add_comm]
theorem rep_length (n : Nat) (ps : List P3) : (rep n ps).length = n * ps.length := by
  induction n with
  | zero => simp [rep_zero]
  | succ n ih => rw [rep_succ, List.length_append, ih, Nat.succ_mul, Nat.add_comm]
theorem many_even (p : P3) (n : Nat) (t : T3) : many n [p] t = many (n % 2) [p] t :=
  many_round [p] 2 t (turn_turn p t) n
/-! ### words without doubles -/
def red : List P3 → Prop
  | p :: q :: r => p ≠ q ∧ red (q :: r)
  | _ => True
theorem red_tail {p : P3} {r : List P3} (h : red (p :: r)) : red r := by
  cases r with
  | nil => trivial
  | cons q r => exact h.2
theorem red_append : ∀ {u v : List P3}, red (u ++ v) ↔ red u ∧ red v ∧ ∀ p q, u.getLast? = some p → v.head? = some q → p ≠ q
  | [], v => by simp [red]
  | [p], v => by
    cases v with
    | nil => simp [red]
    | cons q r =>
      show (p ≠ q ∧ red (q :: r)) ↔ (red [p] ∧ red (q :: r) ∧ ∀ p' q', [p].getLast? = some p' → (q :: r).head? = some q' → p' ≠ q')
      simp [red]
      exact And.comm
  | p :: q :: r, v => by
    have ih := red_append (u := q :: r) (v := v)
    show (p ≠ q ∧ red ((q :: r) ++ v)) ↔ ((p ≠ q ∧ red (q :: r)) ∧ red v ∧ ∀ p' q', (p :: q :: r).getLast? = some p' → v.head? = some q' → p' ≠ q')
    rw [ih, List.getLast?_cons_cons]
    exact ⟨fun ⟨h1, h2, h3, h4⟩ => ⟨⟨h1, h2⟩, h3, h4⟩, fun ⟨⟨h1, h2⟩, h3, h4⟩ => ⟨h1, h2, h3, h4⟩⟩
theorem red_rev : ∀ {u : List P3}, red u → red u.reverse
  | [], _ => trivial
  | p :: u, h => by
    rw [List.reverse_cons]
    refine red_append.mpr ⟨red_rev (red_tail h), trivial, fun x y hx hy => ?_⟩
    have e : p = y := by simpa using hy
    subst e
    rw [List.getLast?_reverse] at hx
    cases u with
    | nil => simp at hx
    | cons q r =>
      have e : q = x := by simpa using hx
      subst e
      exact fun z => h.1 z.symm
/-- the kept letters, the last one last -/
def keep (kept : List P3) (p : P3) : List P3 := if kept.getLast? = some p then kept.dropLast else kept ++ [p]
theorem keep_red {kept : List P3} {p : P3} (h : red kept) : red (keep kept p) := by
  unfold keep
  split
  · rename_i e
    have e2 : kept = kept.dropLast ++ [p] := drop_last e
    rw [e2] at h
    exact (red_append.mp h).1
  · rename_i e
    refine red_append.mpr ⟨h, trivial, fun x y hx hy z => ?_⟩
    have ey : p = y := by simpa using hy
    subst ey
    subst z
    exact e hx
theorem keep_walk {kept : List P3} {p : P3} (t : T3) : walk t (keep kept p) = turn p (walk t kept) := by
  unfold keep
  split
  · rename_i e
    have e2 : kept = kept.dropLast ++ [p] := drop_last e
    have e3 : walk t kept = turn p (walk t kept.dropLast) := by
      rw [show walk t kept = walk t (kept.dropLast ++ [p]) by rw [← e2], walk_append]
      rfl
    rw [e3, turn_turn]
  · rw [walk_append]
    rfl
def keeps (ps : List P3) : List P3 := ps.foldl keep []
theorem keeps_red (ps : List P3) : red (keeps ps) := by
  have : ∀ (ps k : List P3), red k → red (ps.foldl keep k) := by
    intro ps
    induction ps with
    | nil => intro k h; exact h
    | cons p ps ih => intro k h; exact ih _ (keep_red h)
  exact this ps [] trivial
theorem keeps_walk (ps : List P3) (t : T3) : walk t (keeps ps) = walk t ps := by
  have : ∀ (ps k : List P3), walk t (ps.foldl keep k) = walk (walk t k) ps := by
    intro ps
    induction ps with
    | nil => intro k; rfl
    | cons p ps ih =>
      intro k
      show walk t (ps.foldl keep (keep k p)) = walk (turn p (walk t k)) ps
      rw [ih, keep_walk]
  exact this ps []
theorem keeps_length (ps : List P3) : (keeps ps).length ≤ ps.length := by
  have : ∀ (ps k : List P3), (ps.foldl keep k).length ≤ k.length + ps.length := by
    intro ps
    induction ps with
    | nil => intro k; exact Nat.le_refl _
    | cons p ps ih =>
      intro k
      have h1 := ih (keep k p)
      have h2 : (keep k p).length ≤ k.length + 1 := by
        unfold keep
        split
        · rw [List.length_dropLast]; omega
        · rw [List.length_append]; exact Nat.le_refl _
      show (ps.foldl keep (keep k p)).length ≤ k.length + (ps.length + 1)
      omega
  have h := this ps []
  simpa [keeps] using h
/-! ### beyond a bound, off the foot -/
def ring : T3 → Prop
  | (x, y, z) => (0 < x ∧ 0 < y ∧ 0 < z) ∨ (x < 0 ∧ y < 0 ∧ z < 0)
def Beyond (G : Int) (p : P3) (t : T3) : Prop := G < nat (opp p t) ∧ ring t ∧ 2 ≤ nat (co p t) ∧ 2 ≤ nat (go p t) ∧ nat (co p t) * nat (go p t) < 2 * nat (opp p t)
theorem grow {G c d g : Int} (hG : G < g) (hc : 2 ≤ c) (hd : 2 ≤ d) (h : c * d < 2 * g) : G < d * g - c ∧ d * g < 2 * (d * g - c) ∧ 0 < d * g - c := by
  have h1 : c * 2 ≤ c * d := Int.mul_le_mul_of_nonneg_left hd (by omega)
  have h2 : 2 * g ≤ d * g := Int.mul_le_mul_of_nonneg_right hd (by omega)
  omega
theorem nat_pos {i : Int} (h : 0 < i) : nat i = i := by unfold nat; rw [if_neg (by omega)]
theorem nat_neg' {i : Int} (h : i < 0) : nat i = -i := by unfold nat; rw [if_pos h]
theorem push_pos {u v w : Int} (hu : 0 < u) (hv : 0 < v) : push u v w = w - u * v := by unfold push; rw [if_pos ⟨hu, hv⟩]
theorem push_neg {u v w : Int} (hu : u < 0) (hv : v < 0) : push u v w = w + u * v := by unfold push; rw [if_neg (by omega), if_pos ⟨hu, hv⟩]
/-- the three numbers at a place -/
def tri (p : P3) (u v w : Int) : T3 := match p with
  | .a => (v, w, u)
  | .b => (u, v, w)
  | .c => (w, u, v)
theorem tri_of (p : P3) (t : T3) : t = tri p (co p t) (go p t) (opp p t) := by
  obtain ⟨x, y, z⟩ := t
  cases p <;> rfl
theorem turn_tri (p : P3) (u v w : Int) : turn p (tri p u v w) = tri p (-u) (-v) (push u v w) := by cases p <;> rfl
def nxt : P3 → P3
  | .a => .b
  | .b => .c
  | .c => .a
theorem other {p q : P3} (h : p ≠ q) : q = nxt p ∨ p = nxt q := by
  cases p <;> cases q <;> first | exact absurd rfl h | exact .inl rfl | exact .inr rfl
theorem tri_nxt (p : P3) (u v w : Int) : tri p u v w = tri (nxt p) v w u := by cases p <;> rfl
theorem ring_tri (p : P3) (u v w : Int) : ring (tri p u v w) ↔ (0 < u ∧ 0 < v ∧ 0 < w) ∨ (u < 0 ∧ v < 0 ∧ w < 0) := by
  cases p <;> simp only [tri, ring] <;> omega
theorem beyond_tri (G : Int) (p : P3) (u v w : Int) : Beyond G p (tri p u v w) ↔ G < nat w ∧ ((0 < u ∧ 0 < v ∧ 0 < w) ∨ (u < 0 ∧ v < 0 ∧ w < 0)) ∧ 2 ≤ nat u ∧ 2 ≤ nat v ∧ nat u * nat v < 2 * nat w := by
  unfold Beyond
  rw [ring_tri]
  cases p <;> rfl
theorem beyond_next {G : Int} {p : P3} {u v w : Int} (h : Beyond G p (tri p u v w)) : Beyond G (nxt p) (turn (nxt p) (tri p u v w)) := by
  rw [tri_nxt, turn_tri, beyond_tri]
  obtain ⟨h1, h2, h3, h4, h5⟩ := (beyond_tri G p u v w).mp h
  rcases h2 with ⟨a1, a2, a3⟩ | ⟨a1, a2, a3⟩
  · rw [nat_pos a1, nat_pos a2] at h5
    rw [nat_pos a1] at h3
    rw [nat_pos a2] at h4
    rw [nat_pos a3] at h1 h5
    obtain ⟨g1, g2, g3⟩ := grow h1 h3 h4 h5
    rw [push_pos a2 a3, nat_neg' (show u - v * w < 0 by omega), nat_neg' (show -v < 0 by omega), nat_neg' (show -w < 0 by omega), Int.neg_neg, Int.neg_neg]
    refine ⟨by omega, .inr ⟨by omega, by omega, by omega⟩, h4, ?_, by omega⟩
    have : 2 * 2 ≤ u * v := Int.mul_le_mul h3 h4 (by omega) (by omega)
    omega
  · rw [nat_neg' a1, nat_neg' a2] at h5
    rw [nat_neg' a1] at h3
    rw [nat_neg' a2] at h4
    rw [nat_neg' a3] at h1 h5
    obtain ⟨g1, g2, g3⟩ := grow h1 h3 h4 h5
    rw [Int.neg_mul_neg] at g1 g2 g3
    rw [push_neg a2 a3, nat_pos (show 0 < u + v * w by omega), nat_pos (show 0 < -v by omega), nat_pos (show 0 < -w by omega)]
    refine ⟨by omega, .inl ⟨by omega, by omega, by omega⟩, h4, ?_, ?_⟩
    · have : 2 * 2 ≤ -u * -v := Int.mul_le_mul h3 h4 (by omega) (by omega)
      omega
    · rw [Int.neg_mul_neg]
      omega
theorem beyond_prev {G : Int} {p : P3} {u v w : Int} (h : Beyond G (nxt p) (tri (nxt p) u v w)) : Beyond G p (turn p (tri (nxt p) u v w)) := by
  have e : tri (nxt p) u v w = tri p w u v := by cases p <;> rfl
  rw [e, turn_tri, beyond_tri]
  obtain ⟨h1, h2, h3, h4, h5⟩ := (beyond_tri G (nxt p) u v w).mp h
  rw [Int.mul_comm (nat u)] at h5
  rcases h2 with ⟨a1, a2, a3⟩ | ⟨a1, a2, a3⟩
  · rw [nat_pos a1, nat_pos a2] at h5
    rw [nat_pos a1] at h3
    rw [nat_pos a2] at h4
    rw [nat_pos a3] at h1 h5
    obtain ⟨g1, g2, g3⟩ := grow h1 h4 h3 h5
    rw [Int.mul_comm] at g1 g2 g3
    rw [push_pos a3 a1, nat_neg' (show v - w * u < 0 by omega), nat_neg' (show -u < 0 by omega), nat_neg' (show -w < 0 by omega), Int.neg_neg, Int.neg_neg]
    refine ⟨by omega, .inr ⟨by omega, by omega, by omega⟩, ?_, h3, by omega⟩
    have : 2 * 2 ≤ v * u := Int.mul_le_mul h4 h3 (by omega) (by omega)
    omega
  · rw [nat_neg' a1, nat_neg' a2] at h5
    rw [nat_neg' a1] at h3
    rw [nat_neg' a2] at h4
    rw [nat_neg' a3] at h1 h5
    obtain ⟨g1, g2, g3⟩ := grow h1 h4 h3 h5
    rw [Int.neg_mul_neg, Int.mul_comm] at g1 g2 g3
    rw [push_neg a3 a1, nat_pos (show 0 < v + w * u by omega), nat_pos (show 0 < -u by omega), nat_pos (show 0 < -w by omega)]
    refine ⟨by omega, .inl ⟨by omega, by omega, by omega⟩, ?_, h3, ?_⟩
    · have : 2 * 2 ≤ -v * -u := Int.mul_le_mul h4 h3 (by omega) (by omega)
      omega
    · rw [Int.neg_mul_neg]
      omega
theorem beyond_turn {G : Int} {p q : P3} {t : T3} (h : Beyond G p t) (n : p ≠ q) : Beyond G q (turn q t) := by
  rcases other n with e | e
  · subst e
    rw [tri_of p t] at h ⊢
    exact beyond_next h
  · subst e
    rw [tri_of (nxt q) t] at h ⊢
    exact beyond_prev h
theorem beyond_walk {G : Int} : ∀ {u : List P3} {p : P3} {t : T3}, Beyond G p t → red (p :: u) → ∃ q, Beyond G q (walk t u)
  | [], p, _, h, _ => ⟨p, h⟩
  | q :: u, p, t, h, r => beyond_walk (u := u) (p := q) (t := turn q t) (beyond_turn h r.1) r.2
/-- the greatest size -/
def big : T3 → Int
  | (x, y, z) => if nat x ≤ nat y then (if nat y ≤ nat z then nat z else nat y) else (if nat x ≤ nat z then nat z else nat x)
theorem big_le {t : T3} {G : Int} : big t ≤ G ↔ nat t.1 ≤ G ∧ nat t.2.1 ≤ G ∧ nat t.2.2 ≤ G := by
  obtain ⟨x, y, z⟩ := t
  simp only [big]
  split <;> split <;> omega
theorem beyond_big {G : Int} {p : P3} {t : T3} (h : Beyond G p t) : G < big t := by
  obtain ⟨x, y, z⟩ := t
  have h1 := h.1
  cases p <;> simp only [opp] at h1 <;> simp only [big] <;> split <;> split <;> omega
end At

namespace At
/-! ### even steps: turns at two places in turn, two arrows between them -/
theorem opp_other {p q : P3} (h : p ≠ q) (t : T3) : opp q (turn p t) = -opp q t := by
  obtain ⟨x, y, z⟩ := t
  cases p <;> cases q <;> first | exact absurd rfl h | rfl
theorem push_comm (u v w : Int) : push u v w = push v u w := by
  unfold push
  rw [Int.mul_comm u v]
  by_cases h1 : 0 < u ∧ 0 < v
  · rw [if_pos h1, if_pos ⟨h1.2, h1.1⟩]
  · rw [if_neg h1, if_neg (show ¬ (0 < v ∧ 0 < u) from fun h => h1 ⟨h.2, h.1⟩)]
    by_cases h2 : u < 0 ∧ v < 0
    · rw [if_pos h2, if_pos ⟨h2.2, h2.1⟩]
    · rw [if_neg h2, if_neg (show ¬ (v < 0 ∧ u < 0) from fun h => h2 ⟨h.2, h.1⟩)]
theorem opp_same {p q r : P3} (h1 : p ≠ q) (h2 : q ≠ r) (h3 : p ≠ r) (t : T3) : opp p (turn p t) = push (opp q t) (opp r t) (opp p t) := by
  obtain ⟨x, y, z⟩ := t
  cases p <;> cases q <;> cases r <;> first | exact absurd rfl h1 | exact absurd rfl h2 | exact absurd rfl h3 | rfl | exact push_comm _ _ _
theorem opp_ext {p q r : P3} (h1 : p ≠ q) (h2 : q ≠ r) (h3 : p ≠ r) {t s : T3} (a : opp p t = opp p s) (b : opp q t = opp q s) (c : opp r t = opp r s) : t = s := by
  obtain ⟨x, y, z⟩ := t
  obtain ⟨x', y', z'⟩ := s
  cases p <;> cases q <;> cases r <;> first | exact absurd rfl h1 | exact absurd rfl h2 | exact absurd rfl h3 | (simp only [opp] at a b c; rw [a, b, c])
theorem even_one {p q r : P3} (h1 : p ≠ q) (h2 : q ≠ r) (h3 : p ≠ r) {t : T3} {s A B : Int} (hs : s = 1 ∨ s = -1) (tr : opp r t = 2 * s) (tp : opp p t = s * A) (tq : opp q t = s * B) (hB : 0 < B) (hC : 0 < 2 * B - A) :
    opp r (walk t [p, q]) = 2 * s ∧ opp p (walk t [p, q]) = s * (2 * B - A) ∧ opp q (walk t [p, q]) = s * (3 * B - 2 * A) := by
  have a1 : opp p (turn p t) = -(s * (2 * B - A)) := by
    rw [opp_same h1 h2 h3, tr, tp, tq]
    rcases hs with rfl | rfl
    · rw [push_pos (by omega) (by omega)]; omega
    · rw [push_neg (by omega) (by omega)]; omega
  have a2 : opp q (turn p t) = -(s * B) := by rw [opp_other h1, tq]
  have a3 : opp r (turn p t) = -(2 * s) := by rw [opp_other h3, tr]
  refine ⟨?_, ?_, ?_⟩
  · show opp r (turn q (turn p t)) = _
    rw [opp_other h2, a3, Int.neg_neg]
  · show opp p (turn q (turn p t)) = _
    rw [opp_other (fun z => h1 z.symm), a1, Int.neg_neg]
  · show opp q (turn q (turn p t)) = _
    rw [opp_same (fun z => h1 z.symm) h3 h2, a1, a2, a3]
    rcases hs with rfl | rfl
    · rw [push_neg (by omega) (by omega)]; omega
    · rw [push_pos (by omega) (by omega)]; omega
theorem even_many {p q r : P3} (h1 : p ≠ q) (h2 : q ≠ r) (h3 : p ≠ r) {s : Int} (hs : s = 1 ∨ s = -1) : ∀ (n : Nat) (t : T3) (A B : Int), opp r t = 2 * s → opp p t = s * A → opp q t = s * B →
    (∀ k : Nat, k < n → 0 < B + 2 * (k : Int) * (B - A) ∧ 0 < B + (2 * (k : Int) + 1) * (B - A)) →
    opp r (many n [p, q] t) = 2 * s ∧ opp p (many n [p, q] t) = s * (A + 2 * (n : Int) * (B - A)) ∧ opp q (many n [p, q] t) = s * (B + 2 * (n : Int) * (B - A))
  | 0, t, A, B, tr, tp, tq, _ => by
    refine ⟨tr, ?_, ?_⟩
    · show opp p t = _
      rw [tp]; simp
    · show opp q t = _
      rw [tq]; simp
  | n + 1, t, A, B, tr, tp, tq, h => by
    have h0 := h 0 (Nat.succ_pos n)
    have hB : 0 < B := by have := h0.1; simpa using this
    have hC : 0 < 2 * B - A := by have := h0.2; simp at this; omega
    obtain ⟨e1, e2, e3⟩ := even_one h1 h2 h3 hs tr tp tq hB hC
    have ed : (3 * B - 2 * A) - (2 * B - A) = B - A := by omega
    have ih := even_many h1 h2 h3 hs n (walk t [p, q]) (2 * B - A) (3 * B - 2 * A) e1 e2 e3 (fun k hk => by
      have := h (k + 1) (Nat.succ_lt_succ hk)
      rw [ed]
      have c1 : ((k + 1 : Nat) : Int) = (k : Int) + 1 := rfl
      rw [c1] at this
      have x1 : 2 * ((k : Int) + 1) * (B - A) = 2 * (k : Int) * (B - A) + 2 * (B - A) := by rw [Int.mul_add, Int.add_mul]; rfl
      have x2 : (2 * ((k : Int) + 1) + 1) * (B - A) = (2 * (k : Int) + 1) * (B - A) + 2 * (B - A) := by
        rw [show 2 * ((k : Int) + 1) + 1 = (2 * (k : Int) + 1) + 2 by omega, Int.add_mul]
      rw [x1, x2] at this
      omega)
    rw [ed] at ih
    have c1 : ((n + 1 : Nat) : Int) = (n : Int) + 1 := rfl
    have x1 : 2 * ((n : Int) + 1) * (B - A) = 2 * (n : Int) * (B - A) + 2 * (B - A) := by rw [Int.mul_add, Int.add_mul]; rfl
    refine ⟨ih.1, ?_, ?_⟩
    · show opp p (many n [p, q] (walk t [p, q])) = _
      rw [ih.2.1, c1, x1]
      congr 1
      omega
    · show opp q (many n [p, q] (walk t [p, q])) = _
      rw [ih.2.2, c1, x1]
      congr 1
      omega
/-- so many times [p, q] go evenly from t -/
def EvenOk (t : T3) (ps : List P3) (n : Nat) : Prop := ∃ p q r s A B, ps = [p, q] ∧ p ≠ q ∧ q ≠ r ∧ p ≠ r ∧ (s = 1 ∨ s = -1) ∧ opp r t = 2 * s ∧ opp p t = s * A ∧ opp q t = s * B ∧
  ∀ k : Nat, k < n → 0 < B + 2 * (k : Int) * (B - A) ∧ 0 < B + (2 * (k : Int) + 1) * (B - A)
/-- what behind_even reckons -/
theorem even_end {t : T3} {ps : List P3} {n : Nat} (h : EvenOk t ps n) : ∃ p q r, ps = [p, q] ∧ p ≠ q ∧ q ≠ r ∧ p ≠ r ∧ opp p (many n ps t) = opp p t + 2 * (n : Int) * (opp q t - opp p t) ∧ opp q (many n ps t) = opp q t + 2 * (n : Int) * (opp q t - opp p t) ∧ opp r (many n ps t) = opp r t := by
  obtain ⟨p, q, r, s, A, B, rfl, h1, h2, h3, hs, tr, tp, tq, hk⟩ := h
  obtain ⟨e1, e2, e3⟩ := even_many h1 h2 h3 hs n t A B tr tp tq hk
  refine ⟨p, q, r, rfl, h1, h2, h3, ?_, ?_, by rw [e1, tr]⟩
  · rw [e2, tp, tq]
    rcases hs with rfl | rfl
    · simp only [Int.one_mul]
    · simp only [Int.neg_mul, Int.one_mul]
      rw [show -B - -A = -(B - A) by omega, Int.mul_neg]
      omega
  · rw [e3, tp, tq]
    rcases hs with rfl | rfl
    · simp only [Int.one_mul]
    · simp only [Int.neg_mul, Int.one_mul]
      rw [show -B - -A = -(B - A) by omega, Int.mul_neg]
      omega
/-- what even_repeats reckons -/
theorem even_ok {p q r : P3} (h1 : p ≠ q) (h2 : q ≠ r) (h3 : p ≠ r) {t : T3} (hr : ring t) (htie : nat (opp r t) = 2) {j : Int} (hj : 0 < j)
    (hc : 0 ≤ nat (opp q t) - nat (opp p t) ∨ j ≤ (nat (opp q t) - 1) / -(nat (opp q t) - nat (opp p t)) / 2) : EvenOk t [p, q] j.toNat := by
  obtain ⟨s, hs, e⟩ : ∃ s : Int, (s = 1 ∨ s = -1) ∧ ∀ x : P3, opp x t = s * nat (opp x t) ∧ 0 < nat (opp x t) := by
    obtain ⟨x, y, z⟩ := t
    rcases hr with ⟨a1, a2, a3⟩ | ⟨a1, a2, a3⟩
    · refine ⟨1, .inl rfl, fun w => ?_⟩
      cases w <;> simp only [opp] <;> rw [nat_pos (by assumption)] <;> omega
    · refine ⟨-1, .inr rfl, fun w => ?_⟩
      cases w <;> simp only [opp] <;> rw [nat_neg' (by assumption)] <;> omega
  refine ⟨p, q, r, s, nat (opp p t), nat (opp q t), rfl, h1, h2, h3, hs, ?_, (e p).1, (e q).1, fun k hk => ?_⟩
  · rw [(e r).1, htie, Int.mul_comm]
  · have hB := (e q).2
    generalize nat (opp q t) = B at hc hB ⊢
    generalize nat (opp p t) = A at hc ⊢
    have hk' : (k : Int) < j := by omega
    rcases hc with hd | hd
    · have g1 : 0 ≤ 2 * (k : Int) * (B - A) := Int.mul_nonneg (by omega) hd
      have g2 : 0 ≤ (2 * (k : Int) + 1) * (B - A) := Int.mul_nonneg (by omega) hd
      omega
    · by_cases hd0 : 0 ≤ B - A
      · have g1 : 0 ≤ 2 * (k : Int) * (B - A) := Int.mul_nonneg (by omega) hd0
        have g2 : 0 ≤ (2 * (k : Int) + 1) * (B - A) := Int.mul_nonneg (by omega) hd0
        omega
      · have f1 : j * 2 ≤ (B - 1) / -(B - A) := (Int.le_ediv_iff_mul_le (by omega)).mp hd
        have f2 : j * 2 * -(B - A) ≤ B - 1 := (Int.le_ediv_iff_mul_le (by omega)).mp f1
        have f3 : (2 * (k : Int) + 1) * -(B - A) ≤ j * 2 * -(B - A) := Int.mul_le_mul_of_nonneg_right (by omega) (by omega)
        have f4 : 2 * (k : Int) * -(B - A) ≤ j * 2 * -(B - A) := Int.mul_le_mul_of_nonneg_right (by omega) (by omega)
        rw [Int.mul_neg] at f2 f3 f4
        rw [Int.mul_neg] at f3 f4
        omega
/-! ### a repeated word that is cyclically without doubles -/
def cyc (c : List P3) : Prop := red c ∧ ∀ p q, c.getLast? = some p → c.head? = some q → p ≠ q
theorem rep_head (c : List P3) (n : Nat) (h : 0 < n) : (rep n c).head? = c.head? := by
  cases n with
  | zero => omega
  | succ n =>
    rw [rep_succ]
    cases c with
    | nil =>
      induction n with
      | zero => rfl
      | succ n ih => rw [rep_succ, List.nil_append]; exact ih (Nat.succ_pos n)
    | cons x r => rfl
theorem rep_succ' (n : Nat) (ps : List P3) : rep (n + 1) ps = rep n ps ++ ps := by
  induction n with
  | zero => rw [rep_succ, rep_zero, List.append_nil, List.nil_append]
  | succ n ih => rw [rep_succ, ih, ← List.append_assoc, ← rep_succ, ih]
theorem last_app {u v : List P3} (h : v ≠ []) : (u ++ v).getLast? = v.getLast? := by
  rw [List.getLast?_append]
  cases e : v.getLast? with
  | none => exact absurd (List.getLast?_eq_none_iff.mp e) h
  | some x => rfl
theorem rep_last (c : List P3) (n : Nat) (h : 0 < n) (hc : c ≠ []) : (rep n c).getLast? = c.getLast? := by
  cases n with
  | zero => omega
  | succ n => rw [rep_succ', last_app hc]
theorem cyc_rep {c : List P3} (h : cyc c) : ∀ n : Nat, red (rep n c)
  | 0 => trivial
  | n + 1 => by
    rw [rep_succ]
    refine red_append.mpr ⟨h.1, cyc_rep h n, fun p q hp hq => ?_⟩
    cases n with
    | zero => rw [rep_zero] at hq; simp at hq
    | succ n => rw [rep_head c (n + 1) (Nat.succ_pos n)] at hq; exact h.2 p q hp hq
theorem cyc_root {r : List P3} {k : Nat} (hk : 0 < k) (hr : r ≠ []) (h : cyc (rep k r)) : cyc r := by
  refine ⟨?_, fun p q hp hq => ?_⟩
  · have h1 := h.1
    cases k with
    | zero => omega
    | succ k => rw [rep_succ] at h1; exact (red_append.mp h1).1
  · exact h.2 p q (by rw [rep_last r k hk hr]; exact hp) (by rw [rep_head r k hk]; exact hq)
/-- the whole way: there, so often the core, and back -/
theorem whole_red {w c : List P3} (h : red (w ++ c ++ w.reverse)) (hc : cyc c) (hn : c ≠ []) (n : Nat) (h0 : 0 < n) : red (w ++ rep n c ++ w.reverse) := by
  obtain ⟨h1, h2, h3⟩ := red_append.mp h
  obtain ⟨h4, h5, h6⟩ := red_append.mp h1
  have lc : (w ++ rep n c).getLast? = (w ++ c).getLast? := by
    have e1 : rep n c ≠ [] := fun z => by
      have := rep_last c n h0 hn
      rw [z] at this
      have hne := (List.getLast?_eq_none_iff (xs := c)).mp this.symm
      exact hn hne
    rw [last_app e1, last_app hn, rep_last c n h0 hn]
  refine red_append.mpr ⟨red_append.mpr ⟨h4, cyc_rep hc n, fun p q hp hq => ?_⟩, h2, fun p q hp hq => ?_⟩
  · rw [rep_head c n h0] at hq
    exact h6 p q hp hq
  · rw [lc] at hp
    exact h3 p q hp hq
/-- beyond somewhere on a way without doubles: beyond at its end -/
theorem beyond_end {G : Int} {t : T3} {pre post : List P3} {p : P3} (h : Beyond G p (walk t (pre ++ [p]))) (r : red (pre ++ p :: post)) : G < big (walk t (pre ++ p :: post)) := by
  have e : pre ++ p :: post = (pre ++ [p]) ++ post := by rw [List.append_assoc]; rfl
  obtain ⟨q, hq⟩ := beyond_walk h (red_append.mp r).2.1
  rw [e, walk_append]
  exact beyond_big hq
/-- what behind_way tells -/
def WayEnd (G : Int) (t : T3) (ps : List P3) : Option T3 → Prop
  | some s => s = walk t ps
  | none => ∃ pre p post, ps = pre ++ p :: post ∧ Beyond G p (walk t (pre ++ [p]))
end At

namespace At
/-! ### the mark stays; sizes stay within a bound -/
theorem nat_nonneg (i : Int) : 0 ≤ nat i := by unfold nat; split <;> omega
theorem nat_nat (i : Int) : nat (nat i) = nat i := by
  have := nat_nonneg i
  rw [show nat (nat i) = if nat i < 0 then -nat i else nat i from rfl, if_neg (by omega)]
theorem nat_neg (i : Int) : nat (-i) = nat i := by unfold nat; split <;> split <;> omega
instance (t : T3) : Decidable (ring t) := by
  obtain ⟨x, y, z⟩ := t
  unfold ring
  exact inferInstance
def mk (t : T3) : Int := if ring t then t.1 * t.1 + t.2.1 * t.2.1 + t.2.2 * t.2.2 - nat t.1 * nat t.2.1 * nat t.2.2 else t.1 * t.1 + t.2.1 * t.2.1 + t.2.2 * t.2.2 + nat t.1 * nat t.2.1 * nat t.2.2
theorem mk_tri (p : P3) (u v w : Int) : mk (tri p u v w) = if (0 < u ∧ 0 < v ∧ 0 < w) ∨ (u < 0 ∧ v < 0 ∧ w < 0) then u * u + v * v + w * w - nat u * nat v * nat w else u * u + v * v + w * w + nat u * nat v * nat w := by
  have e := ring_tri p u v w
  unfold mk
  by_cases h : (0 < u ∧ 0 < v ∧ 0 < w) ∨ (u < 0 ∧ v < 0 ∧ w < 0)
  · rw [if_pos (e.mpr h), if_pos h]
    cases p
    · show v * v + w * w + u * u - nat v * nat w * nat u = _
      rw [show nat v * nat w * nat u = nat u * nat v * nat w by rw [Int.mul_comm (nat v * nat w), ← Int.mul_assoc]]
      omega
    · rfl
    · show w * w + u * u + v * v - nat w * nat u * nat v = _
      rw [show nat w * nat u * nat v = nat u * nat v * nat w by rw [Int.mul_assoc, Int.mul_comm (nat w)]]
      omega
  · rw [if_neg (fun z => h (e.mp z)), if_neg h]
    cases p
    · show v * v + w * w + u * u + nat v * nat w * nat u = _
      rw [show nat v * nat w * nat u = nat u * nat v * nat w by rw [Int.mul_comm (nat v * nat w), ← Int.mul_assoc]]
      omega
    · rfl
    · show w * w + u * u + v * v + nat w * nat u * nat v = _
      rw [show nat w * nat u * nat v = nat u * nat v * nat w by rw [Int.mul_assoc, Int.mul_comm (nat w)]]
      omega
theorem mk_pos (p : P3) {u v : Int} (w : Int) (hu : 0 < u) (hv : 0 < v) : mk (tri p u v w) = u * u + v * v + w * w - u * v * w := by
  rw [mk_tri, nat_pos hu, nat_pos hv]
  by_cases h : 0 < w
  · rw [if_pos (.inl ⟨hu, hv, h⟩), nat_pos h]
  · rw [if_neg (by omega)]
    have e : nat w = -w := by unfold nat; split <;> omega
    rw [e, Int.mul_neg]
    omega
theorem mk_neg (p : P3) {u v : Int} (w : Int) (hu : u < 0) (hv : v < 0) : mk (tri p u v w) = u * u + v * v + w * w + u * v * w := by
  rw [mk_tri, nat_neg' hu, nat_neg' hv]
  rw [Int.neg_mul_neg]
  by_cases h : w < 0
  · rw [if_pos (.inr ⟨hu, hv, h⟩), nat_neg' h, Int.mul_neg]
    omega
  · rw [if_neg (by omega)]
    have e : nat w = w := by unfold nat; split <;> omega
    rw [e]
theorem mk_other (p : P3) {u v : Int} (w : Int) (h1 : ¬ (0 < u ∧ 0 < v)) (h2 : ¬ (u < 0 ∧ v < 0)) : mk (tri p u v w) = u * u + v * v + w * w + nat u * nat v * nat w := by
  rw [mk_tri, if_neg (by omega)]
theorem mk_turn (p : P3) (t : T3) : mk (turn p t) = mk t := by
  rw [tri_of p t]
  generalize co p t = u
  generalize go p t = v
  generalize opp p t = w
  rw [turn_tri]
  by_cases h1 : 0 < u ∧ 0 < v
  · rw [push_pos h1.1 h1.2, mk_pos p w h1.1 h1.2, mk_neg p _ (show -u < 0 by omega) (show -v < 0 by omega), Int.neg_mul_neg, Int.neg_mul_neg, Int.neg_mul_neg]
    have e : (w - u * v) * (w - u * v) + u * v * (w - u * v) = w * w - u * v * w := by
      have : (w - u * v) * (w - u * v) + u * v * (w - u * v) = ((w - u * v) + u * v) * (w - u * v) := by rw [Int.add_mul]
      rw [this, Int.sub_add_cancel, Int.mul_sub, Int.mul_comm w (u * v)]
    omega
  · by_cases h2 : u < 0 ∧ v < 0
    · rw [push_neg h2.1 h2.2, mk_neg p w h2.1 h2.2, mk_pos p _ (show 0 < -u by omega) (show 0 < -v by omega), Int.neg_mul_neg, Int.neg_mul_neg, Int.neg_mul_neg]
      have e : (w + u * v) * (w + u * v) - u * v * (w + u * v) = w * w + u * v * w := by
        have : (w + u * v) * (w + u * v) - u * v * (w + u * v) = ((w + u * v) - u * v) * (w + u * v) := by rw [Int.sub_mul]
        rw [this, Int.add_sub_cancel, Int.mul_add, Int.mul_comm w (u * v)]
      omega
    · have e : push u v w = w := by unfold push; rw [if_neg h1, if_neg h2]
      rw [e, mk_other p w h1 h2, mk_other p w (by omega) (by omega), Int.neg_mul_neg, Int.neg_mul_neg, nat_neg, nat_neg]
theorem mk_walk : ∀ (ps : List P3) (t : T3), mk (walk t ps) = mk t
  | [], _ => rfl
  | p :: ps, t => by rw [walk_cons, mk_walk ps, mk_turn]
theorem sq_le {a b : Int} (ha : 0 ≤ a) (hb : 0 ≤ b) (h : a * a ≤ b * b) : a ≤ b := by
  by_cases z : a ≤ b
  · exact z
  · have h1 : b + 1 ≤ a := by omega
    have h2 : (b + 1) * (b + 1) ≤ a * a := Int.mul_le_mul h1 h1 (by omega) ha
    have h3 : (b + 1) * (b + 1) = b * b + 2 * b + 1 := by rw [Int.add_mul, Int.mul_add]; omega
    omega
theorem nat_sq (i : Int) : nat i * nat i = i * i := by unfold nat; split <;> simp [Int.neg_mul_neg]
theorem sq_nonneg (i : Int) : 0 ≤ i * i := by rw [← nat_sq]; exact Int.mul_nonneg (nat_nonneg i) (nat_nonneg i)
/-- in a ring with a size 1, three quarters of the square are at most the mark -/
theorem one_ring {v w : Int} : 3 * (w * w) ≤ 4 * (1 * 1 + v * v + w * w - 1 * v * w) := by
  have h := sq_nonneg (2 * v - w)
  have e : (2 * v - w) * (2 * v - w) = 4 * (v * v) - 4 * (v * w) + w * w := by
    rw [Int.sub_mul, Int.mul_sub, Int.mul_sub]
    have e1 : 2 * v * (2 * v) = 4 * (v * v) := by grind
    have e2 : 2 * v * w = 2 * (v * w) := Int.mul_assoc ..
    have e3 : w * (2 * v) = 2 * (v * w) := by rw [Int.mul_comm, e2]
    omega
  rw [Int.one_mul, Int.one_mul]
  omega
theorem big_tri {p : P3} {u v w B : Int} : big (tri p u v w) ≤ B ↔ nat u ≤ B ∧ nat v ≤ B ∧ nat w ≤ B := by
  cases p <;> rw [big_le] <;> simp only [tri] <;> omega
theorem big_at {p : P3} {t : T3} {B : Int} (h : big t ≤ B) : nat (co p t) ≤ B ∧ nat (go p t) ≤ B ∧ nat (opp p t) ≤ B := big_tri.mp (by rw [← tri_of p t]; exact h)
theorem nat_mul (a b : Int) : nat (a * b) = nat a * nat b := by
  have h1 : ∀ x : Int, nat x = (x.natAbs : Int) := fun x => by unfold nat; split <;> omega
  rw [h1, h1, h1, Int.natAbs_mul]
  exact Int.natCast_mul ..
theorem nat_add_le (a b : Int) : nat (a + b) ≤ nat a + nat b := by unfold nat; split <;> split <;> split <;> omega
theorem push_le (u v w : Int) : nat (push u v w) ≤ nat w + nat u * nat v := by
  unfold push
  have h0 : 0 ≤ nat u * nat v := Int.mul_nonneg (nat_nonneg u) (nat_nonneg v)
  split
  · have := nat_add_le w (-(u * v))
    rw [nat_neg, nat_mul] at this
    rw [Int.sub_eq_add_neg]
    exact this
  · split
    · have := nat_add_le w (u * v)
      rw [nat_mul] at this
      exact this
    · omega
theorem turn_big {p : P3} {t : T3} {B : Int} (h : big t ≤ B) : big (turn p t) ≤ B * B + B := by
  obtain ⟨b1, b2, b3⟩ := big_at (p := p) h
  have hB : 0 ≤ B := Int.le_trans (nat_nonneg _) b1
  rw [tri_of p t, turn_tri, big_tri, nat_neg, nat_neg]
  have h1 := push_le (co p t) (go p t) (opp p t)
  have h2 : nat (co p t) * nat (go p t) ≤ B * B := Int.mul_le_mul b1 b2 (nat_nonneg _) hB
  have h3 : 0 ≤ B * B := Int.mul_nonneg hB hB
  refine ⟨by omega, by omega, by omega⟩
/-- THE BOUND: a turn that does not lead beyond keeps the sizes within B -/
theorem bound_turn {G B : Int} {p : P3} {t : T3} (hG : G ≤ B) (hB : 0 ≤ B) (hm : 4 * mk t ≤ 3 * (B * B)) (hb : big t ≤ B) (hn : ¬ Beyond G p (turn p t)) : big (turn p t) ≤ B := by
  rw [← mk_turn p t] at hm
  rw [tri_of p t] at hm hb hn ⊢
  generalize co p t = u at hm hb hn ⊢
  generalize go p t = v at hm hb hn ⊢
  generalize opp p t = w at hm hb hn ⊢
  obtain ⟨b1, b2, b3⟩ := big_tri.mp hb
  rw [turn_tri] at hm hn ⊢
  rw [big_tri, nat_neg, nat_neg]
  refine ⟨b1, b2, ?_⟩
  generalize hw : push u v w = w' at hm hn ⊢
  rw [beyond_tri] at hn
  by_cases hr : (0 < -u ∧ 0 < -v ∧ 0 < w') ∨ (-u < 0 ∧ -v < 0 ∧ w' < 0)
  · -- a ring
    by_cases c1 : G < nat w'
    · by_cases c2 : 2 ≤ nat (-u) ∧ 2 ≤ nat (-v)
      · have c3 : 2 * nat w' ≤ nat (-u) * nat (-v) := by
          by_cases z : nat (-u) * nat (-v) < 2 * nat w'
          · exact absurd ⟨c1, hr, c2.1, c2.2, z⟩ hn
          · omega
        rw [nat_neg, nat_neg] at c3
        rcases hr with ⟨r1, r2, r3⟩ | ⟨r1, r2, r3⟩
        · have e := push_neg (w := w) (show u < 0 by omega) (show v < 0 by omega)
          rw [hw] at e
          rw [nat_neg' (show u < 0 by omega), nat_neg' (show v < 0 by omega), Int.neg_mul_neg] at c3
          rw [nat_pos r3] at c3 ⊢
          have : nat w = -w := nat_neg' (by omega)
          omega
        · have e := push_pos (w := w) (show 0 < u by omega) (show 0 < v by omega)
          rw [hw] at e
          rw [nat_pos (show 0 < u by omega), nat_pos (show 0 < v by omega)] at c3
          rw [nat_neg' r3] at c3 ⊢
          have : nat w = w := nat_pos (by omega)
          omega
      · -- a size 1
        have key : ∀ x y : Int, nat x = 1 → (0 < -u ∧ 0 < -v ∧ 0 < w') ∨ (-u < 0 ∧ -v < 0 ∧ w' < 0) → (x = u ∧ y = v ∨ x = v ∧ y = u) → nat w' ≤ B := by
          intro x y hx _ hxy
          have hmk : mk (tri p (-u) (-v) w') = 1 * 1 + nat y * nat y + nat w' * nat w' - 1 * nat y * nat w' := by
            rw [mk_tri, if_pos hr, nat_neg, nat_neg, ← nat_sq (-u), ← nat_sq (-v), ← nat_sq w', nat_neg, nat_neg]
            rcases hxy with ⟨rfl, rfl⟩ | ⟨rfl, rfl⟩
            · rw [hx]
            · rw [hx, Int.mul_comm (nat y) 1]
              omega
          rw [hmk] at hm
          have h3 := one_ring (v := nat y) (w := nat w')
          exact sq_le (nat_nonneg _) hB (by omega)
        have u1 : 1 ≤ nat u := by rw [← nat_neg]; unfold nat; split <;> omega
        have v1 : 1 ≤ nat v := by rw [← nat_neg]; unfold nat; split <;> omega
        rw [nat_neg, nat_neg] at c2
        by_cases z : nat u = 1
        · exact key u v z hr (.inl ⟨rfl, rfl⟩)
        · exact key v u (by omega) hr (.inr ⟨rfl, rfl⟩)
    · omega
  · -- free
    rw [mk_tri, if_neg hr, Int.neg_mul_neg, Int.neg_mul_neg] at hm
    have h1 := sq_nonneg u
    have h2 := sq_nonneg v
    have h3 : 0 ≤ nat (-u) * nat (-v) * nat w' := Int.mul_nonneg (Int.mul_nonneg (nat_nonneg _) (nat_nonneg _)) (nat_nonneg _)
    refine sq_le (nat_nonneg _) hB ?_
    rw [nat_sq]
    have h4 : 0 ≤ B * B := Int.mul_nonneg hB hB
    omega
end At

namespace At
theorem big_opp {p q r : P3} (h1 : p ≠ q) (h2 : q ≠ r) (h3 : p ≠ r) {t : T3} {B : Int} : big t ≤ B ↔ nat (opp p t) ≤ B ∧ nat (opp q t) ≤ B ∧ nat (opp r t) ≤ B := by
  rw [big_le]
  obtain ⟨x, y, z⟩ := t
  cases p <;> cases q <;> cases r <;> first | exact absurd rfl h1 | exact absurd rfl h2 | exact absurd rfl h3 | (simp only [opp]; done) | (simp only [opp]; constructor <;> (rintro ⟨a, b, c⟩; exact ⟨by assumption, by assumption, by assumption⟩))
theorem ring_opp {t : T3} (h : ring t) : (∀ p, 0 < opp p t) ∨ (∀ p, opp p t < 0) := by
  obtain ⟨x, y, z⟩ := t
  rcases h with ⟨a, b, c⟩ | ⟨a, b, c⟩
  · exact .inl fun p => by cases p <;> assumption
  · exact .inr fun p => by cases p <;> assumption
theorem even_big {t : T3} {ps : List P3} {n : Nat} {B : Int} (h : EvenOk t ps n) (hb : big t ≤ B) : big (many n ps t) ≤ B + 2 * (n : Int) * (2 * B) := by
  obtain ⟨p, q, r, rfl, h1, h2, h3, e1, e2, e3⟩ := even_end h
  obtain ⟨b1, b2, b3⟩ := (big_opp h1 h2 h3).mp hb
  have hB : 0 ≤ B := Int.le_trans (nat_nonneg _) b1
  have e6 := nat_add_le (opp q t) (-opp p t)
  rw [nat_neg, ← Int.sub_eq_add_neg] at e6
  have hn : nat (2 * (n : Int)) = 2 * (n : Int) := by unfold nat; rw [if_neg (by omega)]
  have hc : nat (2 * (n : Int) * (opp q t - opp p t)) ≤ 2 * (n : Int) * (2 * B) := by
    rw [nat_mul, hn]
    exact Int.mul_le_mul_of_nonneg_left (by omega) (by omega)
  have h0 : 0 ≤ 2 * (n : Int) * (2 * B) := Int.mul_nonneg (by omega) (by omega)
  refine (big_opp h1 h2 h3).mpr ⟨?_, ?_, ?_⟩
  · rw [e1]
    have := nat_add_le (opp p t) (2 * (n : Int) * (opp q t - opp p t))
    omega
  · rw [e2]
    have := nat_add_le (opp q t) (2 * (n : Int) * (opp q t - opp p t))
    omega
  · rw [e3]
    omega
theorem even_small {p q : P3} {t : T3} {n : Nat} {B : Int} (hr : ring t) (h : EvenOk t [p, q] n) (hn : 0 < n) (hd : nat (opp q t) - nat (opp p t) < 0) (hb : big t ≤ B) : big (many n [p, q] t) ≤ B := by
  obtain ⟨p', q', r, s, a, b, e, h1, h2, h3, hs, tr, tp, tq, hk⟩ := h
  simp only [List.cons.injEq, and_true] at e
  obtain ⟨rfl, rfl⟩ := e
  obtain ⟨e1, e2, e3⟩ := even_many h1 h2 h3 hs n t a b tr tp tq hk
  obtain ⟨b1, b2, b3⟩ := (big_opp h1 h2 h3).mp hb
  have pos : 0 < a ∧ nat (opp p t) = a ∧ nat (opp q t) = b := by
    have hb0 := (hk 0 hn).1
    rw [show (2 * ((0 : Nat) : Int)) = 0 by rfl, Int.zero_mul, Int.add_zero] at hb0
    rcases hs with rfl | rfl
    · simp only [Int.one_mul] at tp tq
      rcases ring_opp hr with z | z
      · have z1 := z p
        refine ⟨by omega, ?_, ?_⟩
        · rw [tp]; unfold nat; rw [if_neg (by omega)]
        · rw [tq]; unfold nat; rw [if_neg (by omega)]
      · have z1 := z r
        omega
    · simp only [Int.neg_mul, Int.one_mul] at tp tq
      rcases ring_opp hr with z | z
      · have z1 := z r
        omega
      · have z1 := z p
        refine ⟨by omega, ?_, ?_⟩
        · rw [tp]; unfold nat; rw [if_pos (by omega)]; omega
        · rw [tq]; unfold nat; rw [if_pos (by omega)]; omega
  obtain ⟨ha, ep, eq⟩ := pos
  have hbn := nat_nonneg (opp q t)
  rw [eq] at hbn
  rw [ep] at b1 hd
  rw [eq] at b2 hd
  have hl := (hk (n - 1) (by omega)).2
  have e5 : 2 * ((n - 1 : Nat) : Int) + 1 = 2 * (n : Int) - 1 := by omega
  rw [e5, Int.sub_mul, Int.one_mul] at hl
  have hneg : 2 * (n : Int) * (b - a) ≤ 0 := Int.mul_nonpos_of_nonneg_of_nonpos (by omega) (by omega)
  generalize 2 * (n : Int) * (b - a) = c at hl hneg e2 e3
  have fin : ∀ x : Int, -B ≤ x → x ≤ B → nat (s * x) ≤ B := fun x l u => by
    rcases hs with rfl | rfl
    · rw [Int.one_mul]; unfold nat; split <;> omega
    · rw [Int.neg_mul, Int.one_mul]; unfold nat; split <;> omega
  refine (big_opp h1 h2 h3).mpr ⟨?_, ?_, ?_⟩
  · rw [e2]; exact fin _ (by omega) (by omega)
  · rw [e3]; exact fin _ (by omega) (by omega)
  · rw [e1, ← tr]; exact b3
/-- whole rounds change nothing -/
theorem fold_round {t : T3} {ps : List P3} {m j : Int} (h0 : 0 ≤ j) (h1 : j < m) (h : many (m - j).toNat ps t = t) : 0 ≤ j.fmod (m - j) ∧ j.fmod (m - j) ≤ j ∧ many (m - j.fmod (m - j)).toNat ps t = t := by
  obtain ⟨n, rfl⟩ : ∃ n : Nat, j = (n : Int) := ⟨j.toNat, by omega⟩
  obtain ⟨k, hk⟩ : ∃ k : Nat, m - (n : Int) = (k : Int) := ⟨(m - n).toNat, by omega⟩
  (rw [Int.fmod_eq_emod_of_nonneg _ (by omega)])
  rw [hk] at h ⊢
  rw [Int.toNat_natCast] at h
  have e1 : (n : Int) % (k : Int) = ((n % k : Nat) : Int) := by rw [Int.natCast_emod]
  rw [e1]
  have hle : n % k ≤ n := Nat.mod_le _ _
  (refine ⟨by omega, by omega, ?_⟩)
  have e2 : (m - ((n % k : Nat) : Int)).toNat = k + k * (n / k) := by
    have := Nat.div_add_mod n k
    omega
  rw [e2, many_round ps k t h]
  have e3 : (k + k * (n / k)) % k = 0 := by
    rw [Nat.add_mul_mod_self_left, Nat.mod_self]
  rw [e3]
  rfl
theorem rep_add (n m : Nat) (r : List P3) : rep (n + m) r = rep n r ++ rep m r := by
  induction n with
  | zero => rw [Nat.zero_add, rep_zero, List.nil_append]
  | succ n ih => rw [show n + 1 + m = (n + m) + 1 by omega, rep_succ, rep_succ, ih, List.append_assoc]
theorem rep_rep (n k : Nat) (r : List P3) : rep n (rep k r) = rep (n * k) r := by
  induction n with
  | zero => rw [Nat.zero_mul, rep_zero, rep_zero]
  | succ n ih => rw [rep_succ, ih, Nat.succ_mul, Nat.add_comm, rep_add]
theorem many_nil (n : Nat) (t : T3) : many n [] t = t := by
  induction n with
  | zero => rfl
  | succ n ih => exact ih
theorem mk_many (n : Nat) (ps : List P3) (t : T3) : mk (many n ps t) = mk t := by rw [← walk_rep, mk_walk]
/-- the target of so many times a core, there and back -/
theorem walk_whole (w r : List P3) (n : Nat) (t : T3) : walk t (w ++ rep n r ++ w.reverse) = walk (many n r (walk t w)) w.reverse := by rw [walk_append, walk_append, walk_rep]
theorem far_way {G : Int} {t : T3} {w v : List P3} (h : red (w ++ v)) (hb : ∃ pre p post, w = pre ++ p :: post ∧ Beyond G p (walk t (pre ++ [p]))) : G < big (walk t (w ++ v)) := by
  obtain ⟨pre, p, post, rfl, b⟩ := hb
  have e : pre ++ p :: post ++ v = pre ++ p :: (post ++ v) := by rw [List.append_assoc]; rfl
  rw [e] at h ⊢
  exact beyond_end b h
theorem far_core {G : Int} {t : T3} {w r : List P3} {m n : Nat} (h : red (w ++ rep m r ++ w.reverse)) (hn : n < m) (hb : ∃ pre p post, r = pre ++ p :: post ∧ Beyond G p (walk (many n r (walk t w)) (pre ++ [p]))) : G < big (walk t (w ++ rep m r ++ w.reverse)) := by
  obtain ⟨pre, p, post, e, b⟩ := hb
  have e1 : rep m r = rep n r ++ (pre ++ p :: post ++ rep (m - n - 1) r) := by
    rw [← e, ← rep_succ, ← rep_add]
    congr 1
    omega
  have e2 : w ++ rep m r ++ w.reverse = (w ++ rep n r ++ pre) ++ p :: (post ++ (rep (m - n - 1) r ++ w.reverse)) := by
    rw [e1]
    (simp only [List.append_assoc, List.cons_append])
  rw [e2] at h ⊢
  refine beyond_end ?_ h
  have e3 : walk t (w ++ rep n r ++ pre ++ [p]) = walk (many n r (walk t w)) (pre ++ [p]) := by
    rw [List.append_assoc (w ++ rep n r), walk_append, walk_append t w, walk_rep]
  rw [e3]
  exact b
theorem far_back {G : Int} {t : T3} {u v : List P3} (h : red (u ++ v)) (hb : ∃ pre p post, v = pre ++ p :: post ∧ Beyond G p (walk (walk t u) (pre ++ [p]))) : G < big (walk t (u ++ v)) := by
  obtain ⟨pre, p, post, rfl, b⟩ := hb
  have e : u ++ (pre ++ p :: post) = (u ++ pre) ++ p :: post := by rw [List.append_assoc]
  rw [e] at h ⊢
  refine beyond_end ?_ h
  rw [List.append_assoc, walk_append]
  exact b
theorem nat_abs_le {i B : Int} (h : nat i ≤ B) : i * i ≤ B * B := by
  rw [← nat_sq]
  exact Int.mul_le_mul h h (nat_nonneg _) (Int.le_trans (nat_nonneg _) h)
theorem mk_le {t : T3} {G : Int} (h : big t ≤ G) : mk t ≤ 3 * (G * G) + G * G * G := by
  obtain ⟨h1, h2, h3⟩ := big_le.mp h
  have hG : 0 ≤ G := Int.le_trans (nat_nonneg _) h1
  have s1 := nat_abs_le h1
  have s2 := nat_abs_le h2
  have s3 := nat_abs_le h3
  have p1 : nat t.1 * nat t.2.1 ≤ G * G := Int.mul_le_mul h1 h2 (nat_nonneg _) hG
  have p2 : nat t.1 * nat t.2.1 * nat t.2.2 ≤ G * G * G := Int.mul_le_mul p1 h3 (nat_nonneg _) (Int.mul_nonneg hG hG)
  have p0 : 0 ≤ nat t.1 * nat t.2.1 * nat t.2.2 := Int.mul_nonneg (Int.mul_nonneg (nat_nonneg _) (nat_nonneg _)) (nat_nonneg _)
  have p3 : 0 ≤ G * G * G := Int.mul_nonneg (Int.mul_nonneg hG hG) hG
  unfold mk
  split <;> omega
/-- the core and its root: what is asked once a word has been parted -/
theorem root_red {w r : List P3} {m : Nat} (h : red (w ++ rep m r ++ w.reverse)) (hm : 0 < m) : red r := by
  cases m with
  | zero => omega
  | succ m =>
    have h1 := (red_append.mp (red_append.mp h).1).2.1
    rw [rep_succ] at h1
    exact (red_append.mp h1).1
/-- so many times a word that has been parted -/
theorem parted {ps w c : List P3} (h : keeps ps = w ++ c ++ w.reverse) (n : Nat) (t : T3) : many n ps t = walk (many n c (walk t w)) w.reverse := by
  rw [many_congr (qs := w ++ c ++ w.reverse) (fun s => by rw [← h, keeps_walk]), many_around]
theorem parted_red {ps w c : List P3} (h : keeps ps = w ++ c ++ w.reverse) (hc : c.length ≤ 1 ∨ c.head? ≠ c.getLast?) (hn : c ≠ []) {n : Nat} (h0 : 0 < n) (h1 : c.length = 1 → n = 1) : red (w ++ rep n c ++ w.reverse) := by
  have hr : red (w ++ c ++ w.reverse) := by rw [← h]; exact keeps_red ps
  by_cases hl : c.length = 1
  · rw [h1 hl, rep_succ, rep_zero, List.append_nil]
    exact hr
  · refine whole_red hr ⟨(red_append.mp (red_append.mp hr).1).2.1, fun p q hp hq e => ?_⟩ hn n h0
    rcases hc with hc | hc
    · have : 0 < c.length := List.length_pos_iff.mpr hn
      omega
    · exact hc (by rw [hp, hq, e])
end At

namespace At
/-- the turn at p leads down from t: a ring with sizes of 2 and more, the tie opposite p more than half the product of the others -/
def Down (p : P3) (t : T3) : Prop := ring t ∧ 2 ≤ nat (co p t) ∧ 2 ≤ nat (go p t) ∧ nat (co p t) * nat (go p t) < 2 * nat (opp p t)
theorem beyond_down {G : Int} {p : P3} {t : T3} : Beyond G p t ↔ G < nat (opp p t) ∧ Down p t := Iff.rfl
theorem opp_top {u v w : Int} (h1 : 2 ≤ u) (h2 : 2 ≤ v) (h : u * v < 2 * w) : u < w ∧ v < w := by
  have a := Int.mul_le_mul_of_nonneg_left h2 (show 0 ≤ u by omega)
  have b := Int.mul_le_mul_of_nonneg_right h1 (show 0 ≤ v by omega)
  omega
theorem Down.top {p : P3} {t : T3} (d : Down p t) : nat (co p t) < nat (opp p t) ∧ nat (go p t) < nat (opp p t) := opp_top d.2.1 d.2.2.1 d.2.2.2
theorem Down.least {p : P3} {x y z : Int} (d : Down p (x, y, z)) : 2 ≤ min (min (nat x) (nat y)) (nat z) := by
  have t := d.top
  obtain ⟨_, h1, h2, _⟩ := d
  cases p
  · have : nat z < nat y := t.1
    have : 2 ≤ nat z := h1
    have : 2 ≤ nat x := h2
    omega
  · have : nat x < nat z := t.1
    have : 2 ≤ nat x := h1
    have : 2 ≤ nat y := h2
    omega
  · have : nat y < nat x := t.1
    have : 2 ≤ nat y := h1
    have : 2 ≤ nat z := h2
    omega
theorem top_only {p q : P3} {t : T3} (hp : ∀ s, nat (opp s t) ≤ nat (opp p t)) (d : Down q t) : q = p := by
  have top := d.top
  obtain ⟨x, y, z⟩ := t
  have h := hp q
  cases p <;> cases q <;> first | rfl | (exfalso; simp only [opp, co, go] at top h; omega)
theorem ring_prod {t : T3} (p : P3) (r : ring t) : go p t * co p t = nat (co p t) * nat (go p t) := by
  have e : ∀ {u v : Int}, (0 < u ∧ 0 < v) ∨ (u < 0 ∧ v < 0) → v * u = nat u * nat v := fun {u v} h => by
    unfold nat
    (rcases h with ⟨h1, h2⟩ | ⟨h1, h2⟩)
    · rw [if_neg (by omega), if_neg (by omega), Int.mul_comm]
    · rw [if_pos h1, if_pos h2, Int.neg_mul_neg, Int.mul_comm]
  obtain ⟨x, y, z⟩ := t
  refine e ?_
  rcases r with ⟨h1, h2, h3⟩ | ⟨h1, h2, h3⟩
  · left
    cases p
    · exact ⟨h3, h1⟩
    · exact ⟨h1, h2⟩
    · exact ⟨h2, h3⟩
  · right
    cases p
    · exact ⟨h3, h1⟩
    · exact ⟨h1, h2⟩
    · exact ⟨h2, h3⟩
theorem top_down {p s : P3} {t : T3} (hp : ∀ s, nat (opp s t) ≤ nat (opp p t)) (c : 2 * nat (opp p t) ≤ go p t * co p t) (e : go p t * co p t = nat (co p t) * nat (go p t)) (d : Down s t) : False := by
  have h := top_only hp d
  subst h
  have := d.2.2.2
  omega
theorem down_of {p : P3} {t : T3} (r : ring t) (least : ∀ s : P3, 2 ≤ nat (opp s t)) (c : ¬ 2 * nat (opp p t) ≤ go p t * co p t) (e : go p t * co p t = nat (co p t) * nat (go p t)) : Down p t := by
  refine ⟨r, ?_, ?_, by omega⟩
  · obtain ⟨x, y, z⟩ := t
    cases p
    · exact least .b
    · exact least .c
    · exact least .a
  · obtain ⟨x, y, z⟩ := t
    cases p
    · exact least .c
    · exact least .a
    · exact least .b
end At

namespace At
open L2 PyProof.Rows PySem.Spec PySem
theorem hu64 {A : Around} {k : Nat} (hr : Room k A) : A.units + 64 < cLine := by have := hr.un; omega
theorem go_rGetL {K : PySem.W.Frag} {H : Hp} {Q : VK} {v : V} {p : Addr} {xs : List V} {k : Int} (h0 : 0 ≤ k) (h1 : k < 2 ^ 63) (h : SqL K H p xs) (e : xs[k.toNat]? = some v) (q : Q v H) : rGetL K (.ref p) (.int k) H Q := ⟨p, xs, k, v, rfl, rfl, h0, h1, h, e, q⟩
theorem nxt_lo (p : P3) : 0 ≤ (nxt p).i := by cases p <;> decide
theorem nxt_hi (p : P3) : (nxt p).i < 2 ^ 63 := by cases p <;> decide
theorem go_make {C : Addr} {sp : Sp} {E : XK} {t : TA} {σ : L2.St} {H : Hp} {Q : VK} (h : t σ H fun vs H1 => ∀ x dx, H1 x = none → H1 dx = none → dx ≠ x →
  sp (.ref x :: vs) (upd (upd H1 dx (.own x)) x (.ins C dx [])) (fun v H2 => v = .non ∧ Q (.ref x) H2) E) : tMake C sp [] E t σ H Q := by
  have e : (fun vs H1 => ∀ x dx, H1 x = none → H1 dx = none → dx ≠ x → sp (.ref x :: (vs ++ [])) (upd (upd H1 dx (.own x)) x (.ins C dx [])) (fun v H2 => v = .non ∧ Q (.ref x) H2) E) = (fun vs H1 => ∀ x dx, H1 x = none → H1 dx = none → dx ≠ x →
      sp (.ref x :: vs) (upd (upd H1 dx (.own x)) x (.ins C dx [])) (fun v H2 => v = .non ∧ Q (.ref x) H2) E) := by
    funext vs H1
    rw [List.append_nil]
  show t σ H fun vs H1 => ∀ x dx, H1 x = none → H1 dx = none → dx ≠ x → sp (.ref x :: (vs ++ [])) (upd (upd H1 dx (.own x)) x (.ins C dx [])) (fun v H2 => v = .non ∧ Q (.ref x) H2) E
  rw [e]
  exact h
/-! ### a dict of the module, read -/
theorem ix_kd' {X : Cx} {K : PySem.W.Frag} {w : World} {d : Addr} {es : Array DictEntry} {n : Nat} (D : KDict K w d es n) (eK : X.K = K := by rfl) (ew : X.w = w := by rfl) : IxR X (rKd K d) := by
  subst eK ew
  exact ix_kd D
theorem ix_tup' {X : Cx} {K : PySem.W.Frag} (eK : X.K = K := by rfl) : IxR X (rIxT K) := by
  subst eK
  exact ix_tup
theorem ix_list' {X : Cx} {K : PySem.W.Frag} (eK : X.K = K := by rfl) : IxR X (rIxL K) := by
  subst eK
  exact ix_list
def rInKd (K : PySem.W.Frag) (d : Addr) : R2 := fun x y H Q => ∃ (z : Str) (r : Option Value), x = .str z ∧ y = .ref d ∧ PySem.W.nsIn K d z = some r ∧ Q (.bl r.isSome) H
theorem op_in_kd' {X : Cx} {K : PySem.W.Frag} {w : World} {d : Addr} {es : Array DictEntry} {n : Nat} (D : KDict K w d es n) (eK : X.K = K := by rfl) (ew : X.w = w := by rfl) : OpR X (compareOp .In) (rInKd K d) := by
  subst eK ew
  exact op_in_kd D
/-! ### isinstance of a built-in type -/
theorem go_isi {K : PySem.W.Frag} {H : Hp} {Q : VK} {x : V} {m n : String} {b : Bool} (ty : TyOf K H x (.type m)) (e : PySem.W.kitOne K (.type m) (.type n) = some b) (q : Q (.bl b) H) : rIsi K [x, .ty n] H Q := ⟨x, .ty n, .type m, .type n, b, rfl, .ty n, .base ty, e, q⟩
theorem kit_ii (K : PySem.W.Frag) : PySem.W.kitOne K (.type "int") (.type "int") = some true := by rfl
theorem kit_ib (K : PySem.W.Frag) : PySem.W.kitOne K (.type "int") (.type "bool") = some false := by rfl
theorem kit_ss (K : PySem.W.Frag) : PySem.W.kitOne K (.type "str") (.type "str") = some true := by rfl
theorem kit_tt (K : PySem.W.Frag) : PySem.W.kitOne K (.type "tuple") (.type "tuple") = some true := by rfl
/-! ### numbers, places, words -/
def HUGE : Int := 2 ^ 400000
def HALF : Int := 2 ^ 199999
def MID : Int := 2 ^ 8000
def BB : Int := GR * MT
def BB3 : Int := BB + 2 * MID * (2 * BB)
theorem gr_bb : GR ≤ BB := by decide +kernel
theorem bb_mid : BB ≤ MID := by decide +kernel
theorem bb_bb3 : BB ≤ BB3 := by decide +kernel
theorem bb3_half : BB3 ≤ HALF := by decide +kernel
theorem mk_bb {t : T3} (h : big t ≤ GR) : 4 * mk t ≤ 3 * (BB * BB) := by
  have h1 := mk_le h
  have h2 : 4 * (3 * (GR * GR) + GR * GR * GR) ≤ 3 * (BB * BB) := by decide +kernel
  omega
theorem mk_bb3 {t : T3} (h : big t ≤ GR) : 4 * mk t ≤ 3 * (BB3 * BB3) := by
  have h1 := mk_le h
  have h2 : 4 * (3 * (GR * GR) + GR * GR * GR) ≤ 3 * (BB3 * BB3) := by decide +kernel
  omega
theorem half_ok {B : Int} (h0 : 0 ≤ B) (h : B ≤ HALF) : B * B + B ≤ HUGE := by
  have h1 : B * B ≤ HALF * HALF := Int.mul_le_mul h h h0 (Int.le_trans h0 h)
  have h2 : HALF * HALF + HALF ≤ HUGE := by decide +kernel
  omega
theorem half_huge : HALF ≤ HUGE := by decide +kernel
theorem mid_half : MID ≤ HALF := by decide +kernel
def P3.ch : P3 → Nat
  | .a => 97
  | .b => 98
  | .c => 99
/-- a word -/
def wd (ps : List P3) : Str := ⟨(ps.map P3.ch).toArray⟩
def lt (p : P3) : Str := ⟨#[p.ch]⟩
theorem lt_a : lt .a = ("a" : Str) := by decide +kernel
theorem lt_b : lt .b = ("b" : Str) := by decide +kernel
theorem lt_c : lt .c = ("c" : Str) := by decide +kernel
def prv : P3 → P3
  | .a => .c
  | .b => .a
  | .c => .b
/-- the numbers as a tuple's items -/
def tv (t : T3) : List V := [.int t.1, .int t.2.1, .int t.2.2]
def szs (t : T3) : T3 := (nat t.1, nat t.2.1, nat t.2.2)
def pl (ps : List P3) : List V := ps.map fun p => .int p.i
theorem pl_rev (ps : List P3) : (pl ps).reverse = pl ps.reverse := by rw [pl, pl, List.map_reverse]
theorem at_co (p : P3) (t : T3) : atI (tv t) (prv p).i = some (.int (co p t)) := by cases p <;> rfl
theorem at_go (p : P3) (t : T3) : atI (tv t) p.i = some (.int (go p t)) := by cases p <;> rfl
theorem at_opp (p : P3) (t : T3) : atI (tv t) (nxt p).i = some (.int (opp p t)) := by cases p <;> rfl
theorem at_set1 (p : P3) {x y z : V} : ixN [x, y, z].length (prv p).i = some (prv p).i.toNat := by cases p <;> rfl
theorem at_set2 (p : P3) {x y z w : V} {j : Nat} : ixN ([x, y, z].set j w).length p.i = some p.i.toNat := by
  rw [List.length_set]
  cases p <;> rfl
theorem at_set3 (p : P3) (t : T3) : (([.int (push (co p t) (go p t) (opp p t)), .int (push (co p t) (go p t) (opp p t)), .int (push (co p t) (go p t) (opp p t))] : List V).set (prv p).i.toNat (.int (-co p t))).set p.i.toNat (.int (-go p t)) = tv (turn p t) := by
  cases p <;> rfl
theorem at_opp2 (p : P3) (t : T3) : (tv t)[(nxt p).i.toNat]? = some (.int (opp p t)) := by cases p <;> rfl
theorem at_opp3 {p q : P3} (h : p ≠ q) (t : T3) (u : V) : ((tv t).set (nxt p).i.toNat u)[(nxt q).i.toNat]? = some (.int (opp q t)) := by cases p <;> cases q <;> first | exact absurd rfl h | rfl
theorem at_ix (p : P3) (t : T3) : ixN (tv t).length (nxt p).i = some (nxt p).i.toNat := by cases p <;> rfl
theorem at_ix2 (p : P3) (t : T3) (j : Nat) (u : V) : ixN ((tv t).set j u).length (nxt p).i = some (nxt p).i.toNat := by
  rw [List.length_set]
  exact at_ix p t
theorem at_set5 {p q r : P3} (h1 : p ≠ q) (h2 : q ≠ r) (h3 : p ≠ r) (t s : T3) {u v : Int} (e1 : opp p s = u) (e2 : opp q s = v) (e3 : opp r s = opp r t) : ((tv t).set (nxt p).i.toNat (.int u)).set (nxt q).i.toNat (.int v) = tv s := by
  subst e1 e2
  obtain ⟨x, y, z⟩ := t
  obtain ⟨a, b, c⟩ := s
  cases p <;> cases q <;> cases r <;> first | exact absurd rfl h1 | exact absurd rfl h2 | exact absurd rfl h3 | (simp only [opp] at e3; subst e3; rfl)
def chi (c : Nat) : Int := if c = 97 then 0 else if c = 98 then 1 else 2
theorem chi_ch (p : P3) : chi p.ch = p.i := by cases p <;> rfl
theorem wd_size (ps : List P3) : (wd ps).cps.size = ps.length := by simp [wd]
theorem wd_mem {ps : List P3} {c : Nat} (h : c ∈ (wd ps).cps.toList) : ∃ p : P3, c = p.ch := by
  simp only [wd, List.mem_map] at h
  obtain ⟨p, _, rfl⟩ := h
  exact ⟨p, rfl⟩
theorem wd_list (ps : List P3) : (wd ps).cps.toList.map (fun c => V.int (chi c)) = pl ps := by
  simp only [wd, pl, List.map_map]
  congr 1
  funext p
  show V.int (chi p.ch) = _
  rw [chi_ch]
theorem pl_at {ps : List P3} {i : Nat} {x : V} (h : (pl ps)[i]? = some x) : ∃ c : P3, ps[i]? = some c ∧ x = .int c.i := by
  rw [pl, List.getElem?_map] at h
  cases z : ps[i]? with
  | none => rw [z] at h; cases h
  | some c => rw [z] at h; exact ⟨c, rfl, (Option.some.inj h).symm⟩
theorem fold_len (ps : List P3) : (ps.foldl keep []).length ≤ ps.length := keeps_length ps
theorem p3_inj {p q : P3} (h : p.i = q.i) : p = q := by cases p <;> cases q <;> first | rfl | cases h
/-! ### == of lists and tuples of ints -/
theorem dp_ints {K : PySem.W.Frag} {H : Hp} : ∀ ns : List Int, DpAll K H (ns.map V.int) (ns.map PyData.int)
  | [] => .nil
  | n :: ns => .cons (.int n) (dp_ints ns)
theorem lay_ints : ∀ ns : List Int, PyData.canLayAll0 (ns.map PyData.int) = true
  | [] => by simp only [List.map_nil, PyData.canLayAll0]
  | n :: ns => by simp only [List.map_cons, PyData.canLayAll0, PyData.canLay0, lay_ints ns, Bool.and_self]
theorem deep_ints : ∀ ns : List Int, PyData.depthAll (ns.map PyData.int) = 0
  | [] => by simp only [List.map_nil, PyData.depthAll]
  | n :: ns => by simp only [List.map_cons, PyData.depthAll, PyData.depth, deep_ints ns, Nat.max_self]
theorem eqv_ints : ∀ ns ms : List Int, PyData.eqvAll (ns.map PyData.int) (ms.map PyData.int) = decide (ns = ms)
  | [], [] => (by simp [PyData.eqvAll])
  | [], m :: ms => by simp [PyData.eqvAll]
  | n :: ns, [] => by simp [PyData.eqvAll]
  | n :: ns, m :: ms => by
    simp only [List.map_cons, PyData.eqvAll, PyData.eqv, eqv_ints ns ms, List.cons.injEq]
    by_cases h : n = m <;> by_cases h2 : ns = ms <;> simp [h, h2]
theorem shaped_lst (ns : List Int) : SeqAt.shaped (.list (ns.map PyData.int)) = true := by
  unfold SeqAt.shaped
  simp only [PyData.canLay0, PyData.depth, lay_ints, deep_ints]
  rfl
theorem shaped_tup (ns : List Int) : SeqAt.shaped (.tuple (ns.map PyData.int)) = true := by
  unfold SeqAt.shaped
  simp only [PyData.canLay0, PyData.depth, lay_ints, deep_ints]
  rfl
theorem go_eqL {K : PySem.W.Frag} {H : Hp} {p q : Addr} {ns ms : List Int} {Q : VK} (h1 : SqL K H p (ns.map V.int)) (h2 : SqL K H q (ms.map V.int)) (k : Q (.bl (decide (ns = ms))) H) : rEqD K (.ref p) (.ref q) H Q :=
  ⟨_, _, .lst h1 (dp_ints ns), .lst h2 (dp_ints ms), shaped_lst ns, shaped_lst ms, by rw [PyData.eqv, eqv_ints]; exact k⟩
theorem go_eqT {K : PySem.W.Frag} {H : Hp} {p q : Addr} {ns ms : List Int} {Q : VK} (h1 : SqT K H p (ns.map V.int)) (h2 : SqT K H q (ms.map V.int)) (k : Q (.bl (decide (ns = ms))) H) : rEqD K (.ref p) (.ref q) H Q :=
  ⟨_, _, .tup h1 (dp_ints ns), .tup h2 (dp_ints ms), shaped_tup ns, shaped_tup ms, by rw [PyData.eqv, eqv_ints]; exact k⟩
theorem pl_ints (ps : List P3) : pl ps = (ps.map P3.i).map V.int := by rw [pl, List.map_map]; rfl
theorem pl_inj {ps qs : List P3} : ps.map P3.i = qs.map P3.i ↔ ps = qs := by
  constructor
  · intro h
    have : ∀ (ps qs : List P3), ps.map P3.i = qs.map P3.i → ps = qs := by
      intro ps
      induction ps with
      | nil => intro qs h; cases qs with
        | nil => rfl
        | cons q qs => cases h
      | cons p ps ih => intro qs h; cases qs with
        | nil => cases h
        | cons q qs =>
          (simp only [List.map_cons, List.cons.injEq] at h)
          rw [p3_inj h.1, ih qs h.2]
    exact this ps qs h
  · intro h; rw [h]
theorem go_eqP {K : PySem.W.Frag} {H : Hp} {p q : Addr} {ps qs : List P3} {Q : VK} (h1 : SqL K H p (pl ps)) (h2 : SqL K H q (pl qs)) (k : Q (.bl (decide (ps = qs))) H) : rEqD K (.ref p) (.ref q) H Q := by
  rw [pl_ints] at h1 h2
  refine go_eqL h1 h2 ?_
  have e : decide (ps.map P3.i = qs.map P3.i) = decide (ps = qs) := decide_eq_decide.mpr pl_inj
  rw [e]
  exact k
theorem tv_ints (t : T3) : tv t = [t.1, t.2.1, t.2.2].map V.int := rfl
theorem go_eq3 {K : PySem.W.Frag} {H : Hp} {p q : Addr} {t s : T3} {Q : VK} (h1 : H p = some (.tup (tv t))) (h2 : H q = some (.tup (tv s))) (k : Q (.bl (decide (t = s))) H) : rEqD K (.ref p) (.ref q) H Q := by
  refine go_eqT (ns := [t.1, t.2.1, t.2.2]) (ms := [s.1, s.2.1, s.2.2]) (SqT.of h1) (SqT.of h2) ?_
  have e : decide ([t.1, t.2.1, t.2.2] = [s.1, s.2.1, s.2.2]) = decide (t = s) := decide_eq_decide.mpr (by
    obtain ⟨x, y, z⟩ := t
    obtain ⟨x', y', z'⟩ := s
    simp)
  rw [e]
  exact k
theorem atI_back {α : Type} (u : List α) (z : α) (v : List α) {n : Nat} (h : v.length = n) : atI (u ++ z :: v) (-1 - (n : Int)) = some z := by
  unfold atI ixN
  rw [if_neg (by omega), List.length_append, List.length_cons, if_pos (by omega)]
  have e : ((-1 - (n : Int)) + ((u.length + (v.length + 1) : Nat) : Int)).toNat = u.length := by omega
  rw [e]
  show (u ++ z :: v)[u.length]? = some z
  rw [List.getElem?_append_right (Nat.le_refl _), Nat.sub_self]
  rfl
theorem sIx_in (n d j : Nat) (h : j ≤ n) : HT.sIx n d (some (j : Int)) = j := by
  rw [HT.sIx_nat]
  omega
theorem cut_to (xs : List V) (j : Nat) (h : j ≤ xs.length) : cutV xs none (some (j : Int)) = xs.take j := by
  unfold cutV
  rw [sIx_in _ _ _ h, HT.sIx_none, List.drop_zero, Nat.sub_zero]
theorem cut_mid (xs : List V) (i : Nat) (k : Int) (h0 : (i : Int) ≤ k) (h1 : 0 ≤ k) (h2 : k ≤ xs.length) : cutV xs (some (i : Int)) (some k) = (xs.drop i).take (k.toNat - i) := by
  obtain ⟨j, rfl⟩ : ∃ j : Nat, k = (j : Int) := ⟨k.toNat, by omega⟩
  unfold cutV
  rw [sIx_in _ _ _ (by omega), sIx_in _ _ _ (by omega)]
  rfl
theorem pl_rep (ps : List P3) : ∀ n : Nat, (List.replicate n (pl ps)).flatten = pl (rep n ps)
  | 0 => rfl
  | n + 1 => by
    rw [List.replicate_succ, List.flatten_cons, pl_rep ps n, rep_succ, pl, pl, pl, List.map_append]
theorem core_cut (w c : List P3) : ((pl (w ++ c ++ w.reverse)).drop w.length).take c.length = pl c := by
  rw [pl, ← List.map_drop, ← List.map_take, List.append_assoc, List.drop_left, List.take_left]
  rfl
theorem mul_ok {B a b : Int} (hB : B ≤ HUGE) (ha : nat a ≤ B) (hb : nat b ≤ B) : CMulW a b := by
  have e : ∀ x : Int, nat x ≤ B → x.natAbs < 2 ^ 400001 := fun x hx => by
    have h1 : (x.natAbs : Int) = nat x := by unfold nat; split <;> omega
    have h2 : (x.natAbs : Int) ≤ 2 ^ 400000 := by
      rw [h1]
      exact Int.le_trans hx hB
    have h3 : x.natAbs ≤ 2 ^ 400000 := by exact_mod_cast h2
    exact Nat.lt_of_le_of_lt h3 (Nat.pow_lt_pow_right (by decide) (by decide))
  exact wide_mul (e a ha) (e b hb) (by decide) (by decide) (by decide)
/-! ### standings and rows of turns -/
def StAt (K : PySem.W.Frag) (H : Hp) (a : Addr) (t : T3) : Prop := ∃ dx n, H a = some (.ins (He.ga K "Standing") dx [("_numbers", .ref n)]) ∧ H n = some (.tup (tv t))
theorem StAt.ext {K : PySem.W.Frag} {H H' : Hp} {a : Addr} {t : T3} (h : StAt K H a t) (e : Ext H H') : StAt K H' a t := by
  obtain ⟨dx, n, h1, h2⟩ := h
  exact ⟨dx, n, e _ _ h1, e _ _ h2⟩
abbrev Row := List (List P3 × Int)
def PairAt (H : Hp) (r : Addr) (pm : List P3 × Int) : Prop := H r = some (.tup [.str (wd pm.1), .int pm.2])
def PairsAt (H : Hp) : List Addr → Row → Prop
  | [], [] => True
  | r :: rs, pm :: row => PairAt H r pm ∧ PairsAt H rs row
  | _, _ => False
def RowAt (H : Hp) (a : Addr) (row : Row) : Prop := ∃ rs : List Addr, H a = some (.tup (rs.map V.ref)) ∧ PairsAt H rs row
theorem PairsAt.ext {H H' : Hp} (e : Ext H H') : ∀ {rs : List Addr} {row : Row}, PairsAt H rs row → PairsAt H' rs row
  | [], [], _ => trivial
  | _ :: _, _ :: _, h => ⟨e _ _ h.1, PairsAt.ext e h.2⟩
  | [], _ :: _, h => h
  | _ :: _, [], h => h
theorem RowAt.ext {H H' : Hp} {a : Addr} {row : Row} (h : RowAt H a row) (e : Ext H H') : RowAt H' a row := by
  obtain ⟨rs, h1, h2⟩ := h
  exact ⟨rs, e _ _ h1, h2.ext e⟩
theorem PairsAt.len {H : Hp} : ∀ {rs : List Addr} {row : Row}, PairsAt H rs row → rs.length = row.length
  | [], [], _ => rfl
  | _ :: _, _ :: _, h => congrArg (· + 1) (PairsAt.len h.2)
  | [], _ :: _, h => h.elim
  | _ :: _, [], h => h.elim
theorem PairsAt.at_ {H : Hp} : ∀ {rs : List Addr} {row : Row}, PairsAt H rs row → ∀ {i : Nat} {x : V}, (rs.map V.ref)[i]? = some x → ∃ r pm, x = .ref r ∧ rs[i]? = some r ∧ row[i]? = some pm ∧ PairAt H r pm
  | [], [], _, i, x, hx => by simp at hx
  | r :: rs, pm :: row, h, 0, x, hx => by
    simp at hx
    exact ⟨r, pm, hx.symm, rfl, rfl, h.1⟩
  | r :: rs, pm :: row, h, i + 1, x, hx => by
    rw [List.map_cons, List.getElem?_cons_succ] at hx
    obtain ⟨r', pm', h1, h2, h3, h4⟩ := PairsAt.at_ h.2 hx
    exact ⟨r', pm', h1, by rw [List.getElem?_cons_succ]; exact h2, by rw [List.getElem?_cons_succ]; exact h3, h4⟩
  | [], _ :: _, h, _, _, _ => h.elim
  | _ :: _, [], h, _, _, _ => h.elim
def PairOk (pm : List P3 × Int) : Prop := 1 ≤ pm.1.length ∧ pm.1.length ≤ 12 ∧ 0 ≤ pm.2 ∧ pm.2 ≤ MT
def RowOk (row : Row) : Prop := row.length ≤ 200 ∧ ∀ pm ∈ row, PairOk pm
def rowWalk (t : T3) (row : Row) : T3 := row.foldl (fun t pm => many pm.2.toNat pm.1 t) t
def rowLen (row : Row) : Int := (row.map fun pm => (pm.1.length : Int) * pm.2).sum
theorem rowWalk_succ {t : T3} {row : Row} {i : Nat} {pm : List P3 × Int} (h : row[i]? = some pm) : rowWalk t (row.take (i + 1)) = many pm.2.toNat pm.1 (rowWalk t (row.take i)) := by
  rw [List.take_add_one, h]
  unfold rowWalk
  rw [List.foldl_append]
  rfl
end At

namespace At
open L2 PyProof.Rows PySem.Spec PySem
/-! ### a drawn cup: a list of two ints that changes -/
def Cup (H : Hp) (c : Addr) : Prop := ∃ x d : Int, H c = some (.lst [.int x, .int d]) ∧ 0 ≤ x ∧ x < 2147483629 ∧ 0 ≤ d
/-- all but the cup stays -/
def ExtC (c : Addr) (H H' : Hp) : Prop := ∀ a o, a ≠ c → H a = some o → H' a = some o
theorem ExtC.refl (c : Addr) (H : Hp) : ExtC c H H := fun _ _ _ h => h
theorem ExtC.trans {c : Addr} {H1 H2 H3 : Hp} (e : ExtC c H1 H2) (f : ExtC c H2 H3) : ExtC c H1 H3 := fun a o n h => f a o n (e a o n h)
theorem ExtC.of {c : Addr} {H H' : Hp} (e : Ext H H') : ExtC c H H' := fun a o _ h => e a o h
theorem ExtC.new {c p : Addr} {H : Hp} {o : HO} (np : H p = none) : ExtC c H (upd H p o) := .of (Evl.Ex.new np)
theorem ExtC.set {c : Addr} {H : Hp} {o : HO} : ExtC c H (upd H c o) := fun a u n h => by rw [upd_ne n]; exact h
theorem Cup.ext {c : Addr} {H H' : Hp} (h : Cup H c) (e : Ext H H') : Cup H' c := by
  obtain ⟨x, d, h1, h2⟩ := h
  exact ⟨x, d, e _ _ h1, h2⟩
theorem Cup.new {c p : Addr} {H : Hp} {o : HO} (h : Cup H c) (np : H p = none) : Cup (upd H p o) c := h.ext (Evl.Ex.new np)
theorem ExtC.tup {c a : Addr} {H H' : Hp} {xs : List V} (e : ExtC c H H') (hc : Cup H c) (h : H a = some (.tup xs)) : H' a = some (.tup xs) := e a _ (fun z => by
  obtain ⟨x, d, h1, _⟩ := hc
  rw [z, h1] at h
  cases h) h
theorem ExtC.ins {c a C dx : Addr} {H H' : Hp} {fs : List (Str × V)} (e : ExtC c H H') (hc : Cup H c) (h : H a = some (.ins C dx fs)) : H' a = some (.ins C dx fs) := e a _ (fun z => by
  obtain ⟨x, d, h1, _⟩ := hc
  rw [z, h1] at h
  cases h) h
theorem ExtC.st {K : PySem.W.Frag} {c a : Addr} {H H' : Hp} {t : T3} (e : ExtC c H H') (hc : Cup H c) (h : StAt K H a t) : StAt K H' a t := by
  obtain ⟨dx, n, h1, h2⟩ := h
  exact ⟨dx, n, e.ins hc h1, e.tup hc h2⟩
theorem ExtC.pairs {c : Addr} {H H' : Hp} (e : ExtC c H H') (hc : Cup H c) : ∀ {rs : List Addr} {row : Row}, PairsAt H rs row → PairsAt H' rs row
  | [], [], _ => trivial
  | _ :: _, _ :: _, h => ⟨e.tup hc h.1, e.pairs hc h.2⟩
  | [], _ :: _, h => h
  | _ :: _, [], h => h
theorem ExtC.row {c a : Addr} {H H' : Hp} {row : Row} (e : ExtC c H H') (hc : Cup H c) (h : RowAt H a row) : RowAt H' a row := by
  obtain ⟨rs, h1, h2⟩ := h
  exact ⟨rs, e.tup hc h1, e.pairs hc h2⟩
theorem wd_at {ps : List P3} {i c : Nat} (h : (wd ps).cps[i]? = some c) : ∃ p : P3, ps[i]? = some p ∧ c = p.ch := by
  have h' : (ps.map P3.ch)[i]? = some c := by
    rw [← h]
    simp [wd]
  rw [List.getElem?_map] at h'
  cases z : ps[i]? with
  | none => rw [z] at h'; cases h'
  | some p => rw [z] at h'; exact ⟨p, rfl, (Option.some.inj h').symm⟩
theorem ne_cup {c l : Addr} {H : Hp} (h : Cup H c) (n : H l = none) : l ≠ c := fun z => by
  obtain ⟨x, d, h1, _⟩ := h
  rw [z, h1] at n
  cases n
def TOPB : Int := 10 ^ 13
theorem topb_mid : (TOPB + 1) * (TOPB + 1) + 2 ≤ MID := by decide +kernel
theorem top_sq {t a b : Int} (h0 : 0 ≤ a) (h1 : 0 ≤ b) (ha : a ≤ t + 1) (hb : b ≤ t + 1) : a * b ≤ (t + 1) * (t + 1) := Int.mul_le_mul ha hb h1 (by omega)
theorem top_mid {t : Int} (h0 : 1 ≤ t) (h : t ≤ TOPB) : (t + 1) * (t + 1) + 2 ≤ MID := by
  have := Int.mul_le_mul (show t + 1 ≤ TOPB + 1 by omega) (show t + 1 ≤ TOPB + 1 by omega) (by omega) (by decide)
  exact Int.le_trans (by omega) topb_mid
theorem mixed (x : Int) : 0 ≤ x.fmod 2147483629 ∧ x.fmod 2147483629 < 2147483629 := by
  (rw [Int.fmod_eq_emod_of_nonneg _ (by decide)])
  omega
theorem modI {x m : Int} (h : 0 < m) : 0 ≤ x.fmod m ∧ x.fmod m < m := by
  (rw [Int.fmod_eq_emod_of_nonneg _ (by omega)])
  exact ⟨Int.emod_nonneg _ (by omega), Int.emod_lt_of_pos _ h⟩
theorem cdivp {i j : Int} (h0 : 0 < j) (h1 : j ≤ MID) : CDivP i j := ⟨h0, PyProof.noPylong_of_log2 ((Nat.log2_lt (by omega)).mpr (Nat.lt_of_le_of_lt (show j.natAbs ≤ 2 ^ 8000 by
  have h2 : (j.natAbs : Int) ≤ 2 ^ 8000 := by
    rw [show (j.natAbs : Int) = j by omega]
    exact h1
  exact_mod_cast h2) (Nat.pow_lt_pow_right (by decide) (by decide))))⟩
end At

namespace At
open L2 PyProof.Rows PySem.Spec PySem
/-! ### text * int -/
def rStrMul : R2 := fun x y H Q => ∃ (z : Str) (n : Int), x = .str z ∧ y = .int n ∧ MulOk z n ∧ Q (.str (Txt.mul z n)) H
theorem op_strMul {X : Cx} : OpR X (binaryOp .Mult) rStrMul := by
  intro pins s0 τ H x y v u Q J rx ry h
  obtain ⟨z, n, rfl, rfl, ok, q⟩ := h
  obtain ⟨t1, rfl⟩ := rx
  obtain ⟨t2, rfl⟩ := ry
  exact SB.mul ok fun t' k => ⟨.str (Txt.mul z n), H, J.tok _, ⟨t', rfl⟩, q⟩
theorem flat_reps (z : Array Nat) : ∀ (n : Nat) (a : Array Nat), (List.replicate n z).foldl (· ++ ·) a = a ++ (List.replicate n z).foldl (· ++ ·) #[]
  | 0, a => by simp
  | n + 1, a => by
    rw [List.replicate_succ, List.foldl_cons, List.foldl_cons, flat_reps z n (a ++ z), flat_reps z n (#[] ++ z), Array.empty_append, Array.append_assoc]
theorem reps_wd (ps : List P3) : ∀ n : Nat, (List.replicate n (wd ps).cps).foldl (· ++ ·) #[] = (wd (rep n ps)).cps
  | 0 => rfl
  | n + 1 => by
    rw [List.replicate_succ, List.foldl_cons, flat_reps, reps_wd ps n, rep_succ, Array.empty_append]
    show (wd ps).cps ++ (wd (rep n ps)).cps = _
    simp [wd]
theorem mul_wd (ps : List P3) {n : Int} (h0 : 0 ≤ n) : Txt.mul (wd ps) n = wd (rep n.toNat ps) := by
  unfold Txt.mul
  by_cases h1 : n < 1
  · rw [if_pos h1, show n = 0 by omega]
    rfl
  · rw [if_neg h1]
    by_cases h2 : (n == 1 || (wd ps).length == 0) = true
    · rw [if_pos h2]
      rw [Bool.or_eq_true] at h2
      rcases h2 with h2 | h2
      · rw [eq_of_beq h2]
        show wd ps = wd (rep 1 ps)
        rw [rep_succ, rep_zero, List.append_nil]
      · have h3 : (wd ps).length = 0 := eq_of_beq h2
        have h4 : ps.length = 0 := by rw [← wd_size ps]; exact h3
        rw [List.length_eq_zero_iff.mp h4]
        have : ∀ k : Nat, rep k ([] : List P3) = [] := fun k => by
          induction k with
          | zero => rfl
          | succ k ih => rw [rep_succ, ih]; rfl
        rw [this]
    · rw [if_neg h2, reps_wd]
theorem mulok_wd {ps : List P3} {n : Int} (h : ps.length ≤ 1000) (h0 : 0 ≤ n) (h1 : n ≤ 1000) : MulOk (wd ps) n := by
  have hz : (wd ps).length = ps.length := wd_size ps
  refine ⟨by rw [Bool.or_eq_false_iff]; exact ⟨decide_eq_false (by omega), decide_eq_false (by omega)⟩, fun g1 _ => ?_, fun g1 _ => ?_⟩
  · rw [hz]
    have g2 : (2 ^ 63 - 1 : Int) / 1000 ≤ (2 ^ 63 - 1) / n := (Int.le_ediv_iff_mul_le (by omega)).mpr (by
      have g3 : (2 ^ 63 - 1 : Int) / 1000 * n ≤ (2 ^ 63 - 1 : Int) / 1000 * 1000 := Int.mul_le_mul_of_nonneg_left h1 (by decide)
      have g4 : (2 ^ 63 - 1 : Int) / 1000 * 1000 ≤ 2 ^ 63 - 1 := by decide
      omega)
    have g5 : (1000 : Int) ≤ (2 ^ 63 - 1 : Int) / 1000 := by decide
    omega
  · rw [hz]
    have g2 : ps.length * n.toNat ≤ 1000 * 1000 := Nat.mul_le_mul h (by omega)
    exact decide_eq_false (by
      have g3 : 1000 * 1000 ≤ sizeLine := by decide
      omega)
def rowFlat (row : Row) : List P3 := (row.map fun pm => rep pm.2.toNat pm.1).flatten
theorem wd_app (ps qs : List P3) : (wd ps).cps ++ (wd qs).cps = (wd (ps ++ qs)).cps := by simp [wd]
theorem fold_wd : ∀ (pss : List (List P3)) (qs : List P3), (pss.map wd).foldl (fun acc p => acc ++ (Str.ofString "").cps ++ p.cps) (wd qs).cps = (wd (qs ++ pss.flatten)).cps
  | [], qs => by rw [List.flatten_nil, List.append_nil]; rfl
  | ps :: pss, qs => by
    have e0 : (Str.ofString "").cps = #[] := by decide +kernel
    rw [List.map_cons, List.foldl_cons, e0, Array.append_empty, wd_app, ← e0, fold_wd pss (qs ++ ps), List.flatten_cons, List.append_assoc]
theorem join_wd (pss : List (List P3)) : Txt.join ("" : Str) (pss.map wd) = wd pss.flatten := by
  cases pss with
  | nil => rfl
  | cons ps pss =>
    show (⟨(pss.map wd).foldl (fun acc p => acc ++ (Str.ofString "").cps ++ p.cps) (wd ps).cps⟩ : Str) = _
    rw [fold_wd]
    rfl
theorem go_join {K : PySem.W.Frag} {H : Hp} {Q : VK} {p : Addr} {pss : List (List P3)} (h : H p = some (.lst (pss.map fun ps => V.str (wd ps)))) (hn : pss.length ≤ 1000) (hl : ∀ ps ∈ pss, ps.length ≤ 16000) (q : Q (.str (wd pss.flatten)) H) :
    ∃ a p', ∃ ys : List Str, V.str ("" : Str) = .str a ∧ [V.ref p] = [.ref p'] ∧ (SqL K H p' (ys.map V.str) ∨ SqT K H p' (ys.map V.str)) ∧ (ys.map (·.length)).sum + ys.length * a.length ≤ 16777216 ∧ Q (.str (Txt.join a ys)) H := by
  refine ⟨"", p, pss.map wd, rfl, rfl, .inl (SqL.of (by rw [h, List.map_map]; rfl)), ?_, by rw [join_wd]; exact q⟩
  have e0 : Str.length ("" : Str) = 0 := by decide +kernel
  rw [e0, Nat.mul_zero, Nat.add_zero, List.map_map]
  have : ∀ (l : List (List P3)), (∀ ps ∈ l, ps.length ≤ 16000) → (l.map ((fun x : Str => x.length) ∘ wd)).sum ≤ l.length * 16000 := by
    intro l
    induction l with
    | nil => intro _; exact Nat.le_refl _
    | cons ps l ih =>
      intro h
      have h1 := ih fun x hx => h x (List.mem_cons_of_mem _ hx)
      have h2 := h ps List.mem_cons_self
      have h3 : (wd ps).length = ps.length := wd_size ps
      (rw [List.map_cons, List.sum_cons, List.length_cons, Nat.succ_mul])
      show (wd ps).length + _ ≤ _
      omega
  have h1 := this pss hl
  omega
end At

namespace At
/-- what is drawn: two sizes up to top + 1, the third up to its square and two more -/
def Sm (top : Int) (t : T3) : Prop := nat t.1 ≤ top + 1 ∧ nat t.2.1 ≤ top + 1 ∧ nat t.2.2 ≤ (top + 1) * (top + 1) + 2
/-- bounds that grow_fit with the turns -/
def Bd : Nat → Int
  | 0 => TOPB + 1
  | 1 => TOPB + 1
  | 2 => (TOPB + 1) * (TOPB + 1) + 2
  | n + 3 => 2 * Bd (n + 1) * Bd (n + 2)
theorem bd_pos : ∀ n, 2 ≤ Bd n
  | 0 => by decide +kernel
  | 1 => by decide +kernel
  | 2 => by decide +kernel
  | n + 3 => by
    have a := bd_pos (n + 1)
    have b := bd_pos (n + 2)
    show 2 ≤ 2 * Bd (n + 1) * Bd (n + 2)
    have := Int.mul_le_mul (show 2 ≤ 2 * Bd (n + 1) by omega) (show 1 ≤ Bd (n + 2) by omega) (by decide) (by omega)
    omega
theorem bd_le : ∀ n, Bd n ≤ Bd (n + 1)
  | 0 => by decide +kernel
  | 1 => by decide +kernel
  | n + 2 => by
    have a := bd_pos (n + 1)
    have b := bd_pos (n + 2)
    show Bd (n + 2) ≤ 2 * Bd (n + 1) * Bd (n + 2)
    have := Int.mul_le_mul_of_nonneg_right (show 1 ≤ 2 * Bd (n + 1) by omega) (show 0 ≤ Bd (n + 2) by omega)
    omega
/-- in some order: by which tie has the least bound, which the greatest -/
def Fit (n : Nat) (t : T3) : Prop := ∃ p q r : P3, p ≠ q ∧ q ≠ r ∧ p ≠ r ∧ nat (opp p t) ≤ Bd n ∧ nat (opp q t) ≤ Bd (n + 1) ∧ nat (opp r t) ≤ Bd (n + 2)
theorem push_fit {u v w a b c d : Int} (hu : nat u ≤ a) (hv : nat v ≤ b) (hw : nat w ≤ c) (h : c + a * b ≤ d) : nat (push u v w) ≤ d := by
  have h1 : nat (u * v) = nat u * nat v := by
    unfold nat
    by_cases h1 : u < 0 <;> by_cases h2 : v < 0
    · rw [if_pos h1, if_pos h2, if_neg (by have := Int.mul_pos_of_neg_of_neg h1 h2; omega), Int.neg_mul_neg]
    · by_cases h3 : v = 0
      · subst h3; simp
      · rw [if_pos h1, if_neg h2, if_pos (Int.mul_neg_of_neg_of_pos h1 (by omega)), Int.neg_mul]
    · by_cases h3 : u = 0
      · subst h3; simp
      · rw [if_neg h1, if_pos h2, if_pos (Int.mul_neg_of_pos_of_neg (by omega) h2), Int.mul_neg]
    · rw [if_neg h1, if_neg h2, if_neg (by have := Int.mul_nonneg (show 0 ≤ u by omega) (show 0 ≤ v by omega); omega)]
  have h2 : nat u * nat v ≤ a * b := Int.mul_le_mul hu hv (nat_nonneg v) (Int.le_trans (nat_nonneg u) hu)
  rw [← h1] at h2
  have h3 := nat_nonneg (u * v)
  unfold nat push at *
  split
  · split <;> split at h2 <;> split at hw <;> omega
  · split
    · split <;> split at h2 <;> split at hw <;> omega
    · omega
theorem opp_turn (p q : P3) (t : T3) (h : p ≠ q) : nat (opp q (turn p t)) = nat (opp q t) := by
  obtain ⟨x, y, z⟩ := t
  cases p <;> cases q <;> first | exact absurd rfl h | exact nat_neg _
theorem opp_self (p q r : P3) (t : T3) (h1 : p ≠ q) (h2 : q ≠ r) (h3 : p ≠ r) : ∃ u v, opp p (turn p t) = push u v (opp p t) ∧ ((nat u = nat (opp q t) ∧ nat v = nat (opp r t)) ∨ (nat u = nat (opp r t) ∧ nat v = nat (opp q t))) := by
  obtain ⟨x, y, z⟩ := t
  cases p <;> cases q <;> cases r <;> first
    | exact absurd rfl h1
    | exact absurd rfl h2
    | exact absurd rfl h3
    | exact ⟨_, _, rfl, .inl ⟨rfl, rfl⟩⟩
    | exact ⟨_, _, rfl, .inr ⟨rfl, rfl⟩⟩
theorem grow_fit {p q r : P3} {t : T3} {a b c d : Int} (h1 : p ≠ q) (h2 : q ≠ r) (h3 : p ≠ r) (hp : nat (opp p t) ≤ c) (hq : nat (opp q t) ≤ a) (hr : nat (opp r t) ≤ b) (h : c + a * b ≤ d) : nat (opp p (turn p t)) ≤ d := by
  obtain ⟨u, v, e, k⟩ := opp_self p q r t h1 h2 h3
  rw [e]
  rcases k with ⟨k1, k2⟩ | ⟨k1, k2⟩
  · exact push_fit (by rw [k1]; exact hq) (by rw [k2]; exact hr) hp h
  · exact push_fit (by rw [k1]; exact hr) (by rw [k2]; exact hq) hp (by rw [Int.mul_comm]; exact h)
theorem Fit.turn {n : Nat} {t : T3} (s : P3) (h : Fit n t) : Fit (n + 1) (turn s t) := by
  obtain ⟨p, q, r, n1, n2, n3, hp, hq, hr⟩ := h
  have b0 := bd_pos n
  have b1 := bd_pos (n + 1)
  have b2 := bd_pos (n + 2)
  have l0 := bd_le n
  have l1 : Bd (n + 1) ≤ Bd (n + 2) := bd_le (n + 1)
  have top : Bd (n + 1 + 2) = 2 * Bd (n + 1) * Bd (n + 2) := rfl
  have e : 2 * Bd (n + 1) * Bd (n + 2) = Bd (n + 1) * Bd (n + 2) + Bd (n + 1) * Bd (n + 2) := by rw [Int.mul_assoc]; omega
  have m1 : Bd (n + 2) ≤ Bd (n + 1) * Bd (n + 2) := by
    have := Int.mul_le_mul_of_nonneg_right (show 1 ≤ Bd (n + 1) by omega) (show 0 ≤ Bd (n + 2) by omega)
    omega
  have m2 : Bd n * Bd (n + 2) ≤ Bd (n + 1) * Bd (n + 2) := Int.mul_le_mul_of_nonneg_right l0 (by omega)
  have m3 : Bd n * Bd (n + 1) ≤ Bd (n + 1) * Bd (n + 2) := by
    rw [Int.mul_comm (Bd (n + 1))]
    exact Int.mul_le_mul (by omega) (Int.le_refl _) (by omega) (by omega)
  have third : s = p ∨ s = q ∨ s = r := by cases s <;> cases p <;> cases q <;> cases r <;> simp_all
  rcases third with rfl | rfl | rfl
  · exact ⟨q, r, s, n2, n3.symm, n1.symm, by rw [opp_turn s q t n1]; exact hq, by rw [opp_turn s r t n3]; exact hr, grow_fit n1 n2 n3 hp hq hr (by omega)⟩
  · exact ⟨p, r, s, n3, n2.symm, n1, by rw [opp_turn s p t n1.symm]; omega, by rw [opp_turn s r t n2]; exact hr, grow_fit n1.symm n3 n2 hq hp hr (by omega)⟩
  · exact ⟨p, q, s, n1, n2, n3, by rw [opp_turn s p t n3.symm]; omega, by rw [opp_turn s q t n2.symm]; exact Int.le_trans hq l1, grow_fit n3.symm n1 n2.symm hr hp hq (by omega)⟩
theorem Fit.walk : ∀ (ps : List P3) {n : Nat} {t : T3}, Fit n t → Fit (n + ps.length) (walk t ps)
  | [], _, _, h => h
  | p :: ps, n, t, h => by
    have := Fit.walk ps (h.turn p)
    rw [walk_cons, List.length_cons, show n + (ps.length + 1) = n + 1 + ps.length by omega]
    exact this
theorem bd_mono {m n : Nat} (h : m ≤ n) : Bd m ≤ Bd n := by
  induction h with
  | refl => exact Int.le_refl _
  | step _ ih => exact Int.le_trans ih (bd_le _)
theorem bd_gr : Bd 7 ≤ GR := by decide +kernel
theorem Fit.big {n : Nat} {t : T3} (h : Fit n t) (hn : n ≤ 5) : big t ≤ GR := by
  obtain ⟨p, q, r, n1, n2, n3, hp, hq, hr⟩ := h
  have a := Int.le_trans hp (Int.le_trans (bd_mono (show n ≤ 7 by omega)) bd_gr)
  have b := Int.le_trans hq (Int.le_trans (bd_mono (show n + 1 ≤ 7 by omega)) bd_gr)
  have c := Int.le_trans hr (Int.le_trans (bd_mono (show n + 2 ≤ 7 by omega)) bd_gr)
  obtain ⟨x, y, z⟩ := t
  refine big_le.mpr ?_
  cases p <;> cases q <;> cases r <;> first
    | exact absurd rfl n1
    | exact absurd rfl n2
    | exact absurd rfl n3
    | exact ⟨c, a, b⟩
    | exact ⟨b, a, c⟩
    | exact ⟨c, b, a⟩
    | exact ⟨a, b, c⟩
    | exact ⟨b, c, a⟩
    | exact ⟨a, c, b⟩
theorem Sm.fit {top : Int} {t : T3} (h0 : 1 ≤ top) (h1 : top ≤ TOPB) (h : Sm top t) : Fit 0 t := by
  obtain ⟨x, y, z⟩ := t
  obtain ⟨a, b, c⟩ := h
  have e := Int.mul_le_mul (show top + 1 ≤ TOPB + 1 by omega) (show top + 1 ≤ TOPB + 1 by omega) (by omega) (by decide)
  exact ⟨.c, .a, .b, by decide, by decide, by decide, Int.le_trans a (show top + 1 ≤ TOPB + 1 by omega), Int.le_trans b (show top + 1 ≤ TOPB + 1 by omega), Int.le_trans c (show (top + 1) * (top + 1) + 2 ≤ (TOPB + 1) * (TOPB + 1) + 2 by omega)⟩
end At

namespace At
/-! ### the same bounds for any greatest draw T -/
def BdG (T : Int) : Nat → Int
  | 0 => T + 1
  | 1 => T + 1
  | 2 => (T + 1) * (T + 1) + 2
  | n + 3 => 2 * BdG T (n + 1) * BdG T (n + 2)
theorem bg_pos {T : Int} (hT : 1 ≤ T) : ∀ n, 2 ≤ BdG T n
  | 0 => show 2 ≤ T + 1 by omega
  | 1 => show 2 ≤ T + 1 by omega
  | 2 => by
    show 2 ≤ (T + 1) * (T + 1) + 2
    have := Int.mul_nonneg (show 0 ≤ T + 1 by omega) (show 0 ≤ T + 1 by omega)
    omega
  | n + 3 => by
    have a := bg_pos hT (n + 1)
    have b := bg_pos hT (n + 2)
    show 2 ≤ 2 * BdG T (n + 1) * BdG T (n + 2)
    have := Int.mul_le_mul (show 2 ≤ 2 * BdG T (n + 1) by omega) (show 1 ≤ BdG T (n + 2) by omega) (by decide) (by omega)
    omega
theorem bg_le {T : Int} (hT : 1 ≤ T) : ∀ n, BdG T n ≤ BdG T (n + 1)
  | 0 => Int.le_refl _
  | 1 => by
    show T + 1 ≤ (T + 1) * (T + 1) + 2
    have := Int.mul_le_mul_of_nonneg_right (show 1 ≤ T + 1 by omega) (show 0 ≤ T + 1 by omega)
    omega
  | n + 2 => by
    have a := bg_pos hT (n + 1)
    have b := bg_pos hT (n + 2)
    show BdG T (n + 2) ≤ 2 * BdG T (n + 1) * BdG T (n + 2)
    have := Int.mul_le_mul_of_nonneg_right (show 1 ≤ 2 * BdG T (n + 1) by omega) (show 0 ≤ BdG T (n + 2) by omega)
    omega
theorem bg_mono {T : Int} (hT : 1 ≤ T) {m n : Nat} (h : m ≤ n) : BdG T m ≤ BdG T n := by
  induction h with
  | refl => exact Int.le_refl _
  | step _ ih => exact Int.le_trans ih (bg_le hT _)
theorem bg_top {T U : Int} (hT : 1 ≤ T) (h : T ≤ U) : ∀ n, BdG T n ≤ BdG U n
  | 0 => show T + 1 ≤ U + 1 by omega
  | 1 => show T + 1 ≤ U + 1 by omega
  | 2 => by
    show (T + 1) * (T + 1) + 2 ≤ (U + 1) * (U + 1) + 2
    have := Int.mul_le_mul (show T + 1 ≤ U + 1 by omega) (show T + 1 ≤ U + 1 by omega) (by omega) (by omega)
    omega
  | n + 3 => by
    have a := bg_top hT h (n + 1)
    have b := bg_top hT h (n + 2)
    have p := bg_pos hT (n + 1)
    have q := bg_pos hT (n + 2)
    exact Int.mul_le_mul (by omega) b (by omega) (by omega)
def FitG (T : Int) (n : Nat) (t : T3) : Prop := ∃ p q r : P3, p ≠ q ∧ q ≠ r ∧ p ≠ r ∧ nat (opp p t) ≤ BdG T n ∧ nat (opp q t) ≤ BdG T (n + 1) ∧ nat (opp r t) ≤ BdG T (n + 2)
theorem FitG.turn {T : Int} (hT : 1 ≤ T) {n : Nat} {t : T3} (s : P3) (h : FitG T n t) : FitG T (n + 1) (turn s t) := by
  obtain ⟨p, q, r, n1, n2, n3, hp, hq, hr⟩ := h
  have b0 := bg_pos hT n
  have b1 := bg_pos hT (n + 1)
  have b2 := bg_pos hT (n + 2)
  have l0 := bg_le hT n
  have l1 : BdG T (n + 1) ≤ BdG T (n + 2) := bg_le hT (n + 1)
  have top : BdG T (n + 1 + 2) = 2 * BdG T (n + 1) * BdG T (n + 2) := rfl
  have e : 2 * BdG T (n + 1) * BdG T (n + 2) = BdG T (n + 1) * BdG T (n + 2) + BdG T (n + 1) * BdG T (n + 2) := by rw [Int.mul_assoc]; omega
  have m1 : BdG T (n + 2) ≤ BdG T (n + 1) * BdG T (n + 2) := by
    have := Int.mul_le_mul_of_nonneg_right (show 1 ≤ BdG T (n + 1) by omega) (show 0 ≤ BdG T (n + 2) by omega)
    omega
  have m2 : BdG T n * BdG T (n + 2) ≤ BdG T (n + 1) * BdG T (n + 2) := Int.mul_le_mul_of_nonneg_right l0 (by omega)
  have m3 : BdG T n * BdG T (n + 1) ≤ BdG T (n + 1) * BdG T (n + 2) := by
    rw [Int.mul_comm (BdG T (n + 1))]
    exact Int.mul_le_mul (by omega) (Int.le_refl _) (by omega) (by omega)
  have third : s = p ∨ s = q ∨ s = r := by cases s <;> cases p <;> cases q <;> cases r <;> simp_all
  rcases third with rfl | rfl | rfl
  · exact ⟨q, r, s, n2, n3.symm, n1.symm, by rw [opp_turn s q t n1]; exact hq, by rw [opp_turn s r t n3]; exact hr, grow_fit n1 n2 n3 hp hq hr (by omega)⟩
  · exact ⟨p, r, s, n3, n2.symm, n1, by rw [opp_turn s p t n1.symm]; omega, by rw [opp_turn s r t n2]; exact hr, grow_fit n1.symm n3 n2 hq hp hr (by omega)⟩
  · exact ⟨p, q, s, n1, n2, n3, by rw [opp_turn s p t n3.symm]; omega, by rw [opp_turn s q t n2.symm]; exact Int.le_trans hq l1, grow_fit n3.symm n1 n2.symm hr hp hq (by omega)⟩
theorem FitG.walk {T : Int} (hT : 1 ≤ T) : ∀ (ps : List P3) {n : Nat} {t : T3}, FitG T n t → FitG T (n + ps.length) (walk t ps)
  | [], _, _, h => h
  | p :: ps, n, t, h => by
    have := FitG.walk hT ps (h.turn hT p)
    rw [walk_cons, List.length_cons, show n + (ps.length + 1) = n + 1 + ps.length by omega]
    exact this
theorem FitG.le {T U : Int} (hT : 1 ≤ T) (hU : T ≤ U) {m n : Nat} {t : T3} (h : FitG T m t) (hn : m ≤ n) : big t ≤ BdG U (n + 2) := by
  obtain ⟨p, q, r, n1, n2, n3, hp, hq, hr⟩ := h
  have up : ∀ k, k ≤ n + 2 → BdG T k ≤ BdG U (n + 2) := fun k hk => Int.le_trans (bg_mono hT hk) (bg_top hT hU _)
  have a := Int.le_trans hp (up m (by omega))
  have b := Int.le_trans hq (up (m + 1) (by omega))
  have c := Int.le_trans hr (up (m + 2) (by omega))
  obtain ⟨x, y, z⟩ := t
  refine big_le.mpr ?_
  cases p <;> cases q <;> cases r <;> first
    | exact absurd rfl n1
    | exact absurd rfl n2
    | exact absurd rfl n3
    | exact ⟨c, a, b⟩
    | exact ⟨b, a, c⟩
    | exact ⟨c, b, a⟩
    | exact ⟨a, b, c⟩
    | exact ⟨b, c, a⟩
    | exact ⟨a, c, b⟩
theorem bg6 : BdG 6 12 ≤ GR := by decide +kernel
theorem Sm.fitG {top : Int} {t : T3} (h0 : 1 ≤ top) (h : Sm top t) : FitG top 0 t := by
  obtain ⟨x, y, z⟩ := t
  obtain ⟨a, b, c⟩ := h
  exact ⟨.c, .a, .b, by decide, by decide, by decide, a, b, c⟩
end At

namespace At
open L2 PyProof.Rows PySem.Spec PySem
/-! ### what is drawn: letters, orders -/
def chP (c : Nat) : P3 := if c = 97 then .a else if c = 98 then .b else .c
theorem chP_ch (p : P3) : chP p.ch = p := by cases p <;> rfl
theorem occ (p : P3) : ∃ rest, Builtin.Str.occurrences ("abc" : Str) ⟨#[p.ch]⟩ 0 (Str.length ("abc" : Str)) 1 = p.i.toNat :: rest := by
  cases p
  · exact ⟨[], by decide +kernel⟩
  · exact ⟨[], by decide +kernel⟩
  · exact ⟨[], by decide +kernel⟩
theorem go_yes {σ : L2.St} {H : Hp} {QT : Bool → Hp → Prop} (h : QT true H) : tYes σ H QT := h
theorem ExtC.mut {c D : Addr} {H H' : Hp} {o : HO} (e : ExtC c H H') (n : H D = none) : ExtC c H (upd H' D o) := fun a u na h => by
  have : a ≠ D := fun z => by rw [z, n] at h; cases h
  rw [upd_ne this]
  exact e a u na h
theorem Cup.past {c D : Addr} {H : Hp} {o : HO} (h : Cup H c) (n : D ≠ c) : Cup (upd H D o) c := by
  obtain ⟨x, d, h1, h2⟩ := h
  exact ⟨x, d, by rw [upd_ne n.symm]; exact h1, h2⟩
theorem abc_of {x : V} (h : x ∈ [V.str ("a" : Str), V.str ("b" : Str), V.str ("c" : Str)]) : ∃ s : P3, x = .str (wd [s]) := by
  simp only [List.mem_cons, List.not_mem_nil, or_false] at h
  rcases h with rfl | rfl | rfl
  · exact ⟨.a, rfl⟩
  · exact ⟨.b, rfl⟩
  · exact ⟨.c, rfl⟩
theorem ones (ps : List P3) : (ps.map fun s => [s]).flatten = ps := by
  induction ps with
  | nil => rfl
  | cons p ps ih => rw [List.map_cons, List.flatten_cons, ih]; rfl
/-- the three orders that are drawn -/
def Ord (ns : List P3) : Prop := ns = [.a, .b, .c] ∨ ns = [.b, .c, .a] ∨ ns = [.c, .a, .b]
theorem ord_of {x : V} (h : x ∈ [V.str ("abc" : Str), V.str ("bca" : Str), V.str ("cab" : Str)]) : ∃ ns, x = .str (wd ns) ∧ Ord ns := by
  simp only [List.mem_cons, List.not_mem_nil, or_false] at h
  rcases h with rfl | rfl | rfl
  · exact ⟨[.a, .b, .c], rfl, .inl rfl⟩
  · exact ⟨[.b, .c, .a], rfl, .inr (.inl rfl)⟩
  · exact ⟨[.c, .a, .b], rfl, .inr (.inr rfl)⟩
theorem ord_fitG {ns : List P3} {top : Int} {t : T3} (o : Ord ns) (sm : Sm top t) : ∃ u : T3, FitG top 0 u ∧ (wd ns).cps.toList.map (fun c => V.int (go (chP c) t)) = tv u := by
  obtain ⟨x, y, z⟩ := t
  obtain ⟨a, b, c⟩ := sm
  rcases o with rfl | rfl | rfl
  · exact ⟨(x, y, z), ⟨.c, .a, .b, by decide, by decide, by decide, a, b, c⟩, rfl⟩
  · exact ⟨(y, z, x), ⟨.c, .b, .a, by decide, by decide, by decide, b, a, c⟩, rfl⟩
  · exact ⟨(z, x, y), ⟨.a, .b, .c, by decide, by decide, by decide, a, b, c⟩, rfl⟩
theorem fitG_huge {top : Int} {n : Nat} {t : T3} (h : FitG top n t) (h1 : 1 ≤ top) (h2 : top ≤ TOPB) (hn : n ≤ 5) : big t ≤ GR :=
  Int.le_trans (h.le h1 h2 hn) (by decide +kernel)
end At

namespace At
open L2 PyProof.Rows PySem.Spec PySem
/-! ### rows of turns, letter by letter -/
theorem rowFlat_cons (pm : List P3 × Int) (row : Row) : rowFlat (pm :: row) = rep pm.2.toNat pm.1 ++ rowFlat row := rfl
theorem rowFlat_app (r s : Row) : rowFlat (r ++ s) = rowFlat r ++ rowFlat s := by
  unfold rowFlat
  rw [List.map_append, List.flatten_append]
theorem rowWalk_flat : ∀ (row : Row) (t : T3), rowWalk t row = walk t (rowFlat row)
  | [], _ => rfl
  | pm :: row, t => by
    rw [rowFlat_cons, walk_append, walk_rep, ← rowWalk_flat row]
    rfl
theorem rowLen_flat : ∀ (row : Row), (∀ pm ∈ row, 0 ≤ pm.2) → rowLen row = ((rowFlat row).length : Nat)
  | [], _ => rfl
  | pm :: row, h => by
    have ih := rowLen_flat row fun q hq => h q (List.mem_cons_of_mem _ hq)
    have h0 := h pm List.mem_cons_self
    rw [rowFlat_cons, List.length_append, rep_length]
    show (pm.1.length : Int) * pm.2 + rowLen row = _
    rw [ih]
    obtain ⟨n, e⟩ : ∃ n : Nat, pm.2 = (n : Int) := ⟨pm.2.toNat, by omega⟩
    rw [e, Int.toNat_natCast, Int.natCast_add, Int.natCast_mul, Int.mul_comm]
def backPair (pm : List P3 × Int) : List P3 × Int := (pm.1.reverse, pm.2)
def backRow (row : Row) : Row := row.reverse.map backPair
theorem rep_rev (ps : List P3) : ∀ n : Nat, rep n ps.reverse = (rep n ps).reverse
  | 0 => rfl
  | n + 1 => by rw [rep_succ, rep_succ', List.reverse_append, rep_rev ps n]
theorem flat_back : ∀ (row : Row), rowFlat (backRow row) = (rowFlat row).reverse
  | [] => rfl
  | pm :: row => by
    have e : backRow (pm :: row) = backRow row ++ [backPair pm] := by
      unfold backRow
      rw [List.reverse_cons, List.map_append]
      rfl
    rw [e, rowFlat_app, flat_back row, rowFlat_cons pm row, List.reverse_append, ← rep_rev]
    show _ ++ (rep pm.2.toNat pm.1.reverse ++ []) = _
    rw [List.append_nil]
theorem flat_take (row : Row) (i : Nat) : ∃ j, j ≤ (rowFlat row).length ∧ rowFlat (row.take i) = (rowFlat row).take j := by
  have e : rowFlat row = rowFlat (row.take i) ++ rowFlat (row.drop i) := by rw [← rowFlat_app, List.take_append_drop]
  refine ⟨(rowFlat (row.take i)).length, ?_, ?_⟩
  · rw [e, List.length_append]; omega
  · rw [e, List.take_left]
theorem walk_back_part (L : List P3) (t : T3) (j : Nat) : walk (walk t L) (L.reverse.take j) = walk t (L.take (L.length - j)) := by
  rw [List.take_reverse]
  have e : walk t L = walk (walk t (L.take (L.length - j))) (L.drop (L.length - j)) := by rw [← walk_append, List.take_append_drop]
  rw [e, walk_back]
theorem rowWalk_back (row : Row) (t : T3) : rowWalk (rowWalk t row) (backRow row) = t := by
  rw [rowWalk_flat, rowWalk_flat, flat_back, walk_back]
/-- all on the way along a row, or back along it -/
theorem row_parts {row : Row} {t : T3} {P : T3 → Prop} (h : ∀ j, j ≤ (rowFlat row).length → P (walk t ((rowFlat row).take j))) (i : Nat) : P (rowWalk t (row.take i)) := by
  obtain ⟨j, hj, e⟩ := flat_take row i
  rw [rowWalk_flat, e]
  exact h j hj
theorem row_backs {row : Row} {t : T3} {P : T3 → Prop} (h : ∀ j, j ≤ (rowFlat row).length → P (walk t ((rowFlat row).take j))) (i : Nat) : P (rowWalk (rowWalk t row) ((backRow row).take i)) := by
  obtain ⟨j, hj, e⟩ := flat_take (backRow row) i
  rw [rowWalk_flat ((backRow row).take i), e, flat_back, rowWalk_flat row, walk_back_part]
  exact h _ (by omega)
theorem flat_len {k : Nat} : ∀ (row : Row), (∀ pm ∈ row, pm.1.length * pm.2.toNat ≤ k) → (rowFlat row).length ≤ row.length * k
  | [], _ => Nat.zero_le _
  | pm :: row, h => by
    have ih := flat_len row fun q hq => h q (List.mem_cons_of_mem _ hq)
    have h0 := h pm List.mem_cons_self
    rw [rowFlat_cons, List.length_append, rep_length, List.length_cons, Nat.succ_mul, Nat.mul_comm]
    omega
theorem rev_wd (ps : List P3) : (⟨(wd ps).cps.toList.reverse.toArray⟩ : Str) = wd ps.reverse := by
  simp [wd, List.map_reverse]
theorem PairsAt.keep {H H' : Hp} (k : ∀ a xs, H a = some (.tup xs) → H' a = some (.tup xs)) : ∀ {rs : List Addr} {row : Row}, PairsAt H rs row → PairsAt H' rs row
  | [], [], _ => trivial
  | _ :: _, _ :: _, h => ⟨k _ _ h.1, PairsAt.keep k h.2⟩
  | [], _ :: _, h => h
  | _ :: _, [], h => h
theorem PairsAt.snoc {H : Hp} {r : Addr} {pm : List P3 × Int} (hr : PairAt H r pm) : ∀ {rs : List Addr} {row : Row}, PairsAt H rs row → PairsAt H (rs ++ [r]) (row ++ [pm])
  | [], [], _ => ⟨hr, trivial⟩
  | _ :: _, _ :: _, h => ⟨h.1, PairsAt.snoc hr h.2⟩
  | [], _ :: _, h => h.elim
  | _ :: _, [], h => h.elim
theorem PairsAt.take {H : Hp} : ∀ (n : Nat) {rs : List Addr} {row : Row}, PairsAt H rs row → PairsAt H (rs.take n) (row.take n)
  | 0, _, _, _ => trivial
  | n + 1, [], [], _ => trivial
  | n + 1, _ :: _, _ :: _, h => ⟨h.1, PairsAt.take n h.2⟩
  | n + 1, [], _ :: _, h => h.elim
  | n + 1, _ :: _, [], h => h.elim
theorem PairsAt.rev {H : Hp} : ∀ {rs : List Addr} {row : Row}, PairsAt H rs row → PairsAt H rs.reverse row.reverse
  | [], [], _ => trivial
  | r :: rs, pm :: row, h => by
    (rw [List.reverse_cons, List.reverse_cons])
    exact PairsAt.snoc h.1 (PairsAt.rev h.2)
  | [], _ :: _, h => h.elim
  | _ :: _, [], h => h.elim
/-- "".join of words, its answer told -/
theorem join_is (K : PySem.W.Frag) {H : Hp} {p : Addr} {pss : List (List P3)} (h : H p = some (.lst (pss.map fun ps => V.str (wd ps)))) (hn : pss.length ≤ 1000) (hl : ∀ ps ∈ pss, ps.length ≤ 16000) :
    ∃ a p', ∃ ys : List Str, V.str ("" : Str) = .str a ∧ [V.ref p] = [.ref p'] ∧ (SqL K H p' (ys.map V.str) ∨ SqT K H p' (ys.map V.str)) ∧ (ys.map (·.length)).sum + ys.length * a.length ≤ 16777216 ∧ Txt.join a ys = wd pss.flatten := by
  obtain ⟨a, p', ys, f1, f2, f3, f4, f5⟩ := go_join (K := K) (Q := fun v _ => v = .str (wd pss.flatten)) h hn hl rfl
  exact ⟨a, p', ys, f1, f2, f3, f4, V.str.inj f5⟩
theorem PairsAt.past {H : Hp} {l : Addr} {xs ys : List V} {rs : List Addr} {row : Row} (hl : H l = some (.lst xs)) (h : PairsAt H rs row) : PairsAt (upd H l (.lst ys)) rs row :=
  h.keep fun a zs e => by
    rw [upd_ne (fun z => by rw [z, hl] at e; cases e)]
    exact e
/-- what stands for the pair at a place of a row -/
def atRow (row : Row) (f : List P3 × Int → V) (i : Nat) : V := match row[i]? with
  | some pm => f pm
  | none => .non
theorem atRow_at {row : Row} {f : List P3 × Int → V} {i : Nat} {pm : List P3 × Int} (h : row[i]? = some pm) : atRow row f i = f pm := by
  unfold atRow
  rw [h]
theorem range_map (row : Row) (n : Nat) (e : n = row.length) (f : List P3 × Int → V) : (List.range n).map (atRow row f) = row.map f := by
  subst e
  (refine List.ext_getElem (by simp) fun i h1 h2 => ?_)
  have hi : i < row.length := by simpa using h2
  rw [List.getElem_map, List.getElem_map, List.getElem_range, atRow_at (List.getElem?_eq_getElem hi)]
end At

namespace At
open L2 PyProof.Rows PySem.Spec PySem
/-! ### triples compared -/
def dat3 (t : T3) : PyData := .tuple [.int t.1, .int t.2.1, .int t.2.2]
theorem dp3 {K : PySem.W.Frag} {H : Hp} {p : Addr} {t : T3} (h : H p = some (.tup (tv t))) : Dp K H (.ref p) (dat3 t) := .tup (SqT.of h) (dp_ints [t.1, t.2.1, t.2.2])
theorem eqv1 (s : T3) : PyData.eqv (dat3 s) (dat3 s) = true := by simp [PyData.eqv, PyData.eqvAll, dat3]
theorem shaped1 (s : T3) : SeqAt.shaped (dat3 s) = true := by
  unfold SeqAt.shaped dat3
  simp only [PyData.canLay0, PyData.depth, PyData.canLayAll0, PyData.depthAll]
  rfl
theorem shaped3 (s t v : T3) : SeqAt.shaped (.list [dat3 s, dat3 t, dat3 v]) = true := by
  unfold SeqAt.shaped dat3
  simp only [PyData.canLay0, PyData.depth, PyData.canLayAll0, PyData.depthAll]
  rfl
theorem eqv3 (s t v : T3) : PyData.eqv (.list [dat3 s, dat3 t, dat3 v]) (.list [dat3 s, dat3 t, dat3 v]) = true := by simp [PyData.eqv, PyData.eqvAll, dat3]
theorem dpl3 {K : PySem.W.Frag} {H : Hp} {l p q r : Addr} {s t v : T3} (h : H l = some (.lst [.ref p, .ref q, .ref r])) (hp : H p = some (.tup (tv s))) (hq : H q = some (.tup (tv t))) (hr : H r = some (.tup (tv v))) : Dp K H (.ref l) (.list [dat3 s, dat3 t, dat3 v]) := .lst (SqL.of h) (.cons (dp3 hp) (.cons (dp3 hq) (.cons (dp3 hr) .nil)))
theorem turn_twice (p : P3) (t : T3) : turn p (turn p t) = t := walk_back [p] t
theorem twice_wd (p : P3) : ((⟨#[p.ch]⟩ : Str) ++ (⟨#[p.ch]⟩ : Str)) = wd [p, p] := by cases p <;> rfl
theorem cut_one {xs : List V} (h : 1 ≤ xs.length) : cutV xs none (some 1) = xs.take 1 := by
  unfold cutV
  show (xs.drop 0).take (min (1 : Int).toNat xs.length - 0) = _
  rw [List.drop_zero, show min (1 : Int).toNat xs.length - 0 = 1 from by
    show min 1 xs.length - 0 = 1
    omega]
theorem cut_part {n : Nat} (h : 2 ≤ n) : ¬ (HT.sIx n 0 none = 0 ∧ HT.sIx n n (some 1) = n) := by
  rintro ⟨_, e⟩
  have e : min (1 : Int).toNat n = n := e
  have : min 1 n = n := e
  omega
theorem mt2 {m : Int} (h : m ≤ 2) : m ≤ MT := Int.le_trans h (by decide +kernel)
theorem rowOk_small {row : Row} (hl : row.length ≤ 200) (h : ∀ pm ∈ row, 1 ≤ pm.1.length ∧ pm.1.length ≤ 4 ∧ 0 ≤ pm.2 ∧ pm.2 ≤ 2) : RowOk row :=
  ⟨hl, fun pm hpm => by
    obtain ⟨a, b, c, d⟩ := h pm hpm
    exact ⟨a, by omega, c, mt2 d⟩⟩
theorem backRow_len (row : Row) : (backRow row).length = row.length := by
  unfold backRow
  rw [List.length_map, List.length_reverse]
theorem rowOk_back {row : Row} (h : RowOk row) : RowOk (backRow row) :=
  ⟨by rw [backRow_len]; exact h.1, fun pm hpm => by
    obtain ⟨qm, hq, rfl⟩ := List.mem_map.mp hpm
    obtain ⟨a, b, c, d⟩ := h.2 qm (List.mem_reverse.mp hq)
    exact ⟨by show 1 ≤ qm.1.reverse.length; rw [List.length_reverse]; exact a, by show qm.1.reverse.length ≤ 12; rw [List.length_reverse]; exact b, c, d⟩⟩
theorem flat8 {row : Row} (h : ∀ pm ∈ row, 1 ≤ pm.1.length ∧ pm.1.length ≤ 4 ∧ 0 ≤ pm.2 ∧ pm.2 ≤ 2) : (rowFlat row).length ≤ row.length * 8 := flat_len row fun pm hpm => by
  obtain ⟨_, a, _, b⟩ := h pm hpm
  exact Nat.mul_le_mul a (show pm.2.toNat ≤ 2 by omega)
theorem le60 {ps : List P3} (h : ps.length ≤ 60000) : (wd ps).length ≤ sizeLine := by
  rw [show (wd ps).length = ps.length from wd_size ps, sizeLine_eq]
  omega
end At

namespace At
open L2 PyProof.Rows PySem.Spec PySem
/-! ### the law at its end -/
theorem sqL_ext {K : PySem.W.Frag} {H H' : Hp} {a : Addr} {xs : List V} (h : SqL K H a xs) (e : Ext H H') : SqL K H' a xs := by
  rcases h with h | h
  · refine .inl ?_
    rcases h with h | ⟨o, h⟩
    · exact .inl (e _ _ h)
    · exact .inr ⟨o, e _ _ h⟩
  · exact .inr h
theorem ext_cup {p : Addr} {H H2 H3 : Hp} (n : H p = none) (e : Ext H H2) (f : ExtC p H2 H3) : Ext H H3 := fun b o h => f b o (fun z => by rw [z, n] at h; cases h) (e b o h)
theorem most2 (L : Int) : 2 ≤ if (if 6 < L then 6 else L) > 2 then (if 6 < L then 6 else L) else 2 := by split <;> split <;> omega
theorem most6 (L : Int) : (if (if 6 < L then 6 else L) > 2 then (if 6 < L then 6 else L) else 2) ≤ 6 := by split <;> split <;> omega
theorem all_true (n : Nat) : ((List.range n).map fun _ => true).all id = true := by simp
end At

namespace At
open L2 PyProof.Rows PySem.Spec PySem
/-! ### words put together -/
theorem app_wd (ps qs : List P3) : (wd ps ++ wd qs : Str) = wd (ps ++ qs) := by
  show (⟨(wd ps).cps ++ (wd qs).cps⟩ : Str) = _
  rw [wd_app]
theorem adds {ps qs : List P3} (h : ps.length + qs.length ≤ 1000) : (wd ps).length + (wd qs).length ≤ sizeLine := by
  rw [show (wd ps).length = ps.length from wd_size ps, show (wd qs).length = qs.length from wd_size qs, sizeLine_eq]
  omega
theorem empty_wd : ("" : Str) = wd [] := rfl
theorem wd_nil {ps : List P3} (h : wd ps = ("" : Str)) : ps = [] := by
  have : (wd ps).cps.size = 0 := by rw [h]; rfl
  rw [wd_size] at this
  exact List.length_eq_zero_iff.mp this
/-- a word round one place, so often -/
theorem many_conj (w : List P3) (p : P3) (n : Nat) (t : T3) : many n (w ++ [p] ++ w.reverse) t = if n % 2 = 1 then walk t (w ++ [p] ++ w.reverse) else t := by
  rw [many_around, many_even]
  split
  · next h =>
    rw [h, walk_append, walk_append]
    rfl
  · next h =>
    have : n % 2 = 0 := by omega
    rw [this]
    show walk (walk t w) w.reverse = t
    rw [walk_back]
theorem many_id {ps : List P3} (h : ∀ t, walk t ps = t) : ∀ (n : Nat) (t : T3), many n ps t = t
  | 0, _ => rfl
  | n + 1, t => by
    rw [many_add, many_id h n]
    show walk t ps = t
    exact h t
theorem many_round_trip (w : List P3) (n : Nat) (t : T3) : many n (w ++ w.reverse) t = t := many_id (fun t => by rw [walk_append, walk_back]) n t
theorem walk_double (p : P3) (t : T3) : walk t [p, p] = t := turn_twice p t
theorem many_doubled (w : List P3) (p : P3) (n : Nat) (t : T3) : many n (w ++ [p] ++ [p]) t = many n w t := many_congr (fun t => by
  rw [List.append_assoc, walk_append]
  exact walk_double p _) n t
theorem many_back (w : List P3) (n : Nat) (t : T3) : many n w.reverse (many n w t) = t := by
  rw [← walk_rep, ← walk_rep, rep_rev, walk_back]
theorem fmod2 {m : Int} (h : 0 ≤ m) : m.fmod 2 = 1 ↔ m.toNat % 2 = 1 := by
  (rw [Int.fmod_eq_emod_of_nonneg _ (by decide)])
  omega
/-- a join of drawn letters: at D2 the letters so far -/
theorem letters_is (K : PySem.W.Frag) {H : Hp} {D : Addr} {pss : List P3} (h : H D = some (.lst (pss.map fun s => V.str (wd [s])))) (hn : pss.length ≤ 1000) :
    ∃ a p', ∃ ys : List Str, V.str ("" : Str) = .str a ∧ [V.ref D] = [.ref p'] ∧ (SqL K H p' (ys.map V.str) ∨ SqT K H p' (ys.map V.str)) ∧ (ys.map (·.length)).sum + ys.length * a.length ≤ 16777216 ∧ Txt.join a ys = wd pss := by
  have hJ : H D = some (.lst ((pss.map fun s => [s]).map fun ps => V.str (wd ps))) := by
    rw [h, List.map_map]
    rfl
  obtain ⟨a', p', ys, f1, f2, f3, f4, f5⟩ := join_is K hJ (by rw [List.length_map]; omega) (fun ps hps => by
    obtain ⟨s, _, rfl⟩ := List.mem_map.mp hps
    exact Nat.le_of_ble_eq_true rfl)
  exact ⟨a', p', ys, f1, f2, f3, f4, by rw [f5, ones]⟩
end At

namespace At
open L2 PyProof.Rows PySem.Spec PySem
/-! ### going down: how many turns, and what stays -/
inductive Way : Nat → T3 → T3 → Prop
  | here {t : T3} (h : ∀ p, ¬ Down p t) : Way 0 t t
  | down {n : Nat} {p : P3} {t b : T3} (d : Down p t) (w : Way n (turn p t) b) : Way (n + 1) t b
theorem Down.all {p : P3} {t : T3} (d : Down p t) (s : P3) : nat (opp s t) ≤ nat (opp p t) := by
  have h := d.top
  obtain ⟨x, y, z⟩ := t
  cases p <;> cases s <;> simp only [opp, co, go] at h ⊢ <;> omega
theorem Down.one {p q : P3} {t : T3} (a : Down p t) (b : Down q t) : q = p := top_only a.all b
theorem Down.pos {p : P3} {t : T3} (d : Down p t) : 0 < nat (opp p t) := by
  have := d.top.1
  have := d.2.1
  omega
theorem Down.other {p q : P3} {t : T3} (d : Down p t) (n : p ≠ q) : Down q (turn q t) := (beyond_turn (G := 0) ⟨d.pos, d⟩ n).2
theorem way_turn {n : Nat} {t b : T3} (q : P3) (w : Way n t b) : ∃ m c, m ≤ n + 1 ∧ Way m (turn q t) c := by
  by_cases h : ∃ p, Down p (turn q t)
  · obtain ⟨p, d⟩ := h
    by_cases e : p = q
    · subst e
      exact ⟨n + 1, b, Nat.le_refl _, .down d (by rw [turn_twice]; exact w)⟩
    · have dq := d.other e
      rw [turn_twice] at dq
      cases w with
      | here no => exact absurd dq (no q)
      | @down m p' _ _ d' w' =>
        have := d'.one dq
        subst this
        exact ⟨m, b, by omega, w'⟩
  · exact ⟨0, _, by omega, .here fun p d => h ⟨p, d⟩⟩
theorem way_walk : ∀ (ps : List P3) {n : Nat} {t b : T3}, Way n t b → ∃ m c, m ≤ n + ps.length ∧ Way m (walk t ps) c
  | [], n, _, b, w => ⟨n, b, Nat.le_refl _, w⟩
  | p :: ps, n, t, b, w => by
    obtain ⟨m, c, h1, w1⟩ := way_turn p w
    obtain ⟨k, d, h2, w2⟩ := way_walk ps w1
    exact ⟨k, d, by rw [List.length_cons]; omega, w2⟩
def szsum (t : T3) : Int := nat t.1 + nat t.2.1 + nat t.2.2
theorem szsum_tri (p : P3) (u v w : Int) : szsum (tri p u v w) = nat u + nat v + nat w := by
  cases p
  · show nat v + nat w + nat u = _; omega
  · rfl
  · show nat w + nat u + nat v = _; omega
theorem down_less {p : P3} {t : T3} (d : Down p t) : szsum (turn p t) < szsum t := by
  have e := tri_of p t
  generalize hu : co p t = u at *
  generalize hv : go p t = v at *
  generalize hw : opp p t = w at *
  obtain ⟨r, h1, h2, h3⟩ := d
  rw [hu] at h1 h3
  rw [hv] at h2 h3
  rw [hw] at h3
  rw [e] at r ⊢
  rw [turn_tri, szsum_tri, szsum_tri, nat_neg, nat_neg]
  have mn : 2 * 2 ≤ nat u * nat v := Int.mul_le_mul h1 h2 (by decide) (by omega)
  rcases (ring_tri p u v w).mp r with ⟨a1, a2, a3⟩ | ⟨a1, a2, a3⟩
  · rw [push_pos a1 a2]
    rw [nat_pos a1, nat_pos a2] at mn h3
    rw [nat_pos a3] at h3 ⊢
    have : nat (w - u * v) < w := by unfold nat; split <;> omega
    omega
  · rw [push_neg a1 a2]
    rw [nat_neg' a1, nat_neg' a2, Int.neg_mul_neg] at mn h3
    rw [nat_neg' a3] at h3 ⊢
    have : nat (w + u * v) < -w := by unfold nat; split <;> omega
    omega
theorem way_sum : ∀ (k : Nat) (t : T3), szsum t ≤ k → ∃ m b, m ≤ k ∧ Way m t b
  | 0, t, h => by
    refine ⟨0, t, Nat.le_refl _, .here fun p d => ?_⟩
    have := d.pos
    obtain ⟨x, y, z⟩ := t
    have a := nat_nonneg x
    have b := nat_nonneg y
    have c := nat_nonneg z
    have h : nat x + nat y + nat z ≤ ((0 : Nat) : Int) := h
    cases p <;> simp only [opp] at this <;> omega
  | k + 1, t, h => by
    by_cases e : ∃ p, Down p t
    · obtain ⟨p, d⟩ := e
      have := down_less d
      obtain ⟨m, b, h1, w⟩ := way_sum k (turn p t) (by omega)
      exact ⟨m + 1, b, by omega, .down d w⟩
    · exact ⟨0, t, by omega, .here fun p d => e ⟨p, d⟩⟩
/-- down by few turns: small, or at the bottom, or so behind one turn -/
def Low (t : T3) : Prop := szsum t ≤ 130 ∨ (∀ p, ¬ Down p t) ∨ ∃ p, Down p t ∧ (szsum (turn p t) ≤ 130 ∨ ∀ q, ¬ Down q (turn p t))
theorem Low.way {t : T3} (h : Low t) : ∃ m b, m ≤ 131 ∧ Way m t b := by
  rcases h with h | h | ⟨p, d, h | h⟩
  · obtain ⟨m, b, h1, w⟩ := way_sum 130 t h
    exact ⟨m, b, by omega, w⟩
  · exact ⟨0, t, by omega, .here h⟩
  · obtain ⟨m, b, h1, w⟩ := way_sum 130 _ h
    exact ⟨m + 1, b, by omega, .down d w⟩
  · exact ⟨1, _, by omega, .down d (.here h)⟩
/-- what the document says of ringed kinds: a ring with sizes of 2 and more and a mark of at most 4 -/
def Rg (t : T3) : Prop := ring t ∧ (∀ s, 2 ≤ nat (opp s t)) ∧ mk t ≤ 4
theorem rg_step {u v w : Int} (hu : 2 ≤ u) (hv : 2 ≤ v) (hw : 2 ≤ w) (h : u * u + v * v + w * w - u * v * w ≤ 4) : w ≤ u * v - 2 := by
  have uu : 2 * 2 ≤ u * u := Int.mul_le_mul hu hu (by decide) (by omega)
  have vv : 2 * 2 ≤ v * v := Int.mul_le_mul hv hv (by decide) (by omega)
  have uv : 2 * 2 ≤ u * v := Int.mul_le_mul hu hv (by decide) (by omega)
  have e : w * w - u * v * w = w * (w - u * v) := by rw [Int.mul_sub, Int.mul_comm w (u * v)]
  rcases Int.lt_or_le (u * v - 2) w with c | c
  · exfalso
    rcases Int.lt_or_le (u * v - 1) w with c1 | c1
    · have := Int.mul_nonneg (show 0 ≤ w by omega) (show 0 ≤ w - u * v by omega)
      omega
    · have e1 : w - u * v = -1 := by omega
      rw [e1] at e
      have sq := sq_nonneg (u - v)
      have e2 : (u - v) * (u - v) = u * u + v * v - 2 * (u * v) := by
        rw [Int.sub_mul, Int.mul_sub, Int.mul_sub, Int.mul_comm v u]
        omega
      omega
  · exact c
theorem Rg.tri {p : P3} {u v w : Int} : Rg (tri p u v w) ↔ ((0 < u ∧ 0 < v ∧ 0 < w) ∨ (u < 0 ∧ v < 0 ∧ w < 0)) ∧ 2 ≤ nat u ∧ 2 ≤ nat v ∧ 2 ≤ nat w ∧ mk (tri p u v w) ≤ 4 := by
  unfold Rg
  rw [ring_tri]
  constructor
  · rintro ⟨h1, h2, h3⟩
    cases p
    · exact ⟨h1, h2 .b, h2 .c, h2 .a, h3⟩
    · exact ⟨h1, h2 .c, h2 .a, h2 .b, h3⟩
    · exact ⟨h1, h2 .a, h2 .b, h2 .c, h3⟩
  · rintro ⟨h1, h2, h3, h4, h5⟩
    refine ⟨h1, fun s => ?_, h5⟩
    cases p <;> cases s <;> assumption
theorem Rg.turn {t : T3} (p : P3) (h : Rg t) : Rg (turn p t) := by
  have hm := mk_turn p t
  rw [tri_of p t] at h hm ⊢
  generalize co p t = u at *
  generalize go p t = v at *
  generalize opp p t = w at *
  obtain ⟨r, a, b, c, m⟩ := Rg.tri.mp h
  rw [turn_tri] at hm ⊢
  refine Rg.tri.mpr ⟨?_, by rw [nat_neg]; exact a, by rw [nat_neg]; exact b, ?_, by rw [hm]; exact m⟩
  all_goals
    rw [mk_tri, if_pos r] at m
    rcases r with ⟨r1, r2, r3⟩ | ⟨r1, r2, r3⟩
    · rw [nat_pos r1] at a m
      rw [nat_pos r2] at b m
      rw [nat_pos r3] at c m
      have st := rg_step a b c m
      rw [push_pos r1 r2]
      first | exact .inr ⟨by omega, by omega, by omega⟩ | (rw [nat_neg' (by omega)]; omega)
    · rw [nat_neg' r1] at a m
      rw [nat_neg' r2] at b m
      rw [nat_neg' r3] at c m
      have st := rg_step a b c (by simpa only [Int.neg_mul_neg] using m)
      rw [Int.neg_mul_neg] at st
      rw [push_neg r1 r2]
      first | exact .inl ⟨by omega, by omega, by omega⟩ | (rw [nat_pos (by omega)]; omega)
theorem Rg.iff (p : P3) (t : T3) : Rg (At.turn p t) ↔ Rg t := ⟨fun h => by have := h.turn p; rwa [turn_twice] at this, fun h => h.turn p⟩
theorem Rg.walk : ∀ (ps : List P3) (t : T3), Rg (At.walk t ps) ↔ Rg t
  | [], _ => Iff.rfl
  | p :: ps, t => by rw [walk_cons, Rg.walk ps, Rg.iff]
theorem Way.rg {n : Nat} {t b : T3} (w : Way n t b) : Rg b ↔ Rg t := by
  induction w with
  | here => exact Iff.rfl
  | down d _ ih => rw [ih, Rg.iff]
theorem Way.flat {n : Nat} {t b : T3} (w : Way n t b) : ∀ p, ¬ Down p b := by
  induction w with
  | here h => exact h
  | down _ _ ih => exact ih
/-! the sizes in order -/
theorem perm2 {α : Type} {a b x y : α} (h : [a, b].Perm [x, y]) : (a = x ∧ b = y) ∨ (a = y ∧ b = x) := by
  have m : a ∈ [x, y] := h.mem_iff.mp List.mem_cons_self
  simp only [List.mem_cons, List.not_mem_nil, or_false] at m
  rcases m with rfl | rfl
  · have := List.perm_cons _ |>.mp h
    exact .inl ⟨rfl, by simpa using this⟩
  · have h2 : [a, b].Perm [a, x] := h.trans (List.Perm.swap _ _ _)
    have := List.perm_cons _ |>.mp h2
    exact .inr ⟨rfl, by simpa using this⟩
theorem perm3 {α : Type} {a b c x y z : α} (h : [a, b, c].Perm [x, y, z]) : (a = x ∧ b = y ∧ c = z) ∨ (a = x ∧ b = z ∧ c = y) ∨ (a = y ∧ b = x ∧ c = z) ∨ (a = y ∧ b = z ∧ c = x) ∨ (a = z ∧ b = x ∧ c = y) ∨ (a = z ∧ b = y ∧ c = x) := by
  have m : a ∈ [x, y, z] := h.mem_iff.mp List.mem_cons_self
  simp only [List.mem_cons, List.not_mem_nil, or_false] at m
  rcases m with rfl | rfl | rfl
  · rcases perm2 (List.perm_cons _ |>.mp h) with ⟨rfl, rfl⟩ | ⟨rfl, rfl⟩
    · exact .inl ⟨rfl, rfl, rfl⟩
    · exact .inr (.inl ⟨rfl, rfl, rfl⟩)
  · have h2 : [a, b, c].Perm [a, x, z] := h.trans (List.Perm.swap _ _ _)
    rcases perm2 (List.perm_cons _ |>.mp h2) with ⟨rfl, rfl⟩ | ⟨rfl, rfl⟩
    · exact .inr (.inr (.inl ⟨rfl, rfl, rfl⟩))
    · exact .inr (.inr (.inr (.inl ⟨rfl, rfl, rfl⟩)))
  · have h2 : [a, b, c].Perm [a, x, y] := h.trans ((List.Perm.cons x (List.Perm.swap _ _ _)).trans (List.Perm.swap _ _ _))
    rcases perm2 (List.perm_cons _ |>.mp h2) with ⟨rfl, rfl⟩ | ⟨rfl, rfl⟩
    · exact .inr (.inr (.inr (.inr (.inl ⟨rfl, rfl, rfl⟩))))
    · exact .inr (.inr (.inr (.inr (.inr ⟨rfl, rfl, rfl⟩))))
/-- p <= q <= r, 2 r <= p q: no size is more than half the product of the others -/
theorem half_all {p q r : Int} (h0 : 0 ≤ p) (h1 : p ≤ q) (h2 : q ≤ r) (h : 2 * r ≤ p * q) : 2 * q ≤ p * r ∧ 2 * p ≤ q * r := by
  have a : p * q ≤ p * r := Int.mul_le_mul_of_nonneg_left h2 h0
  have b : p * r ≤ q * r := Int.mul_le_mul_of_nonneg_right h1 (by omega)
  omega
/-- such a ring has a mark of at most 4 -/
theorem half_mark {p q r : Int} (h0 : 2 ≤ p) (h1 : p ≤ q) (h2 : q ≤ r) (h : 2 * r ≤ p * q) : p * p + q * q + r * r - p * q * r ≤ 4 := by
  have e1 : (r - q) * (r + q - p * q) ≤ 0 := by
    have := Int.mul_nonneg (show 0 ≤ r - q by omega) (show 0 ≤ p * q - r - q by omega)
    have e : (r - q) * (r + q - p * q) = -((r - q) * (p * q - r - q)) := by rw [← Int.mul_neg]; congr 1; omega
    omega
  have e2 : (r - q) * (r + q - p * q) = r * r - q * q - (r * (p * q) - q * (p * q)) := by
    rw [Int.mul_sub, Int.sub_mul r q (r + q), Int.mul_add, Int.mul_add, Int.sub_mul r q (p * q), Int.mul_comm q r]
    omega
  have e3 : p * q * r = r * (p * q) := Int.mul_comm _ _
  have e4 : q * (p * q) = p * (q * q) := by rw [← Int.mul_assoc, Int.mul_comm q p, Int.mul_assoc]
  have pq : p * p ≤ q * q := Int.mul_le_mul h1 h1 (by omega) (by omega)
  -- p * p + 2 q * q - p * (q * q)
  have e5 : (p - 2) * (p * p) ≤ (p - 2) * (q * q) := Int.mul_le_mul_of_nonneg_left pq (by omega)
  have e6 : (p - 2) * (q * q) = p * (q * q) - 2 * (q * q) := Int.sub_mul ..
  rcases Int.lt_or_le 2 p with c | c
  · have : 1 * (p * p) ≤ (p - 2) * (p * p) := Int.mul_le_mul_of_nonneg_right (by omega) (Int.mul_nonneg (by omega) (by omega))
    omega
  · have : p = 2 := by omega
    subst this
    omega
theorem nat_ge1 {x : Int} (h : 0 < x ∨ x < 0) : 1 ≤ nat x := by unfold nat; split <;> omega
theorem ring_ge1 {x y z : Int} (r : ring (x, y, z)) : 1 ≤ nat x ∧ 1 ≤ nat y ∧ 1 ≤ nat z := by
  rcases r with ⟨a, b, c⟩ | ⟨a, b, c⟩
  · exact ⟨nat_ge1 (.inl a), nat_ge1 (.inl b), nat_ge1 (.inl c)⟩
  · exact ⟨nat_ge1 (.inr a), nat_ge1 (.inr b), nat_ge1 (.inr c)⟩
def Srt (p q r : Int) (t : T3) : Prop := [p, q, r].Perm [nat t.1, nat t.2.1, nat t.2.2] ∧ p ≤ q ∧ q ≤ r
theorem Srt.of {ms : List Int} {t : T3} (h : ms.Perm [nat t.1, nat t.2.1, nat t.2.2]) (o : ms.Pairwise (· ≤ ·)) : ∃ p q r, ms = [p, q, r] ∧ Srt p q r t := by
  have l := h.length_eq
  match ms, l, h, o with
  | [p, q, r], _, h, o =>
    simp only [List.pairwise_cons, List.mem_cons, List.not_mem_nil, or_false, forall_eq_or_imp, forall_eq] at o
    exact ⟨p, q, r, rfl, h, o.1.1, o.2.1⟩
theorem Srt.flat {p q r : Int} {t : T3} (s : Srt p q r t) (hr : ring t) : (p = 1 ∨ 2 * r ≤ p * q) ↔ ∀ s, ¬ Down s t := by
  obtain ⟨x, y, z⟩ := t
  obtain ⟨x1, y1, z1⟩ := ring_ge1 hr
  obtain ⟨pm, o1, o2⟩ := s
  have pm : [p, q, r].Perm [nat x, nat y, nat z] := pm
  have cases3 := perm3 pm
  have c1 := Int.mul_comm p q
  have c2 := Int.mul_comm p r
  have c3 := Int.mul_comm q r
  constructor
  · intro h s d
    have ls : 2 ≤ nat x ∧ 2 ≤ nat y ∧ 2 ≤ nat z := by
      have := d.least
      omega
    have p2 : 2 ≤ p := by rcases cases3 with ⟨rfl, rfl, rfl⟩ | ⟨rfl, rfl, rfl⟩ | ⟨rfl, rfl, rfl⟩ | ⟨rfl, rfl, rfl⟩ | ⟨rfl, rfl, rfl⟩ | ⟨rfl, rfl, rfl⟩ <;> omega
    have h2 : 2 * r ≤ p * q := by
      rcases h with h | h
      · omega
      · exact h
    obtain ⟨g1, g2⟩ := half_all (by omega) o1 o2 h2
    have d4 := d.2.2.2
    cases s <;> simp only [co, go, opp] at d4 <;> rcases cases3 with ⟨rfl, rfl, rfl⟩ | ⟨rfl, rfl, rfl⟩ | ⟨rfl, rfl, rfl⟩ | ⟨rfl, rfl, rfl⟩ | ⟨rfl, rfl, rfl⟩ | ⟨rfl, rfl, rfl⟩ <;> omega
  · intro no
    rcases Int.lt_or_le (p * q) (2 * r) with c | c
    · left
      rcases Int.lt_or_le 1 p with c' | c'
      · exfalso
        rcases cases3 with ⟨rfl, rfl, rfl⟩ | ⟨rfl, rfl, rfl⟩ | ⟨rfl, rfl, rfl⟩ | ⟨rfl, rfl, rfl⟩ | ⟨rfl, rfl, rfl⟩ | ⟨rfl, rfl, rfl⟩
        · exact no .b ⟨hr, by show 2 ≤ nat x; omega, by show 2 ≤ nat y; omega, by show nat x * nat y < 2 * nat z; omega⟩
        · exact no .a ⟨hr, by show 2 ≤ nat z; omega, by show 2 ≤ nat x; omega, by show nat z * nat x < 2 * nat y; omega⟩
        · exact no .b ⟨hr, by show 2 ≤ nat x; omega, by show 2 ≤ nat y; omega, by show nat x * nat y < 2 * nat z; omega⟩
        · exact no .c ⟨hr, by show 2 ≤ nat y; omega, by show 2 ≤ nat z; omega, by show nat y * nat z < 2 * nat x; omega⟩
        · exact no .a ⟨hr, by show 2 ≤ nat z; omega, by show 2 ≤ nat x; omega, by show nat z * nat x < 2 * nat y; omega⟩
        · exact no .c ⟨hr, by show 2 ≤ nat y; omega, by show 2 ≤ nat z; omega, by show nat y * nat z < 2 * nat x; omega⟩
      · rcases cases3 with ⟨rfl, rfl, rfl⟩ | ⟨rfl, rfl, rfl⟩ | ⟨rfl, rfl, rfl⟩ | ⟨rfl, rfl, rfl⟩ | ⟨rfl, rfl, rfl⟩ | ⟨rfl, rfl, rfl⟩ <;> omega
    · exact .inr c
theorem Srt.due {p q r : Int} {t : T3} (s : Srt p q r t) (no : ∀ s, ¬ Down s t) : (ring t ∧ 2 * r ≤ p * q) ↔ Rg t := by
  have s' := s
  obtain ⟨x, y, z⟩ := t
  obtain ⟨pm, o1, o2⟩ := s
  have pm : [p, q, r].Perm [nat x, nat y, nat z] := pm
  have cases3 := perm3 pm
  constructor
  · rintro ⟨hr, h⟩
    obtain ⟨x1, y1, z1⟩ := ring_ge1 hr
    have p1 : 1 ≤ p := by rcases cases3 with ⟨rfl, rfl, rfl⟩ | ⟨rfl, rfl, rfl⟩ | ⟨rfl, rfl, rfl⟩ | ⟨rfl, rfl, rfl⟩ | ⟨rfl, rfl, rfl⟩ | ⟨rfl, rfl, rfl⟩ <;> omega
    have p2 : 2 ≤ p := by
      rcases Int.lt_or_le 1 p with c | c
      · omega
      · have : p = 1 := by omega
        subst this
        omega
    have m := half_mark p2 o1 o2 h
    have ge : 2 ≤ nat x ∧ 2 ≤ nat y ∧ 2 ≤ nat z := by rcases cases3 with ⟨rfl, rfl, rfl⟩ | ⟨rfl, rfl, rfl⟩ | ⟨rfl, rfl, rfl⟩ | ⟨rfl, rfl, rfl⟩ | ⟨rfl, rfl, rfl⟩ | ⟨rfl, rfl, rfl⟩ <;> omega
    refine ⟨hr, fun s => by cases s; exact ge.2.1; exact ge.2.2; exact ge.1, ?_⟩
    have e : p * q * r = nat x * nat y * nat z := by
      clear m h
      rcases cases3 with ⟨rfl, rfl, rfl⟩ | ⟨rfl, rfl, rfl⟩ | ⟨rfl, rfl, rfl⟩ | ⟨rfl, rfl, rfl⟩ | ⟨rfl, rfl, rfl⟩ | ⟨rfl, rfl, rfl⟩ <;> ac_rfl
    have e2 : p * p + q * q + r * r = nat x * nat x + nat y * nat y + nat z * nat z := by
      clear m h e
      rcases cases3 with ⟨rfl, rfl, rfl⟩ | ⟨rfl, rfl, rfl⟩ | ⟨rfl, rfl, rfl⟩ | ⟨rfl, rfl, rfl⟩ | ⟨rfl, rfl, rfl⟩ | ⟨rfl, rfl, rfl⟩ <;> omega
    unfold mk
    rw [if_pos hr, ← nat_sq x, ← nat_sq y, ← nat_sq z]
    show nat x * nat x + nat y * nat y + nat z * nat z - nat x * nat y * nat z ≤ 4
    omega
  · rintro ⟨hr, ge, _⟩
    refine ⟨hr, ?_⟩
    have gx : 2 ≤ nat x := ge .c
    have gy : 2 ≤ nat y := ge .a
    have gz : 2 ≤ nat z := ge .b
    rcases (s'.flat hr).mpr no with h | h
    · exfalso
      rcases cases3 with ⟨rfl, rfl, rfl⟩ | ⟨rfl, rfl, rfl⟩ | ⟨rfl, rfl, rfl⟩ | ⟨rfl, rfl, rfl⟩ | ⟨rfl, rfl, rfl⟩ | ⟨rfl, rfl, rfl⟩ <;> omega
    · exact h
/-- the place opposite a tie -/
def plOf : Nat → P3
  | 0 => .c
  | 1 => .a
  | _ => .b
theorem plOf_opp (j : Nat) (hj : j < 3) (t : T3) (m : Int) (h : [nat t.1, nat t.2.1, nat t.2.2][j]? = some m) : nat (opp (plOf j) t) = m := by
  obtain ⟨x, y, z⟩ := t
  match j, hj with
  | 0, _ => exact Option.some.inj h
  | 1, _ => exact Option.some.inj h
  | 2, _ => exact Option.some.inj h
theorem plOf_down {j : Nat} (hj : j < 3) {t : T3} {m : Int} (h : [nat t.1, nat t.2.1, nat t.2.2][j]? = some m) (hm : ∀ y ∈ [nat t.1, nat t.2.1, nat t.2.2], y ≤ m) (n : ¬ ∀ s, ¬ Down s t) : Down (plOf j) t := by
  have e := plOf_opp j hj t m h
  have all : ∀ s, nat (opp s t) ≤ nat (opp (plOf j) t) := fun s => by
    rw [e]
    obtain ⟨x, y, z⟩ := t
    cases s
    · exact hm _ (by simp [opp])
    · exact hm _ (by simp [opp])
    · exact hm _ (by simp [opp])
  rcases Classical.not_forall.mp n with ⟨s, d⟩
  have d := Classical.not_not.mp d
  have := top_only all d
  rw [← this]
  exact d
/-- round the ring -/
def rot (t : T3) : T3 := (t.2.1, t.2.2, t.1)
theorem rot_down (p : P3) (t : T3) : Down p (rot t) ↔ Down (nxt p) t := by
  obtain ⟨x, y, z⟩ := t
  have r : ring (y, z, x) ↔ ring (x, y, z) := by simp only [ring]; omega
  cases p <;> simp only [Down, rot, nxt, co, go, opp, r]
theorem rot_turn (p : P3) (t : T3) : turn p (rot t) = rot (turn (nxt p) t) := by
  obtain ⟨x, y, z⟩ := t
  cases p <;> rfl
theorem rot_sum (t : T3) : szsum (rot t) = szsum t := by
  unfold szsum rot
  show nat t.2.1 + nat t.2.2 + nat t.1 = _
  omega
theorem nxt_all {P : P3 → Prop} : (∀ p, P (nxt p)) ↔ ∀ p, P p := ⟨fun h p => by cases p; exact h .c; exact h .a; exact h .b, fun h p => h _⟩
theorem rot_flat (t : T3) : (∀ p, ¬ Down p (rot t)) ↔ ∀ p, ¬ Down p t := by
  rw [← nxt_all (P := fun p => ¬ Down p t)]
  exact forall_congr' fun p => not_congr (rot_down p t)
theorem Low.rot {t : T3} (h : Low t) : Low (rot t) := by
  rcases h with h | h | ⟨p, d, h⟩
  · exact .inl (by rw [rot_sum]; exact h)
  · exact .inr (.inl ((rot_flat t).mpr h))
  · obtain ⟨q, e⟩ : ∃ q, nxt q = p := by cases p; exact ⟨.c, rfl⟩; exact ⟨.a, rfl⟩; exact ⟨.b, rfl⟩
    subst e
    refine .inr (.inr ⟨q, (rot_down q t).mpr d, ?_⟩)
    rw [rot_turn, rot_sum, rot_flat]
    exact h
theorem flat3 {x y z p q r : Int} (hx : nat x = p) (hy : nat y = q) (hz : nat z = r) (h1 : 2 ≤ p) (h2 : 2 ≤ q) (h3 : p ≤ r) (h4 : q ≤ r) (h : 2 * r ≤ p * q) : ∀ s, ¬ Down s (x, y, z) := by
  intro s d
  have a : 2 * r ≤ p * r := Int.mul_le_mul_of_nonneg_right h1 (by omega)
  have b : 2 * r ≤ q * r := Int.mul_le_mul_of_nonneg_right h2 (by omega)
  have c := Int.mul_comm r p
  have d4 := d.2.2.2
  cases s <;> simp only [co, go, opp, hx, hy, hz] at d4 <;> omega
theorem nat_of {x : Int} (h : 0 ≤ x) : nat x = x := by unfold nat; rw [if_neg (by omega)]
theorem nat_of' {x : Int} (h : 0 ≤ x) : nat (0 - x) = x := by unfold nat; split <;> omega
theorem low_pos {p q r : Int} (h1 : 2 ≤ p) (h2 : 2 ≤ q) (h3 : p ≤ r) (h4 : q ≤ r) (h : 2 * r ≤ p * q) : Low (p, q, r) :=
  .inr (.inl (flat3 (nat_of (by omega)) (nat_of (by omega)) (nat_of (by omega)) h1 h2 h3 h4 h))
theorem low_neg {p q r : Int} (h1 : 2 ≤ p) (h2 : 2 ≤ q) (h3 : p ≤ r) (h4 : q ≤ r) (h : 2 * r ≤ p * q) : Low (0 - p, 0 - q, 0 - r) :=
  .inr (.inl (flat3 (nat_of' (by omega)) (nat_of' (by omega)) (nat_of' (by omega)) h1 h2 h3 h4 h))
theorem low_one {p q z : Int} (h1 : 2 ≤ p) (h2 : 2 ≤ q) (h3 : p ≤ 41) (h4 : q ≤ 41) (hz : z = p * q / 2 ∨ z = p * q - q ∨ z = p * q + 1 ∨ z = p * q) : Low (p, q, z) := by
  have a : 2 * q ≤ p * q := Int.mul_le_mul_of_nonneg_right h1 (by omega)
  have b : p * 2 ≤ p * q := Int.mul_le_mul_of_nonneg_left h2 (by omega)
  have e : 2 * (q - 1) ≤ p * (q - 1) := Int.mul_le_mul_of_nonneg_right h1 (by omega)
  have e2 : p * (q - 1) = p * q - p := by rw [Int.mul_sub, Int.mul_one]
  have f : (p - 1) * 2 ≤ (p - 1) * q := Int.mul_le_mul_of_nonneg_left h2 (by omega)
  have f2 : (p - 1) * q = p * q - q := by rw [Int.sub_mul, Int.one_mul]
  rcases Int.lt_or_le (p * q) (2 * z) with c | c
  · have hz0 : 0 < z := by omega
    have dn : Down .b (p, q, z) := ⟨.inl ⟨by omega, by omega, hz0⟩, by show 2 ≤ nat p; rw [nat_of (by omega)]; exact h1, by show 2 ≤ nat q; rw [nat_of (by omega)]; exact h2, by show nat p * nat q < 2 * nat z; rw [nat_of (by omega), nat_of (by omega), nat_of (by omega)]; exact c⟩
    refine .inr (.inr ⟨.b, dn, .inl ?_⟩)
    have tb : turn .b (p, q, z) = (-p, -q, z - p * q) := by
      show (-p, -q, push p q z) = _
      rw [push_pos (by omega) (by omega)]
    rw [tb]
    show nat (-p) + nat (-q) + nat (z - p * q) ≤ 130
    rw [nat_neg, nat_neg, nat_of (show 0 ≤ p by omega), nat_of (show 0 ≤ q by omega)]
    have : nat (z - p * q) ≤ 41 := by
      unfold nat
      split <;> omega
    omega
  · refine low_pos h1 h2 ?_ ?_ c <;> omega
theorem low_sum {x y z : Int} (hx : nat x ≤ 43) (hy : nat y ≤ 43) (hz : nat z ≤ 43) : Low (x, y, z) := .inl (by show nat x + nat y + nat z ≤ 130; omega)
end At

namespace At
open L2 PyProof.Rows PySem.Spec PySem
/-! ### a drawn purse: a list of three ints that changes (stages 3 and 4) -/
def Purse (H : Hp) (c : Addr) : Prop := ∃ d x n : Int, H c = some (.lst [.int d, .int x, .int n]) ∧ 0 ≤ d ∧ 0 ≤ x ∧ x < 2147483543
theorem Purse.ext {c : Addr} {H H' : Hp} (h : Purse H c) (e : Ext H H') : Purse H' c := by
  obtain ⟨d, x, n, h1, h2⟩ := h
  exact ⟨d, x, n, e _ _ h1, h2⟩
theorem Purse.new {c p : Addr} {H : Hp} {o : HO} (h : Purse H c) (np : H p = none) : Purse (upd H p o) c := h.ext (Evl.Ex.new np)
theorem Purse.past {c p : Addr} {H : Hp} {o : HO} (h : Purse H c) (ne : p ≠ c) : Purse (upd H p o) c := by
  obtain ⟨d, x, n, h1, h2⟩ := h
  exact ⟨d, x, n, by rw [upd_ne (Ne.symm ne)]; exact h1, h2⟩
theorem ne_purse {c l : Addr} {H : Hp} (h : Purse H c) (n : H l = none) : l ≠ c := fun z => by
  obtain ⟨d, x, k, h1, _⟩ := h
  rw [z, h1] at n
  cases n
theorem ExtC.tupP {c a : Addr} {H H' : Hp} {xs : List V} (e : ExtC c H H') (hc : Purse H c) (h : H a = some (.tup xs)) : H' a = some (.tup xs) := e a _ (fun z => by
  obtain ⟨d, x, n, h1, _⟩ := hc
  rw [z, h1] at h
  cases h) h
theorem mixedP (x : Int) : 0 ≤ x.fmod 2147483543 ∧ x.fmod 2147483543 < 2147483543 := by
  (rw [Int.fmod_eq_emod_of_nonneg _ (by decide)])
  (exact ⟨Int.emod_nonneg _ (by decide), Int.emod_lt_of_pos _ (by decide)⟩)
end At

namespace At
open L2 PyProof.Rows PySem.Spec PySem
/-! ### webs: a square table of ints, told by a function -/
def gcdL (xs : List Int) : Int := xs.foldl (fun g x => ((Nat.gcd g.natAbs x.natAbs : Nat) : Int)) 0
theorem gcdL_take {xs : List Int} {i : Nat} {x : Int} (h : xs[i]? = some x) : gcdL (xs.take (i + 1)) = ((Nat.gcd (gcdL (xs.take i)).natAbs x.natAbs : Nat) : Int) := by
  unfold gcdL
  (rw [List.take_add_one, h, List.foldl_append])
  rfl
def rowOf (n : Nat) (f : Nat → Nat → Int) (i : Nat) : List Int := (List.range n).map (f i)
def MatAt (H : Hp) (a : Addr) (n : Nat) (f : Nat → Nat → Int) : Prop := ∃ rs : List Addr, rs.length = n ∧ H a = some (.tup (rs.map .ref)) ∧ ∀ i r, rs[i]? = some r → H r = some (.tup ((rowOf n f i).map .int))
theorem MatAt.ext {H H' : Hp} {a : Addr} {n : Nat} {f : Nat → Nat → Int} (h : MatAt H a n f) (e : Ext H H') : MatAt H' a n f := by
  obtain ⟨rs, h1, h2, h3⟩ := h
  exact ⟨rs, h1, e _ _ h2, fun i r z => e _ _ (h3 i r z)⟩
/-- the table behind a turn at p -/
def mutW (f : Nat → Nat → Int) (p i j : Nat) : Int :=
  if p = i ∨ p = j then -f i j else if 0 < f i p ∧ 0 < f p j then f i j + f i p * f p j else if f i p < 0 ∧ f p j < 0 then f i j - f i p * f p j else f i j
def WEB : Int := 10 ^ 30
theorem MatAt.row {H : Hp} {a : Addr} {n : Nat} {f : Nat → Nat → Int} (h : MatAt H a n f) {i : Nat} (hi : i < n) : ∃ (xs : List V) (r : Addr), H a = some (.tup xs) ∧ xs[i]? = some (.ref r) ∧ H r = some (.tup ((rowOf n f i).map .int)) := by
  obtain ⟨rs, h1, h2, h3⟩ := h
  have hz : i < rs.length := by omega
  exact ⟨_, rs[i], h2, by rw [List.getElem?_map, List.getElem?_eq_getElem hz]; rfl, h3 i _ (List.getElem?_eq_getElem hz)⟩
theorem rowOf_at {n : Nat} {f : Nat → Nat → Int} {i j : Nat} (hj : j < n) : ((rowOf n f i).map V.int)[j]? = some (.int (f i j)) := by
  rw [List.getElem?_map, rowOf, List.getElem?_map, List.getElem?_range hj]
  rfl

theorem eqvI {a b : Int} : eqV (V.int a) (V.int b) = decide (a = b) := by
  by_cases h : a = b
  · subst h
    rw [decide_eq_true rfl]
    exact (by simp [eqV] : eqV (V.int a) (V.int a) = true)
  · rw [decide_eq_false h]
    simp [eqV, h]
theorem inV_two {a b c : Int} : inV (.int a) [.int b, .int c] = decide (a = b ∨ a = c) := by
  have e : inV (.int a) [.int b, .int c] = (eqV (.int b) (.int a) || (eqV (.int c) (.int a) || false)) := rfl
  rw [e, eqvI, eqvI]
  by_cases h1 : b = a
  · rw [decide_eq_true h1, decide_eq_true (show a = b ∨ a = c from .inl h1.symm)]
    rfl
  · by_cases h2 : c = a
    · rw [decide_eq_false h1, decide_eq_true h2, decide_eq_true (show a = b ∨ a = c from .inr h2.symm)]
      rfl
    · rw [decide_eq_false h1, decide_eq_false h2, decide_eq_false (show ¬ (a = b ∨ a = c) by omega)]
      rfl
def flatW (n : Nat) (f : Nat → Nat → Int) (i : Nat) : List Int := (List.range i).flatMap fun k => (rowOf n f k).map nat
theorem flatW_succ {n : Nat} {f : Nat → Nat → Int} {i : Nat} : flatW n f (i + 1) = flatW n f i ++ (rowOf n f i).map nat := by
  unfold flatW
  rw [List.range_succ, List.flatMap_append]
  simp
theorem mem_flatW {n : Nat} {f : Nat → Nat → Int} {i : Nat} {m : Int} : m ∈ flatW n f i ↔ ∃ k j, k < i ∧ j < n ∧ m = nat (f k j) := by
  unfold flatW rowOf
  simp only [List.mem_flatMap, List.mem_range, List.mem_map]
  constructor
  · rintro ⟨k, hk, _, ⟨j, hj, rfl⟩, rfl⟩
    exact ⟨k, j, hk, hj, rfl⟩
  · rintro ⟨k, j, hk, hj, rfl⟩
    exact ⟨k, hk, _, ⟨j, hj, rfl⟩, rfl⟩
theorem flatW_len {n : Nat} {f : Nat → Nat → Int} : ∀ {i : Nat}, (flatW n f i).length = i * n
  | 0 => by simp [flatW]
  | i + 1 => by
    rw [flatW_succ, List.length_append, flatW_len, List.length_map, rowOf, List.length_map, List.length_range, Nat.succ_mul]
/-! a table of lists, made since H0 -/
def setW (g : Nat → Nat → Int) (k j : Nat) (v : Int) (i' j' : Nat) : Int := if i' = k ∧ j' = j then v else g i' j'
theorem rowOf_setW {n k j : Nat} {g : Nat → Nat → Int} {v : Int} : rowOf n (setW g k j v) k = (rowOf n g k).set j v := by
  unfold rowOf
  (refine List.ext_getElem (by simp) fun i h1 h2 => ?_)
  simp only [List.getElem_map, List.getElem_range, List.getElem_set, setW]
  by_cases e : j = i
  · rw [if_pos e, if_pos ⟨trivial, e.symm⟩]
  · rw [if_neg e, if_neg (fun z => e z.2.symm)]
theorem rowOf_other {n k j i : Nat} {g : Nat → Nat → Int} {v : Int} (h : i ≠ k) : rowOf n (setW g k j v) i = rowOf n g i := by
  unfold rowOf
  (refine List.map_congr_left fun x _ => ?_)
  exact if_neg fun z => h z.1
def TabAt (H0 H : Hp) (a : Addr) (n : Nat) (g : Nat → Nat → Int) : Prop := ∃ ls : List Addr, ls.length = n ∧ H0 a = none ∧ H a = some (.lst (ls.map .ref)) ∧ ls.Nodup ∧ ∀ i l, ls[i]? = some l → l ≠ a ∧ H0 l = none ∧ H l = some (.lst ((rowOf n g i).map .int))
theorem TabAt.set {H0 H : Hp} {a : Addr} {n k j : Nat} {g : Nat → Nat → Int} (h : TabAt H0 H a n g) (hk : k < n) (v : Int) : ∃ (xs : List V) (l : Addr), H a = some (.lst xs) ∧ xs[k]? = some (.ref l) ∧ H0 l = none ∧ H l = some (.lst ((rowOf n g k).map .int)) ∧ TabAt H0 (upd H l (.lst (((rowOf n g k).map V.int).set j (.int v)))) a n (setW g k j v) := by
  obtain ⟨ls, h1, h2, h3, h4, h5⟩ := h
  have hz : k < ls.length := by omega
  have hl := List.getElem?_eq_getElem hz
  obtain ⟨la, l0, lh⟩ := h5 k _ hl
  refine ⟨_, ls[k], h3, by rw [List.getElem?_map, hl]; rfl, l0, lh, ls, h1, h2, by rw [upd_ne (Ne.symm la)]; exact h3, h4, fun i l hi => ?_⟩
  obtain ⟨m1, m2, m3⟩ := h5 i l hi
  refine ⟨m1, m2, ?_⟩
  by_cases e : i = k
  · subst e
    rw [hl] at hi
    cases Option.some.inj hi
    rw [upd_same, rowOf_setW, List.map_set]
  · have ne : l ≠ ls[k] := fun z => by
      obtain ⟨hi', ei⟩ := List.getElem?_eq_some_iff.mp hi
      exact e ((List.getElem_inj h4).mp (ei.trans z))
    rw [upd_ne ne, rowOf_other e]
    exact m3
theorem ixN_nat {m j : Nat} (h : j < m) : ixN m (j : Int) = some j := by
  unfold ixN
  rw [if_pos (show (0 : Int) ≤ (j : Int) by omega), if_pos (show (j : Int) < (m : Int) by omega)]
  exact congrArg some (Int.toNat_natCast j)
theorem TabAt.congr {H0 H : Hp} {a : Addr} {n : Nat} {g g' : Nat → Nat → Int} (h : TabAt H0 H a n g) (e : ∀ i j, i < n → j < n → g i j = g' i j) : TabAt H0 H a n g' := by
  obtain ⟨ls, h1, h2, h3, h4, h5⟩ := h
  refine ⟨ls, h1, h2, h3, h4, fun i l hi => ?_⟩
  obtain ⟨m1, m2, m3⟩ := h5 i l hi
  have hn : i < n := by
    rw [← h1]
    exact (List.getElem?_eq_some_iff.mp hi).1
  have er : rowOf n g i = rowOf n g' i := List.map_congr_left fun j hj => e i j hn (List.mem_range.mp hj)
  exact ⟨m1, m2, er ▸ m3⟩
theorem gcd_fold (d : Nat) : ∀ (xs : List Int) (g : Int), ((d : Int) ∣ xs.foldl (fun g x => ((Nat.gcd g.natAbs x.natAbs : Nat) : Int)) g) ↔ ((d : Int) ∣ g ∧ ∀ x ∈ xs, (d : Int) ∣ x)
  | [], g => by simp
  | x :: xs, g => by
    have cd : ∀ y : Int, (d ∣ y.natAbs) ↔ (d : Int) ∣ y := fun y => by rw [← Int.natCast_dvd_natCast, Int.dvd_natAbs]
    rw [List.foldl_cons, gcd_fold d xs, Int.natCast_dvd_natCast, Nat.dvd_gcd_iff, cd, cd]
    simp only [List.mem_cons, forall_eq_or_imp, and_assoc]
theorem gcdL_dvd (d : Nat) (xs : List Int) : ((d : Int) ∣ gcdL xs) ↔ ∀ x ∈ xs, (d : Int) ∣ x := by
  unfold gcdL
  rw [gcd_fold]
  exact ⟨fun h => h.2, fun h => ⟨Int.dvd_zero _, h⟩⟩
theorem gcdL_nn (xs : List Int) : 0 ≤ gcdL xs := by
  have go : ∀ (xs : List Int) (g : Int), 0 ≤ g → 0 ≤ xs.foldl (fun g x => ((Nat.gcd g.natAbs x.natAbs : Nat) : Int)) g := by
    intro xs
    induction xs with
    | nil => intro g h; exact h
    | cons x xs ih => intro g _; exact ih _ (Int.natCast_nonneg _)
  exact go xs 0 (Int.le_refl _)
theorem gcdL_cast (xs : List Int) : gcdL xs = ((gcdL xs).natAbs : Int) := by
  have := gcdL_nn xs
  omega
theorem gcdL_same {xs ys : List Int} (h : ∀ d : Nat, (∀ x ∈ xs, (d : Int) ∣ x) ↔ ∀ y ∈ ys, (d : Int) ∣ y) : gcdL xs = gcdL ys := by
  have e : (gcdL xs).natAbs = (gcdL ys).natAbs := by
    refine Nat.dvd_antisymm ?_ ?_
    · have := (gcdL_dvd (gcdL xs).natAbs ys).mpr ((h _).mp ((gcdL_dvd _ xs).mp (by rw [← gcdL_cast]; exact Int.dvd_refl _)))
      rwa [gcdL_cast ys, Int.natCast_dvd_natCast] at this
    · have := (gcdL_dvd (gcdL ys).natAbs xs).mpr ((h _).mpr ((gcdL_dvd _ ys).mp (by rw [← gcdL_cast]; exact Int.dvd_refl _)))
      rwa [gcdL_cast xs, Int.natCast_dvd_natCast] at this
  rw [gcdL_cast xs, gcdL_cast ys, e]
theorem row_dvd {n : Nat} {f : Nat → Nat → Int} {i : Nat} {d : Int} : (∀ x ∈ rowOf n f i, d ∣ x) ↔ ∀ j, j < n → d ∣ f i j := by
  unfold rowOf
  (simp only [List.mem_map, List.mem_range])
  constructor
  · intro h j hj
    exact h _ ⟨j, hj, rfl⟩
  · rintro h x ⟨j, hj, rfl⟩
    exact h j hj
theorem gcdL_turn {n p i : Nat} {f : Nat → Nat → Int} (hp : p < n) : gcdL (rowOf n (mutW f p) i) = gcdL (rowOf n f i) := by
  refine gcdL_same fun d => ?_
  rw [row_dvd, row_dvd]
  by_cases hi : p = i
  · subst hi
    have e : ∀ j, mutW f p p j = -f p j := fun j => if_pos (.inl rfl)
    simp only [e, Int.dvd_neg]
  · have hpp : mutW f p i p = -f i p := if_pos (.inr rfl)
    have key : ∀ j, (d : Int) ∣ f i p → ((d : Int) ∣ mutW f p i j ↔ (d : Int) ∣ f i j) := fun j h => by
      have hm : (d : Int) ∣ f i p * f p j := Int.dvd_mul_of_dvd_left h
      unfold mutW
      split
      · exact Int.dvd_neg
      · split
        · exact ⟨fun z => by have := Int.dvd_sub z hm; rwa [Int.add_sub_cancel] at this, fun z => Int.dvd_add z hm⟩
        · split
          · exact ⟨fun z => by have := Int.dvd_add z hm; rwa [Int.sub_add_cancel] at this, fun z => Int.dvd_sub z hm⟩
          · exact Iff.rfl
    constructor
    · intro h j hj
      have h1 := h p hp
      rw [hpp, Int.dvd_neg] at h1
      exact (key j h1).mp (h j hj)
    · intro h j hj
      exact (key j (h p hp)).mpr (h j hj)
/-! what stays where only a purse changes -/
theorem TabAt.extC {H0 H H' : Hp} {c a : Addr} {n : Nat} {g : Nat → Nat → Int} (h : TabAt H0 H a n g) (hc : Purse H0 c) (e : ExtC c H H') : TabAt H0 H' a n g := by
  obtain ⟨ls, h1, h2, h3, h4, h5⟩ := h
  refine ⟨ls, h1, h2, e _ _ (ne_purse hc h2) h3, h4, fun i l hi => ?_⟩
  obtain ⟨m1, m2, m3⟩ := h5 i l hi
  exact ⟨m1, m2, e _ _ (ne_purse hc m2) m3⟩
theorem MatAt.extC {H H' : Hp} {c a : Addr} {n : Nat} {f : Nat → Nat → Int} (h : MatAt H a n f) (hc : Purse H c) (e : ExtC c H H') : MatAt H' a n f := by
  obtain ⟨rs, h1, h2, h3⟩ := h
  exact ⟨rs, h1, e.tupP hc h2, fun i r z => e.tupP hc (h3 i r z)⟩
theorem ExtC.mutP {c l : Addr} {H H' : Hp} {o : HO} (e : ExtC c H H') (n : H l = none) : ExtC c H (upd H' l o) := fun a u ne h => by
  rw [upd_ne (fun z => by rw [z, n] at h; cases h)]
  exact e a u ne h
theorem ExtC.nw {c l : Addr} {H H' : Hp} {o : HO} (e : ExtC c H H') (n : H' l = none) : ExtC c H (upd H' l o) := e.trans (ExtC.new n)
theorem rep_zeroW {n k : Nat} : (List.replicate (n : Int).toNat [V.int 0]).flatten = (rowOf n (fun _ _ => 0) k).map V.int := by
  rw [Int.toNat_natCast]
  unfold rowOf
  rw [List.map_map]
  induction n with
  | zero => rfl
  | succ n ih =>
    rw [List.replicate_succ', List.flatten_append, ih, List.range_succ, List.map_append]
    rfl
/-- both items of a pair at once -/
def symW (g : Nat → Nat → Int) (k j : Nat) (v : Int) : Nat → Nat → Int := setW (setW g k j v) j k (-v)
theorem symW_skew {g : Nat → Nat → Int} {k j : Nat} {v : Int} (ne : j ≠ k) (sk : ∀ i j, g i j = -g j i) (x y : Nat) : symW g k j v x y = -symW g k j v y x := by
  have h := sk x y
  unfold symW setW
  by_cases c1 : x = j ∧ y = k
  · rw [if_pos c1, if_neg (by omega), if_pos (by omega)]
  · rw [if_neg c1]
    by_cases c2 : x = k ∧ y = j
    · rw [if_pos c2, if_pos (by omega), Int.neg_neg]
    · rw [if_neg c2, if_neg (by omega), if_neg (by omega)]
      exact h
theorem symW_le {g : Nat → Nat → Int} {k j : Nat} {v B : Int} (hv : nat v ≤ B) (hg : ∀ i j, nat (g i j) ≤ B) (x y : Nat) : nat (symW g k j v x y) ≤ B := by
  unfold symW setW
  by_cases c1 : x = j ∧ y = k
  · rw [if_pos c1, nat_neg]
    exact hv
  · rw [if_neg c1]
    by_cases c2 : x = k ∧ y = j
    · rw [if_pos c2]
      exact hv
    · rw [if_neg c2]
      exact hg x y
theorem nat_lt {x B : Int} (h1 : -B ≤ x) (h2 : x ≤ B) : nat x ≤ B := by unfold nat; split <;> omega
theorem nat_bd {x B : Int} (h : nat x ≤ B) : -B ≤ x ∧ x ≤ B := by unfold nat at h; split at h <;> omega
theorem dvd_natI {d x : Int} : d ∣ nat x ↔ d ∣ x := by
  unfold nat
  split
  · exact Int.dvd_neg
  · exact Iff.rfl
/-- the sizes of a row, zeros left out -/
def sizesL (xs : List Int) : List Int := (xs.filter fun x => decide (x ≠ 0)).map nat
theorem mem_sizesL {xs : List Int} {s : Int} : s ∈ sizesL xs ↔ ∃ x ∈ xs, x ≠ 0 ∧ s = nat x := by
  unfold sizesL
  simp only [List.mem_map, List.mem_filter, decide_eq_true_eq]
  constructor
  · rintro ⟨x, ⟨h1, h2⟩, rfl⟩
    exact ⟨x, h1, h2, rfl⟩
  · rintro ⟨x, h1, h2, rfl⟩
    exact ⟨x, ⟨h1, h2⟩, rfl⟩
theorem sizesL_dvd {xs : List Int} {d : Int} : (∀ s ∈ sizesL xs, d ∣ s) ↔ ∀ x ∈ xs, d ∣ x := by
  constructor
  · intro h x hx
    by_cases z : x = 0
    · rw [z]
      exact Int.dvd_zero _
    · exact dvd_natI.mp (h _ (mem_sizesL.mpr ⟨x, hx, z, rfl⟩))
  · intro h s hs
    obtain ⟨x, hx, _, rfl⟩ := mem_sizesL.mp hs
    exact dvd_natI.mpr (h x hx)
theorem sizesL_pos {xs : List Int} {s : Int} (h : s ∈ sizesL xs) : 0 < s := by
  obtain ⟨x, _, z, rfl⟩ := mem_sizesL.mp h
  unfold nat
  split <;> omega
theorem gcdL_none {xs : List Int} (h : sizesL xs = []) : gcdL xs = 0 := by
  have e : (0 : Int) ∣ gcdL xs := (gcdL_dvd 0 xs).mpr (sizesL_dvd.mp (by rw [h]; intro s hs; cases hs))
  exact Int.zero_dvd.mp e
theorem gcdL_most {xs : List Int} {s m : Int} (hs : s ∈ sizesL xs) (hm : 1 ≤ m ∧ (∀ s ∈ sizesL xs, m ∣ s)) (hall : ∀ k, 1 ≤ k → k ≤ s → (∀ s ∈ sizesL xs, k ∣ s) → k ≤ m) : m = gcdL xs := by
  have hd : ∀ x ∈ xs, gcdL xs ∣ x := by
    have := (gcdL_dvd (gcdL xs).natAbs xs).mp (by rw [← gcdL_cast]; exact Int.dvd_refl _)
    rwa [← gcdL_cast] at this
  have hg := sizesL_dvd.mpr hd
  have sp := sizesL_pos hs
  have gs := hg s hs
  have g0 := gcdL_nn xs
  have g1 : gcdL xs ≠ 0 := fun z => by
    rw [z] at gs
    exact absurd (Int.zero_dvd.mp gs) (by omega)
  have gle := Int.le_of_dvd sp gs
  have h1 := hall (gcdL xs) (by omega) gle hg
  have h2 : m ∣ gcdL xs := by
    have := (gcdL_dvd m.natAbs xs).mpr (by rw [show (m.natAbs : Int) = m by omega]; exact sizesL_dvd.mp hm.2)
    rwa [show (m.natAbs : Int) = m by omega] at this
  have h3 := Int.le_of_dvd (by omega) h2
  omega
/-! what repr asks of data -/
structure Tx (k m : Nat) (d : PyData) : Prop where
  sh : d.showable = true
  nd : d.hasDict = false
  dp : d.depth ≤ k
  lv : d.leavesShort 1921 = true
  bk : d.bulk ≤ m
theorem Tx.up {k m k' m' : Nat} {d : PyData} (h : Tx k m d) (hk : k ≤ k') (hm : m ≤ m') : Tx k' m' d := ⟨h.sh, h.nd, Nat.le_trans h.dp hk, h.lv, Nat.le_trans h.bk hm⟩
theorem Tx.int {i : Int} (h : i.natAbs.log2 < 1920) : Tx 0 0 (.int i) := by
  refine ⟨by simp [PyData.showable, h], by simp [PyData.hasDict], by simp [PyData.depth], ?_, by simp [PyData.bulk]⟩
  have := int_text_len_1921 h
  simpa [PyData.leavesShort, PyData.shown] using this
theorem Tx.bool {b : Bool} : Tx 0 0 (.bool b) := by
  refine ⟨by simp [PyData.showable], by simp [PyData.hasDict], by simp [PyData.depth], by simp [PyData.leavesShort], by simp [PyData.bulk]⟩
theorem Tx.none : Tx 0 0 .none := by
  refine ⟨by simp [PyData.showable], by simp [PyData.hasDict], by simp [PyData.depth], by simp [PyData.leavesShort], by simp [PyData.bulk]⟩
theorem tx_all {k m : Nat} : ∀ {ds : List PyData}, (∀ d ∈ ds, Tx k m d) → PyData.showableAll ds = true ∧ PyData.hasDictAll ds = false ∧ PyData.depthAll ds ≤ k ∧ PyData.leavesShortAll 1921 ds = true ∧ PyData.bulkAll ds ≤ ds.length * (m + 1)
  | [], _ => by simp [PyData.showableAll, PyData.hasDictAll, PyData.depthAll, PyData.leavesShortAll, PyData.bulkAll]
  | d :: ds, h => by
    have a := h d List.mem_cons_self
    obtain ⟨b1, b2, b3, b4, b5⟩ := tx_all fun e he => h e (List.mem_cons_of_mem _ he)
    refine ⟨by simp [PyData.showableAll, a.sh, b1], by simp [PyData.hasDictAll, a.nd, b2], ?_, by simp [PyData.leavesShortAll, a.lv, b4], ?_⟩
    · simp only [PyData.depthAll]
      have := a.dp
      omega
    · simp only [PyData.bulkAll, List.length_cons, Nat.succ_mul]
      have := a.bk
      omega
theorem Tx.tuple {k m n : Nat} {ds : List PyData} (h : ∀ d ∈ ds, Tx k m d) (hn : ds.length ≤ n) : Tx (k + 1) (n * (m + 1)) (.tuple ds) := by
  obtain ⟨b1, b2, b3, b4, b5⟩ := tx_all h
  have := Nat.mul_le_mul_right (m + 1) hn
  exact ⟨by simp [PyData.showable, b1], by simp [PyData.hasDict, b2], by simp only [PyData.depth]; omega, by simp [PyData.leavesShort, b4], by simp only [PyData.bulk]; omega⟩
theorem Tx.list {k m n : Nat} {ds : List PyData} (h : ∀ d ∈ ds, Tx k m d) (hn : ds.length ≤ n) : Tx (k + 1) (n * (m + 1)) (.list ds) := by
  obtain ⟨b1, b2, b3, b4, b5⟩ := tx_all h
  have := Nat.mul_le_mul_right (m + 1) hn
  exact ⟨by simp [PyData.showable, b1], by simp [PyData.hasDict, b2], by simp only [PyData.depth]; omega, by simp [PyData.leavesShort, b4], by simp only [PyData.bulk]; omega⟩
theorem Tx.ok {k m : Nat} {d : PyData} (h : Tx k m d) (hk : k ≤ 20) (hm : m ≤ 8000) : d.showable = true ∧ d.hasDict = false ∧ d.depth ≤ 20 ∧ d.shown.length ≤ sizeLine := by
  refine ⟨h.sh, h.nd, Nat.le_trans h.dp hk, ?_⟩
  have all := PyData.shown_le_bulk 1921 (by decide) _ h.lv
  have := h.bk
  rw [sizeLine_eq]
  omega
theorem log_of {i B : Int} (h : nat i ≤ B) (hB : B ≤ 2 ^ 1000) : i.natAbs.log2 < 1920 := by
  by_cases z : i.natAbs = 0
  · rw [z]
    decide
  · have h2 : (i.natAbs : Int) ≤ 2 ^ 1000 := by
      have : (i.natAbs : Int) = nat i := by unfold nat; split <;> omega
      omega
    have h3 : i.natAbs ≤ 2 ^ 1000 := by exact_mod_cast h2
    exact Nat.lt_trans ((Nat.log2_lt z).mpr (Nat.lt_of_le_of_lt h3 (Nat.pow_lt_pow_right (by decide) (by decide : 1000 < 1001)))) (by decide)
theorem tx_ints {xs : List Int} {B : Int} {n : Nat} (hl : xs.length ≤ n) (hb : ∀ x ∈ xs, nat x ≤ B) (hB : B ≤ 2 ^ 1000) : Tx 1 n (.tuple (xs.map .int)) := by
  have := Tx.tuple (k := 0) (m := 0) (n := n) (ds := xs.map PyData.int) (fun d hd => by
    obtain ⟨x, hx, rfl⟩ := List.mem_map.mp hd
    exact Tx.int (log_of (hb x hx) hB)) (by rw [List.length_map]; exact hl)
  rwa [Nat.mul_one] at this
theorem mutW_skew {f : Nat → Nat → Int} {p : Nat} (sk : ∀ i j, f i j = -f j i) (i j : Nat) : mutW f p i j = -mutW f p j i := by
  have h1 := sk i j
  have h2 := sk i p
  have h3 := sk p j
  have e : f j p * f p i = f i p * f p j := by rw [h2, h3, Int.neg_mul_neg, Int.mul_comm]
  unfold mutW
  rw [e]
  generalize f i p * f p j = m
  by_cases c : p = i ∨ p = j
  · rw [if_pos c, if_pos (show p = j ∨ p = i by omega), h1]
  · rw [if_neg c, if_neg (show ¬ (p = j ∨ p = i) by omega)]
    by_cases c1 : 0 < f i p ∧ 0 < f p j
    · rw [if_pos c1, if_neg (show ¬ (0 < f j p ∧ 0 < f p i) by omega), if_pos (show f j p < 0 ∧ f p i < 0 by omega)]
      omega
    · rw [if_neg c1]
      by_cases c2 : f i p < 0 ∧ f p j < 0
      · rw [if_pos c2, if_pos (show 0 < f j p ∧ 0 < f p i by omega)]
        omega
      · rw [if_neg c2, if_neg (show ¬ (0 < f j p ∧ 0 < f p i) by omega), if_neg (show ¬ (f j p < 0 ∧ f p i < 0) by omega)]
        exact h1
/-- nothing outside of the table -/
def Flat (n : Nat) (f : Nat → Nat → Int) : Prop := ∀ i j, n ≤ i ∨ n ≤ j → f i j = 0
def cutW (n : Nat) (f : Nat → Nat → Int) (i j : Nat) : Int := if i < n ∧ j < n then f i j else 0
theorem cutW_flat {n : Nat} {f : Nat → Nat → Int} : Flat n (cutW n f) := fun i j h => if_neg (by omega)
theorem cutW_le {n : Nat} {f : Nat → Nat → Int} {B : Int} (h : ∀ i j, nat (f i j) ≤ B) (i j : Nat) : nat (cutW n f i j) ≤ B := by
  unfold cutW
  split
  · exact h i j
  · exact Int.le_trans (Int.le_refl 0) (Int.le_trans (nat_nonneg _) (h i j))
theorem cutW_skew {n : Nat} {f : Nat → Nat → Int} (h : ∀ i j, f i j = -f j i) (i j : Nat) : cutW n f i j = -cutW n f j i := by
  unfold cutW
  by_cases c : i < n ∧ j < n
  · rw [if_pos c, if_pos (by omega)]
    exact h i j
  · rw [if_neg c, if_neg (by omega)]
    rfl
theorem MatAt.cut {H : Hp} {a : Addr} {n : Nat} {f : Nat → Nat → Int} (h : MatAt H a n f) : MatAt H a n (cutW n f) := by
  obtain ⟨rs, h1, h2, h3⟩ := h
  refine ⟨rs, h1, h2, fun i r z => ?_⟩
  have hi : i < n := by
    rw [← h1]
    exact (List.getElem?_eq_some_iff.mp z).1
  have e : rowOf n (cutW n f) i = rowOf n f i := List.map_congr_left fun j hj => if_pos ⟨hi, List.mem_range.mp hj⟩
  rw [e]
  exact h3 i r z
theorem Flat.turn {n p : Nat} {f : Nat → Nat → Int} (h : Flat n f) : Flat n (mutW f p) := fun i j c => by
  have h1 := h i j c
  unfold mutW
  by_cases c0 : p = i ∨ p = j
  · rw [if_pos c0, h1]
    rfl
  · rw [if_neg c0]
    rcases c with c | c
    · rw [h i p (.inl c), if_neg (by omega), if_neg (by omega)]
      exact h1
    · rw [h p j (.inr c), if_neg (by omega), if_neg (by omega)]
      exact h1
theorem flat_le {n : Nat} {f : Nat → Nat → Int} {B : Int} (fl : Flat n f) (h0 : 0 ≤ B) (h : ∀ i j, i < n → j < n → nat (f i j) ≤ B) (i j : Nat) : nat (f i j) ≤ B := by
  by_cases c : i < n ∧ j < n
  · exact h i j c.1 c.2
  · rw [fl i j (by omega)]
    exact h0
theorem gcdL_le {xs : List Int} {B : Int} (h0 : 0 ≤ B) (h : ∀ x ∈ xs, nat x ≤ B) : nat (gcdL xs) ≤ B := by
  cases hs : sizesL xs with
  | nil =>
    rw [gcdL_none hs]
    exact h0
  | cons s ss =>
    have hm : s ∈ sizesL xs := by rw [hs]; exact List.mem_cons_self
    obtain ⟨x, hx, _, rfl⟩ := mem_sizesL.mp hm
    have hd : ∀ x ∈ xs, gcdL xs ∣ x := by
      have := (gcdL_dvd (gcdL xs).natAbs xs).mp (by rw [← gcdL_cast]; exact Int.dvd_refl _)
      rwa [← gcdL_cast] at this
    have gle := Int.le_of_dvd (sizesL_pos hm) (sizesL_dvd.mpr hd _ hm)
    have g0 := gcdL_nn xs
    have : nat (gcdL xs) = gcdL xs := by unfold nat; rw [if_neg (by omega)]
    have := h x hx
    omega
def keptW (n : Nat) (f : Nat → Nat → Int) : List Int := (List.range n).map fun i => gcdL (rowOf n f i)
theorem keptW_turn {n p : Nat} {f : Nat → Nat → Int} (hp : p < n) : keptW n (mutW f p) = keptW n f := List.map_congr_left fun i _ => gcdL_turn hp
theorem row_le {n : Nat} {f : Nat → Nat → Int} {B : Int} {i : Nat} (h : ∀ i j, nat (f i j) ≤ B) : ∀ x ∈ rowOf n f i, nat x ≤ B := fun x hx => by
  obtain ⟨j, _, rfl⟩ := List.mem_map.mp hx
  exact h i j
theorem keptW_le {n : Nat} {f : Nat → Nat → Int} {B : Int} (h0 : 0 ≤ B) (h : ∀ i j, nat (f i j) ≤ B) : ∀ x ∈ keptW n f, nat x ≤ B := fun x hx => by
  obtain ⟨i, _, rfl⟩ := List.mem_map.mp hx
  exact gcdL_le h0 (row_le h)
theorem keptW_at {n : Nat} {f : Nat → Nat → Int} : ((List.range n).map fun i => V.int (gcdL (rowOf n f i))) = (keptW n f).map .int := by
  unfold keptW
  rw [List.map_map]
  rfl
theorem keptW_tx {n : Nat} {f : Nat → Nat → Int} {B : Int} (hn : n ≤ 5) (h0 : 0 ≤ B) (hB : B ≤ 2 ^ 1000) (h : ∀ i j, nat (f i j) ≤ B) : Tx 1 5 (.tuple ((keptW n f).map .int)) := tx_ints (by unfold keptW; rw [List.length_map, List.length_range]; exact hn) (keptW_le h0 h) hB
/-- a web's instance -/
def WebAt (K : PySem.W.Frag) (H : Hp) (s : Addr) (n : Nat) (f : Nat → Nat → Int) : Prop := ∃ dx a, H s = some (.ins (He.ga K "Web") dx [("_rows", .ref a)]) ∧ MatAt H a n f
theorem WebAt.ext {K : PySem.W.Frag} {H H' : Hp} {s : Addr} {n : Nat} {f : Nat → Nat → Int} (h : WebAt K H s n f) (e : Ext H H') : WebAt K H' s n f := by
  obtain ⟨dx, a, h1, h2⟩ := h
  exact ⟨dx, a, e _ _ h1, h2.ext e⟩
theorem ExtC.insP {c a C dx : Addr} {H H' : Hp} {fs : List (Str × V)} (e : ExtC c H H') (hc : Purse H c) (h : H a = some (.ins C dx fs)) : H' a = some (.ins C dx fs) := e a _ (fun z => by
  obtain ⟨d, x, n, h1, _⟩ := hc
  rw [z, h1] at h
  cases h) h
theorem WebAt.extC {K : PySem.W.Frag} {H H' : Hp} {c s : Addr} {n : Nat} {f : Nat → Nat → Int} (h : WebAt K H s n f) (hc : Purse H c) (e : ExtC c H H') : WebAt K H' s n f := by
  obtain ⟨dx, a, h1, h2⟩ := h
  exact ⟨dx, a, e.insP hc h1, h2.extC hc e⟩
/-- the web of zeros and fours -/
def zeroF (i j : Nat) : Int := if i = 1 ∧ j = 2 then 4 else if i = 2 ∧ j = 1 then -4 else 0
theorem zeroF_flat : Flat 3 zeroF := fun i j h => by
  unfold zeroF
  (rw [if_neg (by omega), if_neg (by omega)])
theorem zeroF_skew (i j : Nat) : zeroF i j = -zeroF j i := by
  unfold zeroF
  by_cases c1 : i = 1 ∧ j = 2
  · rw [if_pos c1, if_neg (by omega), if_pos (by omega)]
    rfl
  · rw [if_neg c1]
    by_cases c2 : i = 2 ∧ j = 1
    · rw [if_pos c2, if_pos (by omega)]
    · rw [if_neg c2, if_neg (by omega), if_neg (by omega)]
      rfl
theorem zeroF_le (i j : Nat) : nat (zeroF i j) ≤ WEB := by
  unfold zeroF
  split
  · decide
  · split <;> decide
theorem zeroF_turn (i j : Nat) : nat (mutW zeroF 1 i j) ≤ WEB := flat_le zeroF_flat.turn (by decide) (fun i j hi hj => by
  match i, j, hi, hj with
  | 0, 0, _, _ => decide
  | 0, 1, _, _ => decide
  | 0, 2, _, _ => decide
  | 1, 0, _, _ => decide
  | 1, 1, _, _ => decide
  | 1, 2, _, _ => decide
  | 2, 0, _, _ => decide
  | 2, 1, _, _ => decide
  | 2, 2, _, _ => decide) i j
theorem zeroF_kept : keptW 3 zeroF = [0, 4, 4] := by decide +kernel
theorem zeroF_mat {H : Hp} {a p q r : Addr} (ha : H a = some (.tup [.ref p, .ref q, .ref r])) (hp : H p = some (.tup [.int 0, .int 0, .int 0])) (hq : H q = some (.tup [.int 0, .int 0, .int 4])) (hr : H r = some (.tup [.int 0, .int (-4), .int 0])) : MatAt H a 3 zeroF := by
  refine ⟨[p, q, r], rfl, ha, fun i x hx => ?_⟩
  match i, hx with
  | 0, hx => cases Option.some.inj hx; exact hp
  | 1, hx => cases Option.some.inj hx; exact hq
  | 2, hx => cases Option.some.inj hx; exact hr
end At

namespace At
/-! ### the foot: no turn leads down; what turns within it lead to -/
def Foot (t : T3) : Prop := ∀ p, ¬ Down p t
inductive FR (e : T3) : T3 → Prop
  | here : FR e e
  | step {u : T3} {p : P3} (h : FR e u) (f : Foot (turn p u)) : FR e (turn p u)
theorem FR.trans {a b c : T3} (h : FR a b) (k : FR b c) : FR a c := by
  induction k with
  | here => exact h
  | step _ f ih => exact .step ih f
theorem FR.foot {e u : T3} (fe : Foot e) (h : FR e u) : Foot u := by
  cases h with
  | here => exact fe
  | step _ f => exact f
theorem FR.symm {e u : T3} (fe : Foot e) (h : FR e u) : FR u e := by
  induction h with
  | here => exact .here
  | @step u p h f ih =>
    have e1 : FR (turn p u) u := by
      have := FR.step (e := turn p u) (p := p) .here (by rw [turn_turn]; exact h.foot fe)
      rwa [turn_turn] at this
    exact e1.trans ih
theorem FR.same {a b : T3} (fa : Foot a) (h : FR a b) (u : T3) : FR a u ↔ FR b u := ⟨fun k => (h.symm fa).trans k, fun k => h.trans k⟩
theorem FR.mk {e u : T3} (h : FR e u) : mk u = mk e := by
  induction h with
  | here => rfl
  | step _ _ ih => rw [mk_turn, ih]
theorem FR.big {e u : T3} {B : Int} (hB : 0 ≤ B) (hm : 4 * At.mk e ≤ 3 * (B * B)) (hb : big e ≤ B) (h : FR e u) : big u ≤ B := by
  induction h with
  | here => exact hb
  | @step u p h f ih => exact bound_turn (G := B) (Int.le_refl _) hB (by rw [h.mk]; exact hm) ih fun b => f p b.2
theorem way_foot {n : Nat} {t b : T3} (w : Way n t b) : Foot b := by
  induction w with
  | here h => exact h
  | down _ _ ih => exact ih
theorem way_one {n m : Nat} {t b c : T3} (w : Way n t b) (v : Way m t c) : n = m ∧ b = c := by
  induction w generalizing m c with
  | here h =>
    cases v with
    | here _ => exact ⟨rfl, rfl⟩
    | down d _ => exact absurd d (h _)
  | @down n p t b d w ih =>
    cases v with
    | here h => exact absurd d (h _)
    | @down m q _ _ d2 v =>
      have := d.one d2
      subst this
      obtain ⟨rfl, rfl⟩ := ih v
      exact ⟨rfl, rfl⟩
theorem way_link {n : Nat} {t b : T3} (q : P3) (w : Way n t b) : ∃ m c, m ≤ n + 1 ∧ Way m (turn q t) c ∧ FR b c := by
  by_cases h : ∃ p, Down p (turn q t)
  · obtain ⟨p, d⟩ := h
    by_cases e : p = q
    · subst e
      exact ⟨n + 1, b, Nat.le_refl _, .down d (by rw [turn_twice]; exact w), .here⟩
    · have dq := d.other e
      rw [turn_twice] at dq
      cases w with
      | here no => exact absurd dq (no q)
      | @down m p' _ _ d' w' =>
        have := d'.one dq
        subst this
        exact ⟨m, b, by omega, w', .here⟩
  · have ft : Foot (turn q t) := fun p d => h ⟨p, d⟩
    cases w with
    | here no => exact ⟨0, _, by omega, .here ft, .step .here ft⟩
    | @down m p' _ _ d' w' =>
      by_cases e : p' = q
      · subst e
        obtain ⟨rfl, rfl⟩ := way_one w' (.here ft)
        exact ⟨0, _, by omega, .here ft, .here⟩
      · exact absurd (d'.other e) (ft q)
theorem way_links : ∀ (ps : List P3) {n : Nat} {t b : T3}, Way n t b → ∃ m c, m ≤ n + ps.length ∧ Way m (walk t ps) c ∧ FR b c
  | [], n, _, b, w => ⟨n, b, Nat.le_refl _, w, .here⟩
  | p :: ps, n, t, b, w => by
    obtain ⟨m, c, h1, w1, l1⟩ := way_link p w
    obtain ⟨k, d, h2, w2, l2⟩ := way_links ps w1
    exact ⟨k, d, by rw [List.length_cons]; omega, w2, l1.trans l2⟩
/-! ### a foot has at most 36 members -/
theorem nat_two (x : Int) : (0 ≤ x ∧ nat x = x) ∨ (x < 0 ∧ nat x = -x) := by unfold nat; split <;> omega
theorem push_by1 {v w u : Int} (hw : w = 1 ∨ w = -1) : (w = 1 ∧ ((0 < v ∧ push v w u = u - v) ∨ (v ≤ 0 ∧ push v w u = u))) ∨ (w = -1 ∧ ((v < 0 ∧ push v w u = u - v) ∨ (0 ≤ v ∧ push v w u = u))) := by
  rcases hw with rfl | rfl
  · refine .inl ⟨rfl, ?_⟩
    by_cases h : 0 < v
    · exact .inl ⟨h, by rw [push_pos h (by decide), Int.mul_one]⟩
    · refine .inr ⟨by omega, ?_⟩
      unfold push
      (rw [if_neg (by omega), if_neg (by omega)])
  · refine .inr ⟨rfl, ?_⟩
    by_cases h : v < 0
    · exact .inl ⟨h, by rw [push_neg h (by decide), Int.mul_neg, Int.mul_one]; rfl⟩
    · refine .inr ⟨by omega, ?_⟩
      unfold push
      (rw [if_neg (by omega), if_neg (by omega)])
def R3 (u v w : Int) : Prop := (0 < u ∧ 0 < v ∧ 0 < w) ∨ (u < 0 ∧ v < 0 ∧ w < 0)
theorem down_tri (p : P3) (u v w : Int) : Down p (tri p u v w) ↔ R3 u v w ∧ 2 ≤ nat u ∧ 2 ≤ nat v ∧ nat u * nat v < 2 * nat w := by
  unfold Down R3
  rw [ring_tri]
  cases p <;> rfl
/-- a turn at a place whose two ties have two arrows and more, in one sense: what comes is a ring from which the same turn leads down, unless it was a least ring -/
theorem push_far {u v w : Int} (h : (2 ≤ u ∧ 2 ≤ v) ∨ (u ≤ -2 ∧ v ≤ -2)) (hw : (0 < u ∧ w ≤ 1) ∨ (u < 0 ∧ -1 ≤ w)) (p : P3) : Down p (tri p (-u) (-v) (push u v w)) := by
  rw [down_tri, nat_neg, nat_neg]
  (rcases h with ⟨h1, h2⟩ | ⟨h1, h2⟩)
  · have m1 : 2 * 2 ≤ u * v := Int.mul_le_mul h1 h2 (by decide) (by omega)
    rw [push_pos (by omega) (by omega), nat_pos (show 0 < u by omega), nat_pos (show 0 < v by omega)]
    generalize u * v = m at m1 ⊢
    rw [nat_neg' (show w - m < 0 by omega)]
    exact ⟨.inr ⟨by omega, by omega, by omega⟩, by omega, by omega, by omega⟩
  · have m1 : 2 * 2 ≤ -u * -v := Int.mul_le_mul (by omega) (by omega) (by decide) (by omega)
    rw [Int.neg_mul_neg] at m1
    rw [push_neg (by omega) (by omega), nat_neg' (show u < 0 by omega), nat_neg' (show v < 0 by omega), Int.neg_mul_neg]
    generalize u * v = m at m1 ⊢
    rw [nat_pos (show 0 < w + m by omega)]
    exact ⟨.inl ⟨by omega, by omega, by omega⟩, by omega, by omega, by omega⟩
/-- no size 1: the sizes stay -/
def M0 (a b c : Int) (t : T3) : Prop := nat t.1 = a ∧ nat t.2.1 = b ∧ nat t.2.2 = c
theorem push_least {u v w : Int} {p : P3} (hu : nat u ≠ 1) (hv : nat v ≠ 1) (f : ¬ Down p (tri p u v w)) (g : ¬ Down p (tri p (-u) (-v) (push u v w))) : nat (push u v w) = nat w := by
  by_cases h1 : 0 < u ∧ 0 < v
  · have u2 : 2 ≤ u := by rw [nat_pos h1.1] at hu; omega
    have v2 : 2 ≤ v := by rw [nat_pos h1.2] at hv; omega
    by_cases hw : 0 < w
    · rw [down_tri, nat_pos h1.1, nat_pos h1.2, nat_pos hw] at f
      rw [down_tri, nat_neg, nat_neg, nat_pos h1.1, nat_pos h1.2] at g
      have c1 : ¬ u * v < 2 * w := fun z => f ⟨.inl ⟨h1.1, h1.2, hw⟩, u2, v2, z⟩
      rw [push_pos h1.1 h1.2] at g ⊢
      generalize u * v = m at *
      rw [nat_neg' (show w - m < 0 by omega)] at g ⊢
      have c2 : ¬ m < 2 * -(w - m) := fun z => g ⟨.inr ⟨by omega, by omega, by omega⟩, u2, v2, z⟩
      rw [nat_pos hw]
      omega
    · exact absurd (push_far (.inl ⟨u2, v2⟩) (.inl ⟨h1.1, by omega⟩) p) g
  · by_cases h2 : u < 0 ∧ v < 0
    · have u2 : 2 ≤ -u := by rw [nat_neg' h2.1] at hu; omega
      have v2 : 2 ≤ -v := by rw [nat_neg' h2.2] at hv; omega
      by_cases hw : w < 0
      · rw [down_tri, nat_neg' h2.1, nat_neg' h2.2, nat_neg' hw] at f
        rw [down_tri, nat_neg, nat_neg, nat_neg' h2.1, nat_neg' h2.2] at g
        have c1 : ¬ -u * -v < 2 * -w := fun z => f ⟨.inr ⟨h2.1, h2.2, hw⟩, u2, v2, z⟩
        rw [Int.neg_mul_neg] at c1 g
        rw [push_neg h2.1 h2.2] at g ⊢
        generalize u * v = m at *
        rw [nat_pos (show 0 < w + m by omega)] at g ⊢
        have c2 : ¬ m < 2 * (w + m) := fun z => g ⟨.inl ⟨by omega, by omega, by omega⟩, u2, v2, z⟩
        rw [nat_neg' hw]
        omega
      · exact absurd (push_far (.inr ⟨by omega, by omega⟩) (.inr ⟨h2.1, by omega⟩) p) g
    · unfold push
      rw [if_neg h1, if_neg h2]
theorem M0.turn {a b c : Int} (ha : a ≠ 1) (hb : b ≠ 1) (hc : c ≠ 1) {t : T3} {p : P3} (h : M0 a b c t) (f : Foot t) (g : Foot (turn p t)) : M0 a b c (turn p t) := by
  have f := f p
  have g := g p
  obtain ⟨x, y, z⟩ := t
  obtain ⟨h1, h2, h3⟩ := h
  have h1 : nat x = a := h1
  have h2 : nat y = b := h2
  have h3 : nat z = c := h3
  cases p with
  | a =>
    have := push_least (p := .a) (u := z) (v := x) (w := y) (by rw [h3]; exact hc) (by rw [h1]; exact ha) f g
    exact ⟨by show nat (-x) = a; rw [nat_neg, h1], by show nat (push z x y) = b; rw [this, h2], by show nat (-z) = c; rw [nat_neg, h3]⟩
  | b =>
    have := push_least (p := .b) (u := x) (v := y) (w := z) (by rw [h1]; exact ha) (by rw [h2]; exact hb) f g
    exact ⟨by show nat (-x) = a; rw [nat_neg, h1], by show nat (-y) = b; rw [nat_neg, h2], by show nat (push x y z) = c; rw [this, h3]⟩
  | c =>
    have := push_least (p := .c) (u := y) (v := z) (w := x) (by rw [h2]; exact hb) (by rw [h3]; exact hc) f g
    exact ⟨by show nat (push y z x) = a; rw [this, h1], by show nat (-y) = b; rw [nat_neg, h2], by show nat (-z) = c; rw [nat_neg, h3]⟩
def L0 (a b c : Int) : List T3 := [(a, b, c), (a, b, -c), (a, -b, c), (a, -b, -c), (-a, b, c), (-a, b, -c), (-a, -b, c), (-a, -b, -c)]
theorem two_of {x a : Int} (h : nat x = a) : x = a ∨ x = -a := by rcases nat_two x with z | z <;> omega
theorem M0.mem {a b c : Int} {t : T3} (h : M0 a b c t) : t ∈ L0 a b c := by
  obtain ⟨x, y, z⟩ := t
  obtain ⟨h1, h2, h3⟩ := h
  rcases two_of h1 with e1 | e1 <;> rcases two_of h2 with e2 | e2 <;> rcases two_of h3 with e3 | e3 <;>
    (have e1 : x = _ := e1
     have e2 : y = _ := e2
     have e3 : z = _ := e3
     subst e1 e2 e3
     simp [L0])
/-- one tie of one arrow, the others none or of two and more -/
def M1 (q r u v w : Int) : Prop := (w = 1 ∨ w = -1) ∧ ((¬ R3 u v w ∧ ((nat u = q ∧ nat v = r) ∨ (nat u = r ∧ nat v = q))) ∨ (R3 u v w ∧ ((nat u = q ∧ nat v = q + r) ∨ (nat u = q + r ∧ nat v = q) ∨ (nat u = r ∧ nat v = q + r) ∨ (nat u = q + r ∧ nat v = r))))
theorem M1.swap {q r u v w : Int} (h : M1 q r u v w) : M1 q r v u w := by
  obtain ⟨h0, h⟩ := h
  refine ⟨h0, ?_⟩
  (rcases h with ⟨h1, h2⟩ | ⟨h1, h2⟩)
  · exact .inl ⟨fun z => h1 (by unfold R3 at *; omega), by omega⟩
  · exact .inr ⟨by unfold R3 at *; omega, by omega⟩
theorem R3.neg {u v w : Int} : R3 (-u) (-v) (-w) ↔ R3 u v w := by unfold R3; omega
theorem push_flip (u v w : Int) : push (-u) (-v) (-w) = -push u v w := by
  unfold push
  rw [Int.neg_mul_neg]
  by_cases h1 : 0 < u ∧ 0 < v
  · rw [if_pos h1, if_neg (by omega), if_pos (by omega)]
    omega
  · rw [if_neg h1]
    by_cases h2 : u < 0 ∧ v < 0
    · rw [if_pos h2, if_pos (by omega)]
      omega
    · rw [if_neg h2, if_neg (by omega), if_neg (by omega)]
theorem M1.neg {q r u v w : Int} (h : M1 q r u v w) : M1 q r (-u) (-v) (-w) := by
  obtain ⟨h0, h⟩ := h
  refine ⟨by omega, ?_⟩
  rw [nat_neg, nat_neg, R3.neg]
  exact h
theorem M1.side1 {q r u v : Int} (hq : 0 ≤ q) (hr : 0 ≤ r) (h : M1 q r u v 1) : M1 q r (push v 1 u) (-v) (-1) := by
  obtain ⟨_, h⟩ := h
  refine ⟨.inr rfl, ?_⟩
  rw [nat_neg]
  by_cases p1 : 0 < v
  · rw [push_pos p1 (by decide), Int.mul_one, nat_pos p1]
    rw [nat_pos p1] at h
    rcases h with ⟨a, b⟩ | ⟨a, b⟩
    · have u0 : u ≤ 0 := by unfold R3 at a; omega
      refine .inr ⟨by unfold R3; omega, ?_⟩
      rw [nat_neg' (show u - v < 0 by omega)]
      have : nat u = -u := by rcases nat_two u with z | z <;> omega
      omega
    · have u0 : 0 < u := by unfold R3 at a; omega
      rw [nat_pos u0] at b
      by_cases c : u - v < 0
      · refine .inr ⟨by unfold R3; omega, ?_⟩
        rw [nat_neg' c]
        omega
      · refine .inl ⟨by unfold R3; omega, ?_⟩
        rw [show nat (u - v) = u - v by unfold nat; rw [if_neg c]]
        omega
  · have e : push v 1 u = u := by unfold push; rw [if_neg (by omega), if_neg (by omega)]
    rw [e]
    rcases h with ⟨a, b⟩ | ⟨a, b⟩
    · exact .inl ⟨by unfold R3; omega, b⟩
    · unfold R3 at a
      omega
theorem M1.side {q r u v w : Int} (hq : 0 ≤ q) (hr : 0 ≤ r) (h : M1 q r u v w) : M1 q r (push v w u) (-v) (-w) := by
  rcases h.1 with rfl | rfl
  · exact h.side1 hq hr
  · have h1 := h.neg
    rw [Int.neg_neg] at h1
    have h2 := (h1.side1 hq hr).neg
    rw [← push_flip] at h2
    simp only [Int.neg_neg] at h2 ⊢
    exact h2
theorem M1.own {q r u v w : Int} {p : P3} (hq : q = 0 ∨ 2 ≤ q) (hr : r = 0 ∨ 2 ≤ r) (h : M1 q r u v w) (g : ¬ Down p (tri p (-u) (-v) (push u v w))) : M1 q r (-u) (-v) (push u v w) := by
  have n1 := nat_two u
  have n2 := nat_two v
  by_cases h1 : 0 < u ∧ 0 < v
  · exact absurd (push_far (.inl (by obtain ⟨_, h⟩ := h; omega)) (.inl (by obtain ⟨h, _⟩ := h; omega)) p) g
  · by_cases h2 : u < 0 ∧ v < 0
    · exact absurd (push_far (.inr (by obtain ⟨_, h⟩ := h; omega)) (.inr (by obtain ⟨h, _⟩ := h; omega)) p) g
    · have e : push u v w = w := by unfold push; rw [if_neg h1, if_neg h2]
      rw [e]
      obtain ⟨h0, h⟩ := h
      refine ⟨h0, ?_⟩
      rw [nat_neg, nat_neg]
      rcases h with ⟨a, b⟩ | ⟨a, b⟩
      · exact .inl ⟨by unfold R3 at *; omega, b⟩
      · unfold R3 at a
        omega
theorem tri_next (p : P3) (u v w : Int) : turn (nxt p) (tri p u v w) = tri p (push v w u) (-v) (-w) := by cases p <;> rfl
theorem tri_prev (p : P3) (u v w : Int) : turn (prv p) (tri p u v w) = tri p (-u) (push w u v) (-w) := by cases p <;> rfl
theorem three (p s : P3) : s = p ∨ s = nxt p ∨ s = prv p := by cases p <;> cases s <;> decide
theorem M1.turn {q r u v w : Int} {p : P3} (hq : q = 0 ∨ 2 ≤ q) (hr : r = 0 ∨ 2 ≤ r) (h : M1 q r u v w) (s : P3) (g : Foot (turn s (tri p u v w))) : ∃ u' v' w', turn s (tri p u v w) = tri p u' v' w' ∧ M1 q r u' v' w' := by
  rcases three p s with rfl | rfl | rfl
  · have g := g s
    rw [turn_tri] at g ⊢
    exact ⟨_, _, _, rfl, h.own hq hr g⟩
  · exact ⟨_, _, _, tri_next .., h.side (by omega) (by omega)⟩
  · refine ⟨_, _, _, tri_prev .., ?_⟩
    rw [push_comm]
    exact (h.swap.side (by omega) (by omega)).swap
def L1b (q r : Int) : List T3 := [(q, r, 1), (q, r, -1), (q, -r, 1), (q, -r, -1), (-q, r, 1), (-q, r, -1), (-q, -r, 1), (-q, -r, -1),
  (r, q, 1), (r, q, -1), (r, -q, 1), (r, -q, -1), (-r, q, 1), (-r, q, -1), (-r, -q, 1), (-r, -q, -1),
  (q, q + r, 1), (-q, -(q + r), -1), (q + r, q, 1), (-(q + r), -q, -1), (r, q + r, 1), (-r, -(q + r), -1), (q + r, r, 1), (-(q + r), -r, -1)]
theorem M1.mem {q r u v w : Int} (hq : 0 ≤ q) (hr : 0 ≤ r) (h : M1 q r u v w) : (u, v, w) ∈ L1b q r := by
  obtain ⟨h0, h⟩ := h
  rcases h with ⟨a, ⟨b1, b2⟩ | ⟨b1, b2⟩⟩ | ⟨a, ⟨b1, b2⟩ | ⟨b1, b2⟩ | ⟨b1, b2⟩ | ⟨b1, b2⟩⟩ <;> rcases two_of b1 with rfl | rfl <;> rcases two_of b2 with rfl | rfl <;> rcases h0 with rfl | rfl <;>
    first
    | (exfalso; unfold R3 at a; omega)
    | simp [L1b]
/-- two ties of one arrow -/
def M2 (r u v w : Int) : Prop := (¬ R3 u v w ∧ ((nat u = 1 ∧ nat v = 1 ∧ nat w = r) ∨ (nat u = 1 ∧ nat v = r ∧ nat w = 1) ∨ (nat u = r ∧ nat v = 1 ∧ nat w = 1))) ∨
  (R3 u v w ∧ ((nat u = 1 ∧ nat v = 1 ∧ nat w = r + 1) ∨ (nat u = 1 ∧ nat v = r + 1 ∧ nat w = 1) ∨ (nat u = r + 1 ∧ nat v = 1 ∧ nat w = 1) ∨
    (nat u = 1 ∧ nat v = r ∧ nat w = r + 1) ∨ (nat u = 1 ∧ nat v = r + 1 ∧ nat w = r) ∨ (nat u = r ∧ nat v = 1 ∧ nat w = r + 1) ∨ (nat u = r + 1 ∧ nat v = 1 ∧ nat w = r) ∨ (nat u = r ∧ nat v = r + 1 ∧ nat w = 1) ∨ (nat u = r + 1 ∧ nat v = r ∧ nat w = 1)))
theorem R3.rot {u v w : Int} : R3 u v w ↔ R3 v w u := by unfold R3; omega
theorem R3.swap {u v w : Int} : R3 u v w ↔ R3 v u w := by unfold R3; omega
theorem M2.rot {r u v w : Int} (h : M2 r u v w) : M2 r v w u := by
  rcases h with ⟨a, b⟩ | ⟨a, b⟩
  · refine .inl ⟨fun z => a (R3.rot.mpr z), ?_⟩
    rcases b with b | b | b
    · exact .inr (.inl ⟨b.2.1, b.2.2, b.1⟩)
    · exact .inr (.inr ⟨b.2.1, b.2.2, b.1⟩)
    · exact .inl ⟨b.2.1, b.2.2, b.1⟩
  · refine .inr ⟨R3.rot.mp a, ?_⟩
    rcases b with ⟨b1, b2, b3⟩ | ⟨b1, b2, b3⟩ | ⟨b1, b2, b3⟩ | ⟨b1, b2, b3⟩ | ⟨b1, b2, b3⟩ | ⟨b1, b2, b3⟩ | ⟨b1, b2, b3⟩ | ⟨b1, b2, b3⟩ | ⟨b1, b2, b3⟩ <;> rw [b1, b2, b3] <;> simp
theorem M2.swap {r u v w : Int} (h : M2 r u v w) : M2 r v u w := by
  rcases h with ⟨a, b⟩ | ⟨a, b⟩
  · refine .inl ⟨fun z => a (R3.swap.mpr z), ?_⟩
    rcases b with b | b | b
    · exact .inl ⟨b.2.1, b.1, b.2.2⟩
    · exact .inr (.inr ⟨b.2.1, b.1, b.2.2⟩)
    · exact .inr (.inl ⟨b.2.1, b.1, b.2.2⟩)
  · refine .inr ⟨R3.swap.mp a, ?_⟩
    rcases b with ⟨b1, b2, b3⟩ | ⟨b1, b2, b3⟩ | ⟨b1, b2, b3⟩ | ⟨b1, b2, b3⟩ | ⟨b1, b2, b3⟩ | ⟨b1, b2, b3⟩ | ⟨b1, b2, b3⟩ | ⟨b1, b2, b3⟩ | ⟨b1, b2, b3⟩ <;> rw [b1, b2, b3] <;> simp
theorem M2.neg {r u v w : Int} (h : M2 r u v w) : M2 r (-u) (-v) (-w) := by
  unfold M2 at *
  rw [nat_neg, nat_neg, nat_neg, R3.neg]
  exact h
/-- v = 1 -/
theorem M2.one1 {r u w : Int} (hr : 0 ≤ r) (h : M2 r u 1 w) : M2 r (-u) (-1) (push u 1 w) := by
  unfold M2 at *
  rw [nat_neg, nat_neg]
  rw [show nat 1 = 1 from rfl] at h ⊢
  by_cases p1 : 0 < u
  · rw [push_pos p1 (by decide), Int.mul_one, nat_pos p1]
    rw [nat_pos p1] at h
    rcases h with ⟨a, b⟩ | ⟨a, b⟩
    · have w0 : w ≤ 0 := by unfold R3 at a; omega
      refine .inr ⟨by unfold R3; omega, ?_⟩
      rw [nat_neg' (show w - u < 0 by omega)]
      have : nat w = -w := by rcases nat_two w with z | z <;> omega
      rw [this] at b
      rcases b with ⟨b1, b2, b3⟩ | ⟨b1, b2, b3⟩ | ⟨b1, b2, b3⟩ <;> omega
    · have w0 : 0 < w := by unfold R3 at a; omega
      rw [nat_pos w0] at b
      by_cases c : w - u < 0
      · refine .inr ⟨by unfold R3; omega, ?_⟩
        rw [nat_neg' c]
        rcases b with ⟨b1, b2, b3⟩ | ⟨b1, b2, b3⟩ | ⟨b1, b2, b3⟩ | ⟨b1, b2, b3⟩ | ⟨b1, b2, b3⟩ | ⟨b1, b2, b3⟩ | ⟨b1, b2, b3⟩ | ⟨b1, b2, b3⟩ | ⟨b1, b2, b3⟩ <;> omega
      · refine .inl ⟨by unfold R3; omega, ?_⟩
        rw [show nat (w - u) = w - u by unfold nat; rw [if_neg c]]
        rcases b with ⟨b1, b2, b3⟩ | ⟨b1, b2, b3⟩ | ⟨b1, b2, b3⟩ | ⟨b1, b2, b3⟩ | ⟨b1, b2, b3⟩ | ⟨b1, b2, b3⟩ | ⟨b1, b2, b3⟩ | ⟨b1, b2, b3⟩ | ⟨b1, b2, b3⟩ <;> omega
  · have e : push u 1 w = w := by unfold push; rw [if_neg (by omega), if_neg (by omega)]
    rw [e]
    rcases h with ⟨a, b⟩ | ⟨a, b⟩
    · exact .inl ⟨by unfold R3; omega, b⟩
    · unfold R3 at a
      omega
theorem M2.one {r u v w : Int} (hr : 0 ≤ r) (h : M2 r u v w) (hv : v = 1 ∨ v = -1) : M2 r (-u) (-v) (push u v w) := by
  rcases hv with rfl | rfl
  · exact h.one1 hr
  · have h1 := h.neg
    rw [Int.neg_neg] at h1
    have h2 := (h1.one1 hr).neg
    rw [← push_flip] at h2
    simp only [Int.neg_neg] at h2 ⊢
    exact h2
theorem M2.turn {r u v w : Int} {p : P3} (hr : 0 ≤ r) (h : M2 r u v w) (g : ¬ Down p (tri p (-u) (-v) (push u v w))) : M2 r (-u) (-v) (push u v w) := by
  by_cases hv : nat v = 1
  · exact h.one hr (two_of hv)
  · by_cases hu : nat u = 1
    · rw [push_comm]
      exact (h.swap.one hr (two_of hu)).swap
    · have n1 := nat_two u
      have n2 := nat_two v
      have n3 := nat_two w
      rcases h with ⟨a, b⟩ | ⟨a, b⟩
      · omega
      · have hw : nat w = 1 ∧ 2 ≤ nat u ∧ 2 ≤ nat v := by
          unfold R3 at a
          omega
        unfold R3 at a
        rcases a with a | a
        · exact absurd (push_far (.inl (by omega)) (.inl (by omega)) p) g
        · exact absurd (push_far (.inr (by omega)) (.inr (by omega)) p) g
def signs (u v w : Int) : List T3 := [(u, v, -w), (u, -v, w), (u, -v, -w), (-u, v, w), (-u, v, -w), (-u, -v, w)]
def ringed (u v w : Int) : List T3 := [(u, v, w), (-u, -v, -w)]
def L2b (r : Int) : List T3 := signs 1 1 r ++ (signs 1 r 1 ++ (signs r 1 1 ++ (ringed 1 1 (r + 1) ++ (ringed 1 (r + 1) 1 ++ (ringed (r + 1) 1 1 ++ (ringed 1 r (r + 1) ++ (ringed 1 (r + 1) r ++ (ringed r 1 (r + 1) ++ (ringed (r + 1) 1 r ++ (ringed r (r + 1) 1 ++ ringed (r + 1) r 1))))))))))
theorem L2b_len (r : Int) : (L2b r).length = 36 := rfl
theorem mem_signs {u v w a b c : Int} (n : ¬ R3 u v w) (hu : nat u = a) (hv : nat v = b) (hw : nat w = c) (ha : 0 ≤ a) (hb : 0 ≤ b) (hc : 0 ≤ c) : (u, v, w) ∈ signs a b c := by
  have zero : ∀ {x y : Int}, x = -y → y = 0 → x = y := fun {x y} h1 h2 => by omega
  unfold R3 at n
  unfold signs
  simp only [List.mem_cons, Prod.mk.injEq, List.not_mem_nil, or_false]
  rcases two_of hu with h1 | h1 <;> rcases two_of hv with h2 | h2 <;> rcases two_of hw with h3 | h3 <;> omega
theorem mem_ringed {u v w a b c : Int} (n : R3 u v w) (hu : nat u = a) (hv : nat v = b) (hw : nat w = c) : (u, v, w) ∈ ringed a b c := by
  unfold ringed
  simp only [List.mem_cons, Prod.mk.injEq, List.not_mem_nil, or_false]
  rcases n with ⟨h1, h2, h3⟩ | ⟨h1, h2, h3⟩
  · rw [nat_pos h1] at hu
    rw [nat_pos h2] at hv
    rw [nat_pos h3] at hw
    exact .inl ⟨hu, hv, hw⟩
  · rw [nat_neg' h1] at hu
    rw [nat_neg' h2] at hv
    rw [nat_neg' h3] at hw
    exact .inr ⟨by omega, by omega, by omega⟩
theorem M2.mem {r u v w : Int} (hr : 0 ≤ r) (h : M2 r u v w) : (u, v, w) ∈ L2b r := by
  unfold L2b
  simp only [List.mem_append]
  rcases h with ⟨a, ⟨b1, b2, b3⟩ | ⟨b1, b2, b3⟩ | ⟨b1, b2, b3⟩⟩ | ⟨a, ⟨b1, b2, b3⟩ | ⟨b1, b2, b3⟩ | ⟨b1, b2, b3⟩ | ⟨b1, b2, b3⟩ | ⟨b1, b2, b3⟩ | ⟨b1, b2, b3⟩ | ⟨b1, b2, b3⟩ | ⟨b1, b2, b3⟩ | ⟨b1, b2, b3⟩⟩
  · exact .inl (mem_signs a b1 b2 b3 (by decide) (by decide) hr)
  · exact .inr (.inl (mem_signs a b1 b2 b3 (by decide) hr (by decide)))
  · exact .inr (.inr (.inl (mem_signs a b1 b2 b3 hr (by decide) (by decide))))
  · exact .inr (.inr (.inr (.inl (mem_ringed a b1 b2 b3))))
  · exact .inr (.inr (.inr (.inr (.inl (mem_ringed a b1 b2 b3)))))
  · exact .inr (.inr (.inr (.inr (.inr (.inl (mem_ringed a b1 b2 b3))))))
  · exact .inr (.inr (.inr (.inr (.inr (.inr (.inl (mem_ringed a b1 b2 b3)))))))
  · exact .inr (.inr (.inr (.inr (.inr (.inr (.inr (.inl (mem_ringed a b1 b2 b3))))))))
  · exact .inr (.inr (.inr (.inr (.inr (.inr (.inr (.inr (.inl (mem_ringed a b1 b2 b3)))))))))
  · exact .inr (.inr (.inr (.inr (.inr (.inr (.inr (.inr (.inr (.inl (mem_ringed a b1 b2 b3))))))))))
  · exact .inr (.inr (.inr (.inr (.inr (.inr (.inr (.inr (.inr (.inr (.inl (mem_ringed a b1 b2 b3)))))))))))
  · exact .inr (.inr (.inr (.inr (.inr (.inr (.inr (.inr (.inr (.inr (.inr (mem_ringed a b1 b2 b3)))))))))))
theorem M2_tri {r : Int} {p : P3} {u v w : Int} {x y z : Int} (e : tri p u v w = (x, y, z)) : M2 r u v w ↔ M2 r x y z := by
  cases p
  · cases e
    exact ⟨M2.rot, fun h => h.rot.rot⟩
  · cases e
    exact Iff.rfl
  · cases e
    exact ⟨fun h => h.rot.rot, M2.rot⟩
/-- THE COUNT -/
theorem foot_few {e : T3} (fe : Foot e) : ∃ L : List T3, L.length ≤ 36 ∧ ∀ u, FR e u → u ∈ L := by
  by_cases h0 : ∀ p, nat (opp p e) ≠ 1
  · refine ⟨L0 (nat e.1) (nat e.2.1) (nat e.2.2), Nat.le_of_ble_eq_true rfl, fun u h => ?_⟩
    refine M0.mem ?_
    have h1 := h0 .c
    have h2 := h0 .a
    have h3 := h0 .b
    obtain ⟨x, y, z⟩ := e
    induction h with
    | here => exact ⟨rfl, rfl, rfl⟩
    | step h f ih => exact ih.turn h1 h2 h3 (h.foot fe) f
  · obtain ⟨p, hp⟩ : ∃ p, nat (opp p e) = 1 := Classical.not_forall.mp h0 |>.imp fun p z => Decidable.not_not.mp z
    have et := tri_of p e
    generalize co p e = u at et
    generalize go p e = v at et
    generalize opp p e = w at et hp
    have hw := two_of hp
    -- two ties of one arrow
    have k2 : ∀ r, 0 ≤ r → M2 r u v w → ∃ L : List T3, L.length ≤ 36 ∧ ∀ u, FR e u → u ∈ L := fun r hr hm => by
      refine ⟨L2b r, Nat.le_of_eq (L2b_len r), fun s hs => ?_⟩
      have go : ∀ s : T3, FR e s → M2 r s.1 s.2.1 s.2.2 := fun s hs => by
        induction hs with
        | here => exact (M2_tri (p := p) (by rw [← et])).mp hm
        | @step s q h f ih =>
          have es := tri_of q s
          have ft := f q
          rw [es, turn_tri] at ft
          have m0 := (M2_tri (p := q) (u := co q s) (v := At.go q s) (w := opp q s) (x := s.1) (y := s.2.1) (z := s.2.2) es.symm).mpr ih
          have m1 := m0.turn hr ft
          refine (M2_tri (p := q) ?_).mp m1
          rw [← turn_tri, ← es]
      exact (go s hs).mem hr
    have k1 : ∀ q r, (q = 0 ∨ 2 ≤ q) → (r = 0 ∨ 2 ≤ r) → M1 q r u v w → ∃ L : List T3, L.length ≤ 36 ∧ ∀ u, FR e u → u ∈ L := fun q r hq hr hm => by
      refine ⟨(L1b q r).map fun z => tri p z.1 z.2.1 z.2.2, by rw [List.length_map]; exact Nat.le_of_ble_eq_true rfl, fun s hs => ?_⟩
      have go : ∀ s : T3, FR e s → ∃ u v w, s = tri p u v w ∧ M1 q r u v w := fun s hs => by
        induction hs with
        | here => exact ⟨u, v, w, et, hm⟩
        | @step s y h f ih =>
          obtain ⟨u', v', w', rfl, m⟩ := ih
          exact m.turn hq hr y f
      obtain ⟨u', v', w', rfl, m⟩ := go s hs
      exact List.mem_map.mpr ⟨(u', v', w'), m.mem (by omega) (by omega), rfl⟩
    have nu := nat_nonneg u
    have nv := nat_nonneg v
    by_cases a : R3 u v w
    · -- a ring with a size 1
      have u0 : 0 < nat u := by unfold R3 at a; rcases nat_two u with z | z <;> omega
      have v0 : 0 < nat v := by unfold R3 at a; rcases nat_two v with z | z <;> omega
      by_cases le : nat u ≤ nat v
      · by_cases c1 : nat u = 1
        · exact k2 (nat v - 1) (by omega) (.inr ⟨a, by omega⟩)
        · by_cases c2 : nat v - nat u = 1
          · exact k2 (nat u) (by omega) (.inr ⟨a, by omega⟩)
          · exact k1 (nat u) (nat v - nat u) (by omega) (by omega) ⟨hw, .inr ⟨a, by omega⟩⟩
      · by_cases c1 : nat v = 1
        · exact k2 (nat u - 1) (by omega) (.inr ⟨a, by omega⟩)
        · by_cases c2 : nat u - nat v = 1
          · exact k2 (nat v) (by omega) (.inr ⟨a, by omega⟩)
          · exact k1 (nat v) (nat u - nat v) (by omega) (by omega) ⟨hw, .inr ⟨a, by omega⟩⟩
    · by_cases c1 : nat u = 1
      · exact k2 (nat v) nv (.inl ⟨a, by omega⟩)
      · by_cases c2 : nat v = 1
        · exact k2 (nat u) nu (.inl ⟨a, by omega⟩)
        · exact k1 (nat u) (nat v) (by omega) (by omega) ⟨hw, .inl ⟨a, by omega⟩⟩
end At

namespace At
/-! ### the way down, turn by turn -/
def Dw : List P3 → T3 → T3 → Prop
  | [], t, b => t = b
  | p :: ps, t, b => Down p t ∧ Dw ps (turn p t) b
theorem Dw.walk : ∀ {ps : List P3} {t b : T3}, Dw ps t b → At.walk t ps = b
  | [], _, _, h => h
  | p :: ps, t, b, h => Dw.walk (ps := ps) (t := turn p t) h.2
theorem Dw.way : ∀ {ps : List P3} {t b : T3}, Dw ps t b → Foot b → Way ps.length t b
  | [], t, b, h, f => by
    have h : t = b := h
    subst h
    exact .here f
  | p :: ps, t, b, h, f => .down h.1 (Dw.way h.2 f)
theorem Dw.append : ∀ {ps qs : List P3} {t u b : T3}, Dw ps t u → Dw qs u b → Dw (ps ++ qs) t b
  | [], _, _, _, _, h, k => by
    have h : _ = _ := h
    subst h
    exact k
  | _ :: _, _, _, _, _, h, k => ⟨h.1, Dw.append h.2 k⟩
theorem Dw.szsum : ∀ {ps : List P3} {t b : T3}, Dw ps t b → At.szsum b ≤ At.szsum t
  | [], t, b, h => by
    have h : t = b := h
    rw [h]
    exact Int.le_refl _
  | p :: ps, t, b, h => Int.le_of_lt (Int.lt_of_le_of_lt (Dw.szsum h.2) (down_less h.1))
theorem down_big {p : P3} {t : T3} (d : Down p t) : big (turn p t) ≤ big t := by
  have h1 := d.all
  have top := d.top
  obtain ⟨r, _, _, lt⟩ := d
  have hB : nat (opp p t) ≤ big t := (big_at (p := p) (Int.le_refl _)).2.2
  have b1 := (big_at (p := p) (t := t) (Int.le_refl _)).1
  have b2 := (big_at (p := p) (t := t) (Int.le_refl _)).2.1
  rw [tri_of p t, ring_tri] at r
  rw [tri_of p (turn p t), big_tri]
  have e : turn p t = tri p (-co p t) (-go p t) (push (co p t) (go p t) (opp p t)) := by
    have := turn_tri p (co p t) (go p t) (opp p t)
    rwa [← tri_of p t] at this
  have c1 : co p (turn p t) = -co p t := by rw [e]; cases p <;> rfl
  have c2 : go p (turn p t) = -go p t := by rw [e]; cases p <;> rfl
  have c3 : opp p (turn p t) = push (co p t) (go p t) (opp p t) := by rw [e]; cases p <;> rfl
  rw [c1, c2, c3, nat_neg, nat_neg]
  refine ⟨b1, b2, ?_⟩
  rcases r with ⟨r1, r2, r3⟩ | ⟨r1, r2, r3⟩
  · rw [push_pos r1 r2]
    rw [nat_pos r1, nat_pos r2, nat_pos r3] at lt
    rw [nat_pos r3] at hB
    have m0 : 0 < co p t * go p t := Int.mul_pos r1 r2
    generalize co p t * go p t = m at lt m0 ⊢
    rcases nat_two (opp p t - m) with z | z <;> omega
  · rw [push_neg r1 r2]
    rw [nat_neg' r1, nat_neg' r2, nat_neg' r3, Int.neg_mul_neg] at lt
    rw [nat_neg' r3] at hB
    have m0 : 0 < -co p t * -go p t := Int.mul_pos (by omega) (by omega)
    rw [Int.neg_mul_neg] at m0
    generalize co p t * go p t = m at lt m0 ⊢
    rcases nat_two (opp p t + m) with z | z <;> omega
theorem Dw.big : ∀ {ps : List P3} {t b : T3}, Dw ps t b → At.big b ≤ At.big t
  | [], t, b, h => by
    have h : t = b := h
    rw [h]
    exact Int.le_refl _
  | p :: ps, t, b, h => Int.le_trans (Dw.big h.2) (down_big h.1)
/-- everybody has a way down -/
theorem way_ex (t : T3) : ∃ ps b, Dw ps t b ∧ Foot b := by
  have go : ∀ (n : Nat) (t : T3), (szsum t).toNat ≤ n → ∃ ps b, Dw ps t b ∧ Foot b := by
    intro n
    induction n with
    | zero =>
      intro t h
      refine ⟨[], t, rfl, fun p d => ?_⟩
      have h0 := down_less d
      have h1 : 0 ≤ szsum (turn p t) := by
        unfold szsum
        have := nat_nonneg (turn p t).1
        have := nat_nonneg (turn p t).2.1
        have := nat_nonneg (turn p t).2.2
        omega
      omega
    | succ n ih =>
      intro t h
      by_cases f : ∃ p, Down p t
      · obtain ⟨p, d⟩ := f
        have h0 := down_less d
        obtain ⟨ps, b, h1, h2⟩ := ih (turn p t) (by omega)
        exact ⟨p :: ps, b, ⟨d, h1⟩, h2⟩
      · exact ⟨[], t, rfl, fun p d => f ⟨p, d⟩⟩
  exact go _ t (Nat.le_refl _)
/-! the turns at two places in turn -/
def alt : Nat → P3 → P3 → List P3
  | 0, _, _ => []
  | m + 1, p, s => p :: alt m s p
theorem alt_len : ∀ (m : Nat) (p s : P3), (alt m p s).length = m
  | 0, _, _ => rfl
  | m + 1, p, s => congrArg (· + 1) (alt_len m s p)
theorem alt_two (n : Nat) (p s : P3) : alt (2 * n) p s = rep n [p, s] := by
  induction n with
  | zero => rfl
  | succ n ih =>
    rw [rep_succ, ← ih]
    rfl
theorem alt_odd (n : Nat) (p s : P3) : alt (2 * n + 1) p s = rep n [p, s] ++ [p] := by
  induction n with
  | zero => rfl
  | succ n ih =>
    rw [rep_succ, List.append_assoc, ← ih]
    rfl
theorem walk_alt (m : Nat) (p s : P3) (t : T3) : At.walk t (alt m p s) = if m % 2 = 1 then turn p (many (m / 2) [p, s] t) else many (m / 2) [p, s] t := by
  by_cases h : m % 2 = 1
  · rw [if_pos h]
    obtain ⟨n, rfl⟩ : ∃ n, m = 2 * n + 1 := ⟨m / 2, by omega⟩
    rw [alt_odd, walk_append, walk_rep, show (2 * n + 1) / 2 = n by omega]
    rfl
  · rw [if_neg h]
    obtain ⟨n, rfl⟩ : ∃ n, m = 2 * n := ⟨m / 2, by omega⟩
    rw [alt_two, walk_rep, show 2 * n / 2 = n by omega]
theorem opp_own (p : P3) (t : T3) : opp p (turn p t) = push (co p t) (go p t) (opp p t) := by obtain ⟨x, y, z⟩ := t; cases p <;> rfl
theorem opp_turn_ne {p q : P3} (h : p ≠ q) (t : T3) : opp q (turn p t) = -opp q t := by
  obtain ⟨x, y, z⟩ := t
  cases p <;> cases q <;> first | exact absurd rfl h | rfl
theorem co_opp (p : P3) (t : T3) : co p t = opp (nxt p) t := by obtain ⟨x, y, z⟩ := t; cases p <;> rfl
theorem go_opp (p : P3) (t : T3) : go p t = opp (prv p) t := by obtain ⟨x, y, z⟩ := t; cases p <;> rfl
theorem thirds {p s x : P3} (h1 : p ≠ s) (h2 : s ≠ x) (h3 : p ≠ x) : (s = nxt p ∧ x = prv p) ∨ (s = prv p ∧ x = nxt p) := by
  cases p <;> cases s <;> cases x <;> first | exact absurd rfl h1 | exact absurd rfl h2 | exact absurd rfl h3 | (left; exact ⟨rfl, rfl⟩) | (right; exact ⟨rfl, rfl⟩)
/-- what stands at the two other places of a turn -/
theorem sides {p s x : P3} (h1 : p ≠ s) (h2 : s ≠ x) (h3 : p ≠ x) (t : T3) : (co p t = opp s t ∧ go p t = opp x t) ∨ (co p t = opp x t ∧ go p t = opp s t) := by
  rcases thirds h1 h2 h3 with ⟨rfl, rfl⟩ | ⟨rfl, rfl⟩
  · exact .inl ⟨co_opp .., go_opp ..⟩
  · exact .inr ⟨co_opp .., go_opp ..⟩
theorem foot_by {t : T3} {s : P3} {σ B : Int} (hσ : σ = 1 ∨ σ = -1) {x : P3} (ne : s ≠ x) (hx : opp x t = 2 * σ) (hs : opp s t = σ * B) (hB : B < 2) : Foot t := fun q d => by
  have l : ∀ y, 2 ≤ nat (opp y t) := fun y => by
    obtain ⟨a, b, c⟩ := t
    have := d.least
    cases y <;> simp only [opp] <;> omega
  have ls := l s
  have r := ring_opp d.1
  rcases hσ with rfl | rfl
  · rw [Int.one_mul] at hs
    rcases r with r | r
    · have := r s
      rw [hs] at ls this
      rw [nat_pos this] at ls
      omega
    · have := r x
      omega
  · rw [Int.neg_mul, Int.one_mul] at hs
    rcases r with r | r
    · have := r x
      omega
    · have := r s
      rw [hs] at ls this
      rw [nat_neg' this] at ls
      omega
theorem alt_way : ∀ (m : Nat) (t : T3) (p s x : P3) (σ A B : Int), p ≠ s → s ≠ x → p ≠ x → (σ = 1 ∨ σ = -1) → opp x t = 2 * σ → opp p t = σ * A → opp s t = σ * B → B < A → 2 ≤ A - m * (A - B) → A - (m + 1) * (A - B) < 2 →
    Dw (alt m p s) t (At.walk t (alt m p s)) ∧ Foot (At.walk t (alt m p s))
  | 0, t, p, s, x, σ, A, B, h1, h2, h3, hσ, hx, hp, hs, lt, c1, c2 => by
    refine ⟨rfl, ?_⟩
    show Foot t
    exact foot_by hσ h2 hx hs (by simp only [Int.natCast_zero, Int.zero_add, Int.one_mul, Int.zero_mul] at c2; omega)
  | m + 1, t, p, s, x, σ, A, B, h1, h2, h3, hσ, hx, hp, hs, lt, c1, c2 => by
    have m0 : 0 ≤ (m : Int) * (A - B) := Int.mul_nonneg (by omega) (by omega)
    have e1 : ((m + 1 : Nat) : Int) * (A - B) = m * (A - B) + (A - B) := by rw [Int.natCast_succ, Int.add_mul, Int.one_mul]
    have e2 : (((m + 1 : Nat) : Int) + 1) * (A - B) = m * (A - B) + (A - B) + (A - B) := by rw [Int.natCast_succ, Int.add_mul, Int.add_mul, Int.one_mul]
    rw [e1] at c1
    rw [e2] at c2
    have B2 : 2 ≤ B := by omega
    have uv : (co p t = σ * B ∧ go p t = 2 * σ) ∨ (co p t = 2 * σ ∧ go p t = σ * B) := by
      rcases sides h1 h2 h3 t with ⟨a, b⟩ | ⟨a, b⟩
      · exact .inl ⟨by rw [a, hs], by rw [b, hx]⟩
      · exact .inr ⟨by rw [a, hx], by rw [b, hs]⟩
    have d : Down p t := by
      rw [tri_of p t, down_tri, hp]
      unfold R3
      rcases hσ with rfl | rfl
      · simp only [Int.one_mul, Int.mul_one] at uv ⊢
        rcases uv with ⟨a, b⟩ | ⟨a, b⟩ <;> rw [a, b, nat_pos (show 0 < B by omega), nat_pos (show 0 < A by omega), nat_pos (show (0 : Int) < 2 by decide)] <;> refine ⟨.inl ⟨by omega, by omega, by omega⟩, by omega, by omega, by omega⟩
      · simp only [Int.neg_mul, Int.one_mul, Int.mul_neg, Int.mul_one] at uv ⊢
        rcases uv with ⟨a, b⟩ | ⟨a, b⟩ <;> rw [a, b, nat_neg' (show -B < 0 by omega), nat_neg' (show -A < 0 by omega), nat_neg' (show (-2 : Int) < 0 by decide), Int.neg_neg, Int.neg_neg] <;> refine ⟨.inr ⟨by omega, by omega, by omega⟩, by omega, by omega, by omega⟩
    have np : opp p (turn p t) = -σ * (2 * B - A) := by
      rw [opp_own, hp]
      rcases hσ with rfl | rfl
      · simp only [Int.one_mul, Int.mul_one] at uv ⊢
        rcases uv with ⟨a, b⟩ | ⟨a, b⟩ <;> rw [a, b, push_pos (by omega) (by omega)] <;> omega
      · simp only [Int.neg_mul, Int.one_mul, Int.mul_neg, Int.mul_one] at uv ⊢
        rcases uv with ⟨a, b⟩ | ⟨a, b⟩ <;> rw [a, b, push_neg (by omega) (by omega)] <;> omega
    have ih := alt_way m (turn p t) s p x (-σ) B (2 * B - A) (Ne.symm h1) h3 h2 (by omega) (by rw [opp_turn_ne h3, hx]; omega) (by rw [opp_turn_ne h1, hs, Int.neg_mul]) np (by omega)
      (by rw [show B - (2 * B - A) = A - B by omega]; omega) (by rw [show B - (2 * B - A) = A - B by omega, Int.add_mul, Int.one_mul]; omega)
    exact ⟨⟨d, ih.1⟩, ih.2⟩
theorem alt_ne (p : P3) : p ≠ nxt p ∧ p ≠ prv p ∧ nxt p ≠ prv p := by cases p <;> decide
theorem ring_sign {t : T3} (r : ring t) : ∃ σ : Int, (σ = 1 ∨ σ = -1) ∧ ∀ y, opp y t = σ * nat (opp y t) := by
  rcases ring_opp r with h | h
  · exact ⟨1, .inl rfl, fun y => by rw [nat_pos (h y), Int.one_mul]⟩
  · exact ⟨-1, .inr rfl, fun y => by rw [nat_neg' (h y), Int.neg_mul, Int.one_mul, Int.neg_neg]⟩
/-- beside a tie of two arrows -/
structure EvenAt (t : T3) (p s : P3) (m : Nat) : Prop where
  ne : p ≠ s
  lt : nat (opp s t) < nat (opp p t)
  pos : 0 < m
  most : (m : Int) ≤ nat (opp p t)
  told : (nat (opp p t) - 2) / (nat (opp p t) - nat (opp s t)) = (m : Int)
  ok : EvenOk t [p, s] (m / 2)
  dw : Dw (alt m p s) t (At.walk t (alt m p s))
  end_ : Foot (At.walk t (alt m p s))
theorem even_at {t : T3} {p s x : P3} (d : Down p t) (h1 : p ≠ s) (h2 : s ≠ x) (h3 : p ≠ x) (hx : nat (opp x t) = 2) : ∃ m, EvenAt t p s m := by
  have lt : nat (opp s t) < nat (opp p t) ∧ 2 ≤ nat (opp s t) := by
    have t1 := d.top
    have t2 := d.2.1
    have t3 := d.2.2.1
    rcases sides h1 h2 h3 t with ⟨a, b⟩ | ⟨a, b⟩
    · rw [a] at t1 t2
      exact ⟨t1.1, t2⟩
    · rw [b] at t1 t3
      exact ⟨t1.2, t3⟩
  obtain ⟨σ, hσ, hs⟩ := ring_sign d.1
  have ex : opp x t = 2 * σ := by rw [hs x, hx, Int.mul_comm]
  have ep := hs p
  have es := hs s
  generalize hA : nat (opp p t) = A at *
  generalize hB : nat (opp s t) = B at *
  have q0 : 0 ≤ (A - 2) / (A - B) := Int.ediv_nonneg (by omega) (by omega)
  have dm := Int.mul_ediv_add_emod (A - 2) (A - B)
  have r0 := Int.emod_nonneg (A - 2) (show A - B ≠ 0 by omega)
  have r1 := Int.emod_lt_of_pos (A - 2) (show 0 < A - B by omega)
  have q1 : 1 ≤ (A - 2) / (A - B) := by
    by_cases z : (A - 2) / (A - B) = 0
    · rw [z, Int.mul_zero] at dm
      omega
    · omega
  obtain ⟨m, hm⟩ : ∃ m : Nat, (A - 2) / (A - B) = (m : Int) := ⟨((A - 2) / (A - B)).toNat, by omega⟩
  rw [hm] at dm q1
  rw [Int.mul_comm] at dm
  have e1 : ((m : Int) + 1) * (A - B) = m * (A - B) + (A - B) := by rw [Int.add_mul, Int.one_mul]
  have c1 : 2 ≤ A - m * (A - B) := by omega
  have c2 : A - (m + 1) * (A - B) < 2 := by rw [e1]; omega
  obtain ⟨w1, w2⟩ := alt_way m t p s x σ A B h1 h2 h3 hσ ex ep es (by omega) c1 c2
  refine ⟨m, h1, by rw [hA, hB]; omega, by omega, ?_, by rw [hA, hB]; exact hm, ⟨p, s, x, σ, A, B, rfl, h1, h2, h3, hσ, ex, ep, es, fun k hk => ?_⟩, w1, w2⟩
  · rw [hA]
    have : (m : Int) * 1 ≤ m * (A - B) := Int.mul_le_mul_of_nonneg_left (by omega) (by omega)
    omega
  · have l1 : (2 * (k : Int) + 2) * (A - B) ≤ m * (A - B) := Int.mul_le_mul_of_nonneg_right (by omega) (by omega)
    have l2 : (2 * (k : Int) + 2) * (A - B) = 2 * k * (A - B) + 2 * (A - B) := by rw [Int.add_mul]
    have l3 : 2 * (k : Int) * (B - A) = -(2 * k * (A - B)) := by rw [show B - A = -(A - B) by omega, Int.mul_neg]
    have l4 : (2 * (k : Int) + 1) * (B - A) = -(2 * k * (A - B)) + (B - A) := by rw [Int.add_mul, Int.one_mul, l3]
    rw [l3, l4]
    omega
def pairW (m : Nat) (p s : P3) : List L2.V := if m % 2 = 1 then [.int p.i, .int s.i] else [.int s.i, .int p.i]
/-- few turns down to a tie of two arrows -/
theorem far_bound {L : Nat} {x : Int} (h : L ≤ 2000) (hx : 3 ≤ x) (hb : (3 : Int) ^ L * x ≤ 2 ^ L * GR) : L + 1 ≤ 2000 := by
  by_cases e : L = 2000
  · subst e
    have h1 : (3 : Int) ^ 2000 * 3 ≤ 3 ^ 2000 * x := Int.mul_le_mul_of_nonneg_left hx (by decide +kernel)
    have h2 : ¬ (3 : Int) ^ 2000 * 3 ≤ 2 ^ 2000 * GR := by decide +kernel
    exact absurd (Int.le_trans h1 hb) h2
  · omega
theorem far_step {L : Nat} {p q : P3} {t : T3} (d : Down p t) (k1 : 3 ≤ nat (co p t)) (k2 : 3 ≤ nat (go p t)) (hb : (3 : Int) ^ L * nat (opp p t) ≤ 2 ^ L * GR) (dq : Down q (turn p t)) : (3 : Int) ^ (L + 1) * nat (opp q (turn p t)) ≤ 2 ^ (L + 1) * GR := by
  have ne : p ≠ q := fun z => by
    subst z
    have h1 := down_less d
    have h2 := down_less dq
    rw [turn_turn] at h2
    omega
  rw [opp_turn_ne ne, nat_neg]
  have lt := d.2.2.2
  have hq : 3 * nat (opp q t) ≤ nat (co p t) * nat (go p t) := by
    have hz : opp q t = co p t ∨ opp q t = go p t := by
      rw [co_opp, go_opp]
      rcases other ne with e | e
      · exact .inl (by rw [e])
      · exact .inr (by rw [e]; cases q <;> rfl)
    rcases hz with e | e
    · rw [e, Int.mul_comm]
      exact Int.mul_le_mul_of_nonneg_left k2 (nat_nonneg _)
    · rw [e]
      exact Int.mul_le_mul_of_nonneg_right k1 (nat_nonneg _)
  rw [Int.pow_succ, Int.pow_succ, Int.mul_assoc, show (2 : Int) ^ L * 2 * GR = 2 * (2 ^ L * GR) by rw [Int.mul_comm ((2 : Int) ^ L) 2, Int.mul_assoc]]
  have h3 : (3 : Int) ^ L * (3 * nat (opp q t)) ≤ 3 ^ L * (2 * nat (opp p t)) := Int.mul_le_mul_of_nonneg_left (by omega) (Int.le_of_lt (Int.pow_pos (by decide)))
  have h4 : (3 : Int) ^ L * (2 * nat (opp p t)) = 2 * (3 ^ L * nat (opp p t)) := by rw [← Int.mul_assoc, Int.mul_comm ((3 : Int) ^ L) 2, Int.mul_assoc]
  omega
theorem min_three {t : T3} {k : Int} : k < min (min (nat t.1) (nat t.2.1)) (nat t.2.2) ↔ ∀ p, k < nat (opp p t) := by
  obtain ⟨x, y, z⟩ := t
  constructor
  · intro h p
    have h : k < min (min (nat x) (nat y)) (nat z) := h
    cases p <;> simp only [opp] <;> omega
  · intro h
    have h1 : k < nat x := h .c
    have h2 : k < nat y := h .a
    have h3 : k < nat z := h .b
    show k < min (min (nat x) (nat y)) (nat z)
    omega
/-! ### the members of a foot, found one by one -/
/-- a row of turns within the foot -/
def FW (e : T3) (ps : List P3) (u : T3) : Prop := At.walk e ps = u ∧ ∀ i, 0 < i → i ≤ ps.length → Foot (At.walk e (ps.take i))
theorem FW.fr {e : T3} : ∀ {ps : List P3} {u : T3}, FW e ps u → FR e u := fun {ps u} h => by
  obtain ⟨rfl, h⟩ := h
  have go : ∀ i, i ≤ ps.length → FR e (At.walk e (ps.take i)) := by
    intro i
    induction i with
    | zero => intro _; exact .here
    | succ i ih =>
      intro hi
      have hlt : i < ps.length := by omega
      have f := h (i + 1) (by omega) hi
      rw [List.take_add_one, List.getElem?_eq_getElem hlt] at f ⊢
      rw [show (some ps[i]).toList = [ps[i]] from rfl, walk_append] at f ⊢
      exact .step (ih (by omega)) f
  have := go ps.length (Nat.le_refl _)
  rwa [List.take_length] at this
theorem FW.step {e u : T3} {ps : List P3} {p : P3} (h : FW e ps u) (f : Foot (turn p u)) : FW e (ps ++ [p]) (turn p u) := by
  obtain ⟨rfl, h⟩ := h
  refine ⟨by rw [walk_append]; rfl, fun i h0 hi => ?_⟩
  rw [List.length_append] at hi
  have hi : i ≤ ps.length + 1 := hi
  by_cases e1 : i ≤ ps.length
  · rw [List.take_append_of_le_length e1]
    exact h i h0 e1
  · have : i = (ps ++ [p]).length := by rw [List.length_append]; show i = ps.length + 1; omega
    rw [this, List.take_length, walk_append]
    exact f
theorem nodup_le {α : Type} [DecidableEq α] : ∀ {us L : List α}, us.Nodup → (∀ u ∈ us, u ∈ L) → us.length ≤ L.length
  | [], _, _, _ => (Nat.zero_le _)
  | u :: us, L, nd, h => by
    (obtain ⟨n1, n2⟩ := List.nodup_cons.mp nd)
    have hu := h u List.mem_cons_self
    have := nodup_le (us := us) (L := L.erase u) n2 fun x hx => (List.mem_erase_of_ne (fun z => n1 (by rw [← z]; exact hx))).mpr (h x (List.mem_cons_of_mem _ hx))
    rw [List.length_erase_of_mem hu] at this
    have := List.length_pos_of_mem hu
    rw [List.length_cons]
    omega
theorem few_of {e : T3} (fe : Foot e) {us : List T3} (nd : us.Nodup) (h : ∀ u ∈ us, FR e u) : us.length ≤ 36 := by
  obtain ⟨L, hl, hm⟩ := foot_few fe
  exact Nat.le_trans (nodup_le nd fun u hu => hm u (h u hu)) hl
/-- what is closed has all -/
theorem all_of {e : T3} {us : List T3} (he : e ∈ us) (h : ∀ u ∈ us, ∀ p, Foot (turn p u) → turn p u ∈ us) {u : T3} (r : FR e u) : u ∈ us := by
  induction r with
  | here => exact he
  | step _ f ih => exact h _ ih _ f
end At

namespace At
open L2 PyProof.Rows PySem.Spec PySem
/-- all sizes are three or more ahead of each of these turns -/
def Hi (us : List P3) (t : T3) : Prop := ∀ i, i < us.length → ∀ s, 3 ≤ nat (opp s (At.walk t (us.take i)))
theorem Hi.push {us : List P3} {t t' : T3} (h : Hi us t) (d : Dw us t t') (c : ∀ s, 3 ≤ nat (opp s t')) (p : P3) : Hi (us ++ [p]) t := fun i hi s => by
  rw [List.length_append] at hi
  have hi : i < us.length + 1 := hi
  rw [List.take_append_of_le_length (by omega)]
  by_cases z : i < us.length
  · exact h i z s
  · rw [List.take_of_length_le (by omega), d.walk]
    exact c s
/-- where the least size is two behind so many turns down, there are no more of them -/
theorem Hi.le {us vs : List P3} {t : T3} {k : Nat} {s : P3} (h : Hi us t) (c : nat (opp s (At.walk t ((us ++ vs).take k))) ≤ 2) : us.length ≤ k := by
  refine Nat.le_of_not_lt fun z => ?_
  rw [List.take_append_of_le_length (by omega)] at c
  have := h k z s
  omega
end At

namespace At
open L2 PyProof.Rows PySem.Spec PySem
/-! ### the dict of the members of a foot -/
abbrev Mem := T3 × Addr × List P3
def tk (u : T3) : List L2.Key := [.inl u.1, .inl u.2.1, .inl u.2.2]
theorem tk_tv (u : T3) : (tk u).map kV = tv u := rfl
theorem tk_inj {u v : T3} : tk u = tk v ↔ u = v := by
  obtain ⟨x, y, z⟩ := u
  obtain ⟨x', y', z'⟩ := v
  constructor
  · intro h
    simp only [tk, List.cons.injEq, Sum.inl.injEq, and_true] at h
    obtain ⟨rfl, rfl, rfl⟩ := h
    rfl
  · intro h
    rw [h]
def entW (m : Mem) : List L2.Key × V := (tk m.1, .ref m.2.1)
theorem val_none {u : T3} : ∀ {ms : List Mem}, u ∉ ms.map (fun m => m.1) → valV (ms.map entW) (tk u) = none
  | [], _ => rfl
  | m :: ms, h => by
    rw [List.map_cons, List.mem_cons] at h
    rw [List.map_cons, valV_neg (fun z => h (.inl (tk_inj.mp z).symm))]
    exact val_none fun z => h (.inr z)
theorem val_some {m : Mem} : ∀ {ms : List Mem}, (ms.map (fun m => m.1)).Nodup → m ∈ ms → valV (ms.map entW) (tk m.1) = some (.ref m.2.1)
  | x :: ms, nd, h => by
    (rw [List.map_cons, List.nodup_cons] at nd)
    (rcases List.mem_cons.mp h with rfl | h)
    · rw [List.map_cons, valV_pos (show (entW m).1 = tk m.1 from rfl)]
      rfl
    · rw [List.map_cons, valV_neg (fun z => nd.1 (by rw [show x.1 = m.1 from tk_inj.mp z]; exact List.mem_map.mpr ⟨m, h, rfl⟩))]
      exact val_some nd.2 h
theorem val_is {u : T3} {ms : List Mem} (nd : (ms.map (fun m => m.1)).Nodup) : (valV (ms.map entW) (tk u)).isSome = decide (u ∈ ms.map fun m => m.1) := by
  by_cases h : u ∈ ms.map fun m => m.1
  · rw [decide_eq_true h]
    obtain ⟨m, hm, rfl⟩ := List.mem_map.mp h
    rw [val_some nd hm]
    rfl
  · rw [decide_eq_false h, val_none h]
    rfl
theorem put_new {u : T3} {l : Addr} {ps : List P3} {ms : List Mem} (h : u ∉ ms.map fun m => m.1) : putK (ms.map entW) (tk u) (.ref l) = (ms ++ [(u, l, ps)]).map entW := by
  unfold putK
  rw [valV_any, val_none h, List.map_append]
  rfl
structure BI (H0 H : Hp) (d fl : Addr) (e : T3) (ms : List Mem) : Prop where
  ex : Ext H0 H
  d0 : H0 d = none
  ne : fl ≠ d
  at_ : H d = some (.dT (ms.map entW))
  nd : (ms.map (fun m => m.1)).Nodup
  me : e ∈ ms.map fun m => m.1
  ok : ∀ m ∈ ms, FW e m.2.2 m.1 ∧ m.2.2.length < ms.length ∧ m.2.1 ≠ fl ∧ H m.2.1 = some (.lst (pl m.2.2))
theorem BI.ext {H0 H H' : Hp} {d fl : Addr} {e : T3} {ms : List Mem} (b : BI H0 H d fl e ms) (x : Ext H H') : BI H0 H' d fl e ms :=
  ⟨b.ex.trans x, b.d0, b.ne, x _ _ b.at_, b.nd, b.me, fun m hm => by
    obtain ⟨h1, h2, h3, h4⟩ := b.ok m hm
    exact ⟨h1, h2, h3, x _ _ h4⟩⟩
theorem BI.few {H0 H : Hp} {d fl : Addr} {e : T3} {ms : List Mem} (b : BI H0 H d fl e ms) (fe : Foot e) : ms.length ≤ 36 := by
  have := few_of fe b.nd fun u hu => by
    obtain ⟨m, hm, rfl⟩ := List.mem_map.mp hu
    exact (b.ok m hm).1.fr
  rwa [List.length_map] at this
/-- the list that is written to -/
theorem BI.mut {H0 H : Hp} {d fl : Addr} {e : T3} {ms : List Mem} {o : HO} (b : BI H0 H d fl e ms) (n : H0 fl = none) : BI H0 (upd H fl o) d fl e ms :=
  ⟨b.ex.mut n, b.d0, b.ne, by rw [upd_ne (Ne.symm b.ne)]; exact b.at_, b.nd, b.me, fun m hm => by
    obtain ⟨h1, h2, h3, h4⟩ := b.ok m hm
    exact ⟨h1, h2, h3, by rw [upd_ne h3]; exact h4⟩⟩
/-- another list will be written to -/
theorem BI.swap {H0 H : Hp} {d fl gl : Addr} {e : T3} {ms : List Mem} (b : BI H0 H d fl e ms) (n : H gl = none) : BI H0 H d gl e ms :=
  ⟨b.ex, b.d0, (fun z => by rw [z, b.at_] at n; cases n), b.at_, b.nd, b.me, fun m hm => by
    obtain ⟨h1, h2, h3, h4⟩ := b.ok m hm
    exact ⟨h1, h2, (fun z => by rw [z, n] at h4; cases h4), h4⟩⟩
/-- one more member -/
theorem BI.put {H0 H : Hp} {d fl : Addr} {e : T3} {ms : List Mem} {u : T3} {l : Addr} {ps : List P3} (b : BI H0 H d fl e ms) (n : u ∉ ms.map fun m => m.1) (w : FW e ps u) (len : ps.length ≤ ms.length) (ll : l ≠ fl) (hl : H l = some (.lst (pl ps))) :
    BI H0 (upd H d (.dT ((ms ++ [(u, l, ps)]).map entW))) d fl e (ms ++ [(u, l, ps)]) := by
  refine ⟨b.ex.mut b.d0, b.d0, b.ne, upd_same, ?_, by rw [List.map_append]; exact List.mem_append_left _ b.me, fun m hm => ?_⟩
  · (rw [List.map_append, List.nodup_append])
    refine ⟨b.nd, by simp, fun x hx y hy => ?_⟩
    rw [List.mem_singleton.mp hy]
    exact fun z => n (by rw [← show x = u from z]; exact hx)
  · have past : ∀ {a : Addr} {xs : List V}, H a = some (.lst xs) → upd H d (.dT ((ms ++ [(u, l, ps)]).map entW)) a = some (.lst xs) := fun {a xs} h => by
      rw [upd_ne (fun z => by rw [z, b.at_] at h; cases h)]
      exact h
    rw [List.length_append]
    (rcases List.mem_append.mp hm with hm | hm)
    · obtain ⟨h1, h2, h3, h4⟩ := b.ok m hm
      exact ⟨h1, Nat.lt_succ_of_lt h2, h3, past h4⟩
    · (rw [List.mem_singleton.mp hm])
      exact ⟨w, Nat.lt_succ_of_le len, ll, past hl⟩
/-- a list of triples -/
def TL (H : Hp) (a : Addr) (xs : List T3) : Prop := ∃ rs : List Addr, H a = some (.lst (rs.map .ref)) ∧ rs.length = xs.length ∧ ∀ (i : Nat) (r : Addr), rs[i]? = some r → ∃ u, xs[i]? = some u ∧ H r = some (.tup (tv u))
theorem TL.ext {H H' : Hp} {a : Addr} {xs : List T3} (t : TL H a xs) (x : Ext H H') : TL H' a xs := by
  obtain ⟨rs, h1, h2, h3⟩ := t
  refine ⟨rs, x _ _ h1, h2, fun i r hr => ?_⟩
  obtain ⟨u, h4, h5⟩ := h3 i r hr
  exact ⟨u, h4, x _ _ h5⟩
/-- past a change of a list or a dict -/
theorem TL.past {H : Hp} {a b : Addr} {xs : List T3} {o o' : HO} (t : TL H a xs) (hb : H b = some o) (no : ∀ ys, o ≠ .tup ys) (ne : a ≠ b) : TL (upd H b o') a xs := by
  obtain ⟨rs, h1, h2, h3⟩ := t
  refine ⟨rs, by rw [upd_ne ne]; exact h1, h2, fun i r hr => ?_⟩
  obtain ⟨u, h4, h5⟩ := h3 i r hr
  refine ⟨u, h4, ?_⟩
  rw [upd_ne (fun z => by
    rw [z, hb] at h5
    exact no _ (Option.some.inj h5))]
  exact h5
theorem TL.push {H : Hp} {a r : Addr} {xs : List T3} {u : T3} (t : TL H a xs) (hr : H r = some (.tup (tv u))) : ∃ ys, H a = some (.lst ys) ∧ ys.length = xs.length ∧ TL (upd H a (.lst (ys ++ [.ref r]))) a (xs ++ [u]) := by
  obtain ⟨rs, h1, h2, h3⟩ := t
  have past : ∀ {b : Addr} {v : T3}, H b = some (.tup (tv v)) → upd H a (.lst (rs.map V.ref ++ [.ref r])) b = some (.tup (tv v)) := fun {b v} h => by
    rw [upd_ne (fun z => by rw [z, h1] at h; cases h)]
    exact h
  refine ⟨_, h1, by rw [List.length_map, h2], rs ++ [r], by rw [upd_same, List.map_append]; rfl, by rw [List.length_append, List.length_append, h2]; rfl, fun i s hs => ?_⟩
  rcases Nat.lt_trichotomy i rs.length with c | c | c
  · rw [List.getElem?_append_left c] at hs
    obtain ⟨v, h4, h5⟩ := h3 i s hs
    exact ⟨v, by rw [List.getElem?_append_left (by omega)]; exact h4, past h5⟩
  · subst c
    rw [List.getElem?_append_right (Nat.le_refl _), Nat.sub_self] at hs
    cases Option.some.inj hs
    exact ⟨u, by rw [h2, List.getElem?_append_right (Nat.le_refl _), Nat.sub_self]; rfl, past hr⟩
  · rw [List.getElem?_eq_none (by rw [List.length_append]; exact c)] at hs
    cases hs
theorem TL.nil {H : Hp} {a : Addr} : TL (upd H a (.lst [])) a [] := ⟨[], upd_same, rfl, fun i r h => by cases h⟩
theorem p3_of {j : Nat} (h : j < 3) : ∃ p : P3, p.i = (j : Int) := by
  match j, h with
  | 0, _ => exact ⟨.a, rfl⟩
  | 1, _ => exact ⟨.b, rfl⟩
  | 2, _ => exact ⟨.c, rfl⟩
theorem p3_ge (p : P3) : 0 ≤ p.i := by cases p <;> decide
theorem p3_lt (p : P3) : p.i < 3 := by cases p <;> decide
end At

namespace At
open L2 PyProof.Rows PySem.Spec PySem
/-! ### the foot as an ascending list -/
theorem lt3_total {u v : T3} (h1 : lt3 u v = false) (h2 : lt3 v u = false) : u = v := by
  obtain ⟨x, y, z⟩ := u
  obtain ⟨x', y', z'⟩ := v
  have e1 : x = x' := by
    by_cases a1 : x < x'
    · simp [lt3, a1] at h1
    · by_cases a2 : x' < x
      · simp [lt3, a2] at h2
      · omega
  subst e1
  have e2 : y = y' := by
    by_cases a1 : y < y'
    · simp [lt3, a1] at h1
    · by_cases a2 : y' < y
      · simp [lt3, a2] at h2
      · omega
  subst e2
  have e3 : z = z' := by
    by_cases a1 : z < z'
    · simp [lt3, a1] at h1
    · by_cases a2 : z' < z
      · simp [lt3, a2] at h2
      · omega
  rw [e3]
abbrev Asc (us : List T3) : Prop := us.Pairwise fun u v => lt3 v u = false
theorem asc_one : ∀ {l m : List T3}, Asc l → Asc m → l.Nodup → m.Nodup → (∀ u, u ∈ l ↔ u ∈ m) → l = m
  | [], [], _, _, _, _, _ => (rfl)
  | [], y :: m, _, _, _, _, h => absurd ((h y).mpr List.mem_cons_self) (by simp)
  | x :: l, [], _, _, _, _, h => absurd ((h x).mp List.mem_cons_self) (by simp)
  | x :: l, y :: m, a1, a2, n1, n2, h => by
    obtain ⟨p1, q1⟩ := List.pairwise_cons.mp a1
    obtain ⟨p2, q2⟩ := List.pairwise_cons.mp a2
    obtain ⟨r1, s1⟩ := List.nodup_cons.mp n1
    obtain ⟨r2, s2⟩ := List.nodup_cons.mp n2
    have e : x = y := by
      rcases List.mem_cons.mp ((h x).mp List.mem_cons_self) with e | hx
      · exact e
      · rcases List.mem_cons.mp ((h y).mpr List.mem_cons_self) with e | hy
        · exact e.symm
        · exact lt3_total (p2 x hx) (p1 y hy)
    subst e
    refine congrArg _ (asc_one q1 q2 s1 s2 fun u => ⟨fun hu => ?_, fun hu => ?_⟩)
    · rcases List.mem_cons.mp ((h u).mp (List.mem_cons_of_mem _ hu)) with z | z
      · exact absurd (z ▸ hu) r1
      · exact z
    · rcases List.mem_cons.mp ((h u).mpr (List.mem_cons_of_mem _ hu)) with z | z
      · exact absurd (z ▸ hu) r2
      · exact z
/-- the members of the foot of b, ascending -/
structure FootL (b : T3) (us : List T3) : Prop where
  nd : us.Nodup
  asc : Asc us
  all : ∀ u, u ∈ us ↔ FR b u
theorem FootL.one {b c : T3} {us vs : List T3} (f : FootL b us) (g : FootL c vs) (fb : Foot b) (r : FR b c) : us = vs :=
  asc_one f.asc g.asc f.nd g.nd fun u => by rw [f.all, g.all, r.same fb]
theorem FootL.few {b : T3} {us : List T3} (f : FootL b us) (fb : Foot b) : us.length ≤ 36 := few_of fb f.nd fun u hu => (f.all u).mp hu
theorem FootL.ne {b : T3} {us : List T3} (f : FootL b us) : us ≠ [] := fun z => by
  have := (f.all b).mpr .here
  rw [z] at this
  cases this
/-- a tuple of triples -/
def TT (H : Hp) (a : Addr) (xs : List T3) : Prop := ∃ rs : List Addr, H a = some (.tup (rs.map .ref)) ∧ rs.length = xs.length ∧ ∀ (i : Nat) (r : Addr), rs[i]? = some r → ∃ u, xs[i]? = some u ∧ H r = some (.tup (tv u))
theorem TT.ext {H H' : Hp} {a : Addr} {xs : List T3} (t : TT H a xs) (x : Ext H H') : TT H' a xs := by
  obtain ⟨rs, h1, h2, h3⟩ := t
  refine ⟨rs, x _ _ h1, h2, fun i r hr => ?_⟩
  obtain ⟨u, h4, h5⟩ := h3 i r hr
  exact ⟨u, h4, x _ _ h5⟩
/-- the tuple of a list -/
theorem TL.tup {H : Hp} {a t : Addr} {xs : List T3} {ys : List V} (h : TL H a xs) (hy : H a = some (.lst ys)) (nt : H t = none) : TT (upd H t (.tup ys)) t xs := by
  obtain ⟨rs, h1, h2, h3⟩ := h
  cases Option.some.inj (h1.symm.trans hy)
  refine ⟨rs, upd_same, h2, fun i r hr => ?_⟩
  obtain ⟨u, h4, h5⟩ := h3 i r hr
  exact ⟨u, h4, mem_new nt h5⟩
def leastL (us : List T3) : Bool × T3 := match us.filter fun u => !decide (ring u) with
  | x :: _ => (true, x)
  | [] => (false, us.headD (0, 0, 0))
def lword (b : Bool) : Str := if b = true then ("free" : Str) else ("ring" : Str)
def datL (x : Bool × T3) : PyData := .tuple [.str (lword x.1), dat3 x.2]
theorem eqvL (x y : Bool × T3) : PyData.eqv (datL x) (datL y) = decide (x = y) := by
  obtain ⟨b, u⟩ := x
  obtain ⟨c, v⟩ := y
  obtain ⟨x, y, z⟩ := u
  obtain ⟨x', y', z'⟩ := v
  simp only [datL, dat3, PyData.eqv, PyData.eqvAll, Bool.and_true]
  have w : (lword b == lword c) = decide (b = c) := by cases b <;> cases c <;> decide +kernel
  rw [w]
  by_cases h : ((b, x, y, z) : Bool × T3) = (c, x', y', z')
  · rw [decide_eq_true h]
    simp only [Prod.mk.injEq] at h
    obtain ⟨rfl, rfl, rfl, rfl⟩ := h
    simp
  · rw [decide_eq_false h]
    simp only [Prod.mk.injEq] at h
    simp only [Bool.and_eq_false_iff, decide_eq_false_iff_not, beq_eq_false_iff_ne, ne_eq]
    by_cases h1 : b = c <;> by_cases h2 : x = x' <;> by_cases h3 : y = y' <;> by_cases h4 : z = z' <;> simp [h1, h2, h3, h4] at h ⊢
theorem shapedL (x : Bool × T3) : SeqAt.shaped (datL x) = true := by
  obtain ⟨b, u⟩ := x
  unfold SeqAt.shaped datL dat3
  simp only [PyData.canLay0, PyData.depth, PyData.canLayAll0, PyData.depthAll]
  have e : ∀ b : Bool, (PyData.strOk (lword b) && (true && (true && (true && true)) && true) && decide (max 0 (max (max 0 (max 0 (max 0 0)) + 1) 0) + 1 ≤ 64)) = true := by decide +kernel
  exact e b
/-- what least tells -/
def LeastAt (H : Hp) (a : Addr) (x : Bool × T3) : Prop := ∃ r, H a = some (.tup [.str (lword x.1), .ref r]) ∧ H r = some (.tup (tv x.2))
theorem LeastAt.ext {H H' : Hp} {a : Addr} {x : Bool × T3} (h : LeastAt H a x) (e : Ext H H') : LeastAt H' a x := by
  obtain ⟨r, h1, h2⟩ := h
  exact ⟨r, e _ _ h1, e _ _ h2⟩
theorem LeastAt.dp {K : PySem.W.Frag} {H : Hp} {a : Addr} {x : Bool × T3} (h : LeastAt H a x) : Dp K H (.ref a) (datL x) := by
  obtain ⟨r, h1, h2⟩ := h
  exact .tup (SqT.of h1) (.cons (.str _) (.cons (dp3 h2) .nil))
theorem keys_tl {H : Hp} : ∀ {ms : List Mem} {bs : List Addr}, IsKeys H (ms.map entW) bs → bs.length = ms.length ∧ ∀ (i : Nat) (r : Addr), bs[i]? = some r → ∃ u, (ms.map fun m => m.1)[i]? = some u ∧ H r = some (.tup (tv u))
  | [], _, h => by
    unfold IsKeys at h
    cases h
    exact ⟨rfl, fun i r z => by cases z⟩
  | m :: ms, _, h => by
    unfold IsKeys at h
    rw [List.map_cons] at h
    cases h with
    | cons h1 t =>
      obtain ⟨l, each⟩ := keys_tl (ms := ms) t
      refine ⟨by rw [List.length_cons, List.length_cons, l], fun i r hr => ?_⟩
      cases i with
      | zero =>
        cases Option.some.inj hr
        exact ⟨m.1, rfl, h1⟩
      | succ i => exact each i r hr
/-- each address with what stands there -/
theorem TL.pairs {H : Hp} {a : Addr} {us : List T3} (t : TL H a us) : ∃ L : List (Addr × T3), H a = some (.lst (L.map fun q => .ref q.1)) ∧ L.map (fun q => q.2) = us ∧ ∀ q ∈ L, H q.1 = some (.tup (tv q.2)) := by
  obtain ⟨rs, h1, h2, h3⟩ := t
  refine ⟨rs.zip us, ?_, ?_, fun q hq => ?_⟩
  · rw [h1]
    have e : (rs.zip us).map (fun q => q.1) = rs := List.map_fst_zip (Nat.le_of_eq h2)
    rw [show ((rs.zip us).map fun q => V.ref q.1) = ((rs.zip us).map (fun q => q.1)).map V.ref by rw [List.map_map]; rfl, e]
  · exact List.map_snd_zip (Nat.le_of_eq h2.symm)
  · obtain ⟨i, hi, rfl⟩ := List.mem_iff_getElem.mp hq
    rw [List.length_zip] at hi
    obtain ⟨u, h4, h5⟩ := h3 i _ (List.getElem?_eq_getElem (show i < rs.length by omega))
    rw [List.getElem?_eq_getElem (show i < us.length by omega)] at h4
    rw [List.getElem_zip]
    rw [Option.some.inj h4]
    exact h5
theorem TL.of {H : Hp} {a : Addr} {L : List (Addr × T3)} (h : H a = some (.lst (L.map fun q => .ref q.1))) (each : ∀ q ∈ L, H q.1 = some (.tup (tv q.2))) : TL H a (L.map fun q => q.2) := by
  refine ⟨L.map fun q => q.1, by rw [h, List.map_map]; rfl, by rw [List.length_map, List.length_map], fun i r hr => ?_⟩
  rw [List.getElem?_map] at hr
  obtain ⟨q, hq, rfl⟩ := Option.map_eq_some_iff.mp hr
  exact ⟨q.2, by rw [List.getElem?_map, hq]; rfl, each q (List.mem_of_getElem? hq)⟩
/-- x in xs, for triples -/
theorem dpTL {K : PySem.W.Frag} {H : Hp} : ∀ {us : List T3} {rs : List Addr}, rs.length = us.length → (∀ (i : Nat) (r : Addr), rs[i]? = some r → ∃ u, us[i]? = some u ∧ H r = some (.tup (tv u))) → DpAll K H (rs.map V.ref) (us.map dat3)
  | [], [], _, _ => .nil
  | u :: us, r :: rs, hl, h => by
    obtain ⟨v, hv, hr⟩ := h 0 r rfl
    cases Option.some.inj hv
    exact .cons (dp3 hr) (dpTL (Nat.succ.inj hl) fun i r hi => h (i + 1) r hi)
  | [], _ :: _, hl, _ => by cases hl
  | _ :: _, [], hl, _ => by cases hl
theorem TL.dp {K : PySem.W.Frag} {H : Hp} {a : Addr} {us : List T3} (t : TL H a us) : Dp K H (.ref a) (.list (us.map dat3)) := by
  obtain ⟨rs, h1, h2, h3⟩ := t
  exact .lst (SqL.of h1) (dpTL h2 h3)
theorem eqv3d (u v : T3) : PyData.eqv (dat3 u) (dat3 v) = decide (u = v) := by
  obtain ⟨x, y, z⟩ := u
  obtain ⟨x', y', z'⟩ := v
  simp only [dat3, PyData.eqv, PyData.eqvAll, Bool.and_true]
  by_cases h : ((x, y, z) : T3) = (x', y', z')
  · rw [decide_eq_true h]
    simp only [Prod.mk.injEq] at h
    obtain ⟨rfl, rfl, rfl⟩ := h
    simp
  · rw [decide_eq_false h]
    simp only [Prod.mk.injEq] at h
    by_cases h2 : x = x' <;> by_cases h3 : y = y' <;> by_cases h4 : z = z' <;> simp [h2, h3, h4] at h ⊢
theorem any3 (us : List T3) (v : T3) : ((us.map dat3).any fun z => PyData.eqv z (dat3 v)) = decide (v ∈ us) := by
  (rw [List.any_map, Bool.eq_iff_iff, List.any_eq_true, decide_eq_true_eq])
  constructor
  · rintro ⟨u, hu, e⟩
    have e : PyData.eqv (dat3 u) (dat3 v) = true := e
    rw [eqv3d] at e
    rw [← of_decide_eq_true e]
    exact hu
  · intro h
    refine ⟨v, h, ?_⟩
    show PyData.eqv (dat3 v) (dat3 v) = true
    rw [eqv3d]
    exact decide_eq_true rfl
theorem lay3l : ∀ us : List T3, PyData.canLayAll0 (us.map dat3) = true ∧ PyData.depthAll (us.map dat3) ≤ 1
  | [] => by simp [PyData.canLayAll0, PyData.depthAll]
  | u :: us => by
    obtain ⟨a, b⟩ := lay3l us
    simp only [List.map_cons, PyData.canLayAll0, PyData.depthAll, a, dat3, PyData.canLay0, PyData.depth, Bool.and_true]
    exact ⟨trivial, by simp only [Nat.max_self]; omega⟩
theorem shaped3l (us : List T3) : SeqAt.shaped (.list (us.map dat3)) = true := by
  obtain ⟨a, b⟩ := lay3l us
  unfold SeqAt.shaped
  simp only [PyData.canLay0, PyData.depth, a, Bool.true_and]
  (exact decide_eq_true (by omega))
/-- one more in a list that was made since -/
theorem TL.add {H0 H : Hp} {a r : Addr} {us : List T3} {u : T3} (t : TL H a us) (e : Ext H0 H) (n : H0 a = none) (hr : H r = some (.tup (tv u))) : ∃ ys, H a = some (.lst ys) ∧ ys.length = us.length ∧ TL (upd H a (.lst (ys ++ [.ref r]))) a (us ++ [u]) ∧ Ext H0 (upd H a (.lst (ys ++ [.ref r]))) := by
  obtain ⟨ys, h1, h2, h3⟩ := t.push hr
  exact ⟨ys, h1, h2, h3, e.mut n⟩
theorem foot_bb {t b : T3} {n : Nat} (hb : big t ≤ GR) (w : Way n t b) : ∀ u, FR b u → big u ≤ BB := fun u r => by
  have go : ∀ {n : Nat} {t b : T3}, Way n t b → ∃ ps, Dw ps t b := by
    intro n t b w
    induction w with
    | here h => exact ⟨[], rfl⟩
    | @down n p t b d w ih =>
      obtain ⟨ps, h⟩ := ih
      exact ⟨p :: ps, d, h⟩
  obtain ⟨ps, dw⟩ := go w
  have bmk : 4 * mk b ≤ 3 * (BB * BB) := by
    have := mk_bb hb
    rw [← dw.walk, mk_walk]
    exact this
  exact r.big (B := BB) (by decide +kernel) bmk (Int.le_trans dw.big (Int.le_trans hb gr_bb))
theorem sum_big3 {t : T3} (h : big t ≤ GR) : szsum t ≤ MID := by
  obtain ⟨h1, h2, h3⟩ := big_le.mp h
  have : szsum t ≤ 3 * GR := by unfold szsum; omega
  exact Int.le_trans this (by decide +kernel)
end At

namespace At
open L2 PyProof.Rows PySem.Spec PySem
/-! ### five turns by turns at the two places of a tie of one -/
theorem five1 (R : P3) {u v w : Int} (hw : w = 1 ∨ w = -1) : walk (tri R u v w) [nxt R, prv R, nxt R, prv R, nxt R] = tri R (-v) (-u) (-w) := by
  simp only [walk, List.foldl, tri_next, tri_prev, Int.neg_neg]
  have h1 := push_by1 (v := v) (w := w) (u := u) hw
  generalize push v w u = a1 at h1 ⊢
  rw [push_comm (-w) a1]
  have h2 := push_by1 (v := a1) (w := -w) (u := -v) (by omega)
  generalize push a1 (-w) (-v) = b2 at h2 ⊢
  have h3 := push_by1 (v := b2) (w := w) (u := -a1) hw
  generalize push b2 w (-a1) = a3 at h3 ⊢
  rw [push_comm (-w) a3]
  have h4 := push_by1 (v := a3) (w := -w) (u := -b2) (by omega)
  generalize push a3 (-w) (-b2) = b4 at h4 ⊢
  have h5 := push_by1 (v := b4) (w := w) (u := -a3) hw
  generalize push b4 w (-a3) = a5 at h5 ⊢
  have e1 : a5 = -v := by
    rcases hw with rfl | rfl
    · rcases h1 with ⟨_, h1⟩ | ⟨h, _⟩ <;> rcases h2 with ⟨h, _⟩ | ⟨_, h2⟩ <;> rcases h3 with ⟨_, h3⟩ | ⟨h, _⟩ <;> rcases h4 with ⟨h, _⟩ | ⟨_, h4⟩ <;> rcases h5 with ⟨_, h5⟩ | ⟨h, _⟩ <;> omega
    · rcases h1 with ⟨h, _⟩ | ⟨_, h1⟩ <;> rcases h2 with ⟨_, h2⟩ | ⟨h, _⟩ <;> rcases h3 with ⟨h, _⟩ | ⟨_, h3⟩ <;> rcases h4 with ⟨_, h4⟩ | ⟨h, _⟩ <;> rcases h5 with ⟨h, _⟩ | ⟨_, h5⟩ <;> omega
  have e2 : -b4 = -u := by
    rcases hw with rfl | rfl
    · rcases h1 with ⟨_, h1⟩ | ⟨h, _⟩ <;> rcases h2 with ⟨h, _⟩ | ⟨_, h2⟩ <;> rcases h3 with ⟨_, h3⟩ | ⟨h, _⟩ <;> rcases h4 with ⟨h, _⟩ | ⟨_, h4⟩ <;> omega
    · rcases h1 with ⟨h, _⟩ | ⟨_, h1⟩ <;> rcases h2 with ⟨_, h2⟩ | ⟨h, _⟩ <;> rcases h3 with ⟨h, _⟩ | ⟨_, h3⟩ <;> rcases h4 with ⟨_, h4⟩ | ⟨h, _⟩ <;> omega
  rw [e1, e2]
theorem five2 (R : P3) {u v w : Int} (hw : w = 1 ∨ w = -1) : walk (tri R u v w) [prv R, nxt R, prv R, nxt R, prv R] = tri R (-v) (-u) (-w) := by
  have h := five1 R (u := -v) (v := -u) (w := -w) (by omega)
  simp only [Int.neg_neg] at h
  -- the other way round: five1 backwards
  have b := walk_back [nxt R, prv R, nxt R, prv R, nxt R] (tri R (-v) (-u) (-w))
  rw [h] at b
  have five1b : walk (tri R u v w) [nxt R, prv R, nxt R, prv R, nxt R] = tri R (-v) (-u) (-w) := b
  simp only [walk, List.foldl, tri_next, tri_prev, Int.neg_neg]
  rw [push_comm w u]
  have h1 := push_by1 (v := u) (w := w) (u := v) hw
  generalize push u w v = a1 at h1 ⊢
  have h2 := push_by1 (v := a1) (w := -w) (u := -u) (by omega)
  generalize push a1 (-w) (-u) = b2 at h2 ⊢
  rw [push_comm w b2]
  have h3 := push_by1 (v := b2) (w := w) (u := -a1) hw
  generalize push b2 w (-a1) = a3 at h3 ⊢
  have h4 := push_by1 (v := a3) (w := -w) (u := -b2) (by omega)
  generalize push a3 (-w) (-b2) = b4 at h4 ⊢
  rw [push_comm w b4]
  have h5 := push_by1 (v := b4) (w := w) (u := -a3) hw
  generalize push b4 w (-a3) = a5 at h5 ⊢
  have e1 : a5 = -u := by
    rcases hw with rfl | rfl
    · rcases h1 with ⟨_, h1⟩ | ⟨h, _⟩ <;> rcases h2 with ⟨h, _⟩ | ⟨_, h2⟩ <;> rcases h3 with ⟨_, h3⟩ | ⟨h, _⟩ <;> rcases h4 with ⟨h, _⟩ | ⟨_, h4⟩ <;> rcases h5 with ⟨_, h5⟩ | ⟨h, _⟩ <;> omega
    · rcases h1 with ⟨h, _⟩ | ⟨_, h1⟩ <;> rcases h2 with ⟨_, h2⟩ | ⟨h, _⟩ <;> rcases h3 with ⟨h, _⟩ | ⟨_, h3⟩ <;> rcases h4 with ⟨_, h4⟩ | ⟨h, _⟩ <;> rcases h5 with ⟨h, _⟩ | ⟨_, h5⟩ <;> omega
  have e2 : -b4 = -v := by
    rcases hw with rfl | rfl
    · rcases h1 with ⟨_, h1⟩ | ⟨h, _⟩ <;> rcases h2 with ⟨h, _⟩ | ⟨_, h2⟩ <;> rcases h3 with ⟨_, h3⟩ | ⟨h, _⟩ <;> rcases h4 with ⟨h, _⟩ | ⟨_, h4⟩ <;> omega
    · rcases h1 with ⟨h, _⟩ | ⟨_, h1⟩ <;> rcases h2 with ⟨_, h2⟩ | ⟨h, _⟩ <;> rcases h3 with ⟨h, _⟩ | ⟨_, h3⟩ <;> rcases h4 with ⟨_, h4⟩ | ⟨h, _⟩ <;> omega
  rw [e1, e2]
/-- a word of the two places -/
def Two (R : P3) (ps : List P3) : Prop := ps = [nxt R, prv R] ∨ ps = [prv R, nxt R]
theorem Two.half {R : P3} {ps : List P3} (h : Two R ps) {u v w : Int} (hw : w = 1 ∨ w = -1) : ∃ p s, ps = [p, s] ∧ walk (tri R u v w) [p, s, p, s, p] = tri R (-v) (-u) (-w) := by
  rcases h with rfl | rfl
  · exact ⟨_, _, rfl, five1 R hw⟩
  · exact ⟨_, _, rfl, five2 R hw⟩
theorem Two.round {R : P3} {ps : List P3} (h : Two R ps) {u v w : Int} (hw : w = 1 ∨ w = -1) : many 5 ps (tri R u v w) = tri R u v w := by
  rcases h with rfl | rfl
  · have e : many 5 [nxt R, prv R] (tri R u v w) = walk (walk (tri R u v w) [nxt R, prv R, nxt R, prv R, nxt R]) [prv R, nxt R, prv R, nxt R, prv R] := rfl
    rw [e, five1 R hw, five2 R (by omega)]
    simp only [Int.neg_neg]
  · have e : many 5 [prv R, nxt R] (tri R u v w) = walk (walk (tri R u v w) [prv R, nxt R, prv R, nxt R, prv R]) [nxt R, prv R, nxt R, prv R, nxt R] := rfl
    rw [e, five2 R hw, five1 R (by omega)]
    simp only [Int.neg_neg]
theorem Two.rounds {R : P3} {ps : List P3} (h : Two R ps) {u v w : Int} (hw : w = 1 ∨ w = -1) (n : Nat) : many (n * 5) ps (tri R u v w) = tri R u v w := by
  rw [many_round ps 5 _ (h.round hw), Nat.mul_mod_left]
  rfl
/-- beside a tie of none -/
theorem push_zero (u v : Int) : push u 0 v = v := by
  unfold push
  (rw [if_neg (by omega), if_neg (by omega)])
theorem none_two (R : P3) (u v : Int) : walk (tri R u v 0) [nxt R, prv R] = tri R (-u) (-v) 0 := by
  simp only [walk, List.foldl, tri_next, tri_prev, push_zero, Int.neg_zero]
  rw [push_comm, push_zero]
theorem none_four (R : P3) (u v : Int) : many 2 [nxt R, prv R] (tri R u v 0) = tri R u v 0 := by
  show walk (walk (tri R u v 0) [nxt R, prv R]) [nxt R, prv R] = _
  rw [none_two, none_two, Int.neg_neg, Int.neg_neg]
theorem dp3s {K : PySem.W.Frag} {H : Hp} : ∀ {us : List T3} {rs : List Addr}, rs.length = us.length → (∀ (i : Nat) (r : Addr), rs[i]? = some r → ∃ u, us[i]? = some u ∧ H r = some (.tup (tv u))) → DpAll K H (rs.map V.ref) (us.map dat3)
  | [], [], _, _ => .nil
  | u :: us, r :: rs, hl, h => by
    obtain ⟨v, hv, hr⟩ := h 0 r rfl
    cases Option.some.inj hv
    exact .cons (dp3 hr) (dp3s (Nat.succ.inj hl) fun i r hi => h (i + 1) r hi)
  | [], _ :: _, hl, _ => by cases hl
  | _ :: _, [], hl, _ => by cases hl
theorem TT.dp {K : PySem.W.Frag} {H : Hp} {a : Addr} {us : List T3} (t : TT H a us) : Dp K H (.ref a) (.tuple (us.map dat3)) := by
  obtain ⟨rs, h1, h2, h3⟩ := t
  exact .tup (SqT.of h1) (dp3s h2 h3)
theorem lay3s : ∀ us : List T3, PyData.canLayAll0 (us.map dat3) = true ∧ PyData.depthAll (us.map dat3) ≤ 1
  | [] => by simp [PyData.canLayAll0, PyData.depthAll]
  | u :: us => by
    obtain ⟨a, b⟩ := lay3s us
    simp only [List.map_cons, PyData.canLayAll0, PyData.depthAll, a, dat3, PyData.canLay0, PyData.depth, Bool.and_true]
    exact ⟨trivial, by simp only [Nat.max_self]; omega⟩
theorem shaped3s (us : List T3) : SeqAt.shaped (.tuple (us.map dat3)) = true := by
  obtain ⟨a, b⟩ := lay3s us
  unfold SeqAt.shaped
  simp only [PyData.canLay0, PyData.depth, a, Bool.true_and]
  (exact decide_eq_true (by omega))
theorem eqv3s : ∀ us : List T3, PyData.eqvAll (us.map dat3) (us.map dat3) = true
  | [] => by simp [PyData.eqvAll]
  | u :: us => by simp only [List.map_cons, PyData.eqvAll, eqv1, eqv3s us, Bool.and_self]
theorem eqvT (us : List T3) : PyData.eqv (.tuple (us.map dat3)) (.tuple (us.map dat3)) = true := by
  rw [PyData.eqv]
  exact eqv3s us
theorem two_back (R : P3) : (⟨(wd [nxt R, prv R]).cps.toList.reverse.toArray⟩ : Str) = wd [prv R, nxt R] := by cases R <;> rfl
def sqB : Nat → Int → Int
  | 0, B => B
  | n + 1, B => sqB n (B * B + B)
theorem walk_sq : ∀ (ps : List P3) {t : T3} {B : Int}, big t ≤ B → big (walk t ps) ≤ sqB ps.length B
  | [], _, _, h => h
  | p :: ps, t, B, h => walk_sq ps (t := turn p t) (turn_big h)
theorem sqB_up : ∀ (n : Nat) {B : Int}, 0 ≤ B → B ≤ sqB n B
  | 0, _, _ => Int.le_refl _
  | n + 1, B, h => by
    have h2 : 0 ≤ B * B := Int.mul_nonneg h h
    exact Int.le_trans (show B ≤ B * B + B by omega) (sqB_up n (by omega))
theorem sqB_mono : ∀ (n m : Nat) {B : Int}, 0 ≤ B → n ≤ m → sqB n B ≤ sqB m B
  | 0, m, _, h, _ => sqB_up m h
  | n + 1, m + 1, B, h, le => by
    have h2 : 0 ≤ B * B := Int.mul_nonneg h h
    exact sqB_mono n m (B := B * B + B) (by omega) (by omega)
  | _ + 1, 0, _, _, le => absurd le (by omega)
theorem five_huge {t : T3} (h : big t ≤ 10 ^ 40) {ps : List P3} (hl : ps.length ≤ 5) : big (walk t ps) ≤ HUGE := Int.le_trans (walk_sq ps h) (Int.le_trans (sqB_mono _ 5 (by decide) hl) (by decide +kernel))
theorem Two.len {R : P3} {ps : List P3} (h : Two R ps) : ps.length = 2 := by rcases h with rfl | rfl <;> rfl
theorem many_two (p s : P3) (t : T3) : many 2 [p, s] t = walk t [p, s, p, s] := rfl
theorem half_is (p s : P3) (t : T3) : rowWalk t [([p, s], 2), ([p], 1)] = walk t [p, s, p, s, p] := rfl
theorem big_half {t : T3} {p s : P3} (hb : big (walk t [p, s, p, s, p]) ≤ 10 ^ 40) : big (many 2 [p, s] t) ≤ GR := by
  have e : many 2 [p, s] t = turn p (walk t [p, s, p, s, p]) := by
    rw [many_two, show walk t [p, s, p, s, p] = turn p (walk t [p, s, p, s]) from rfl, turn_turn]
  rw [e]
  exact Int.le_trans (turn_big hb) (by decide +kernel)
theorem perm_tri (R : P3) (u v w : Int) : ([(tri R u v w).1, (tri R u v w).2.1, (tri R u v w).2.2] : List Int).Perm [u, v, w] := by
  cases R
  · show ([v, w, u] : List Int).Perm [u, v, w]
    exact (List.perm_append_comm (l₁ := [v, w]) (l₂ := [u]))
  · exact List.Perm.refl _
  · show ([w, u, v] : List Int).Perm [u, v, w]
    exact (List.perm_append_comm (l₁ := [w]) (l₂ := [u, v]))
theorem szs_tri (R : P3) (u v w : Int) : szs (tri R u v w) = tri R (nat u) (nat v) (nat w) := by cases R <;> rfl
theorem asc_perm {l m : List Int} (a : l.Pairwise (· ≤ ·)) (b : m.Pairwise (· ≤ ·)) (p : l.Perm m) : l = m := p.eq_of_pairwise (fun x y _ _ h k => Int.le_antisymm h k) a b
theorem perm_half (R : P3) (p r s : Int) : ([nat (tri R (-r) (-p) (-s)).1, nat (tri R (-r) (-p) (-s)).2.1, nat (tri R (-r) (-p) (-s)).2.2] : List Int).Perm [nat (tri R p r s).1, nat (tri R p r s).2.1, nat (tri R p r s).2.2] := by
  have h1 := perm_tri R (nat (-r)) (nat (-p)) (nat (-s))
  have h2 := perm_tri R (nat p) (nat r) (nat s)
  rw [← szs_tri] at h1 h2
  rw [nat_neg, nat_neg, nat_neg] at h1
  exact h1.trans ((List.Perm.swap (nat p) (nat r) [nat s]).trans h2.symm)
/-- the sizes' places: that of the tie of one, and the two others -/
theorem far_of (R : P3) : ∃ f g : P3, ([0, 1, 2] : List Int).filter (fun x => decide (x ≠ (nxt R).i)) = [f.i, g.i] ∧ ∀ (u v w : Int), go (nxt R) (tri R u v w) = w ∧ go f (tri R u v w) = go g (tri R v u w) ∧ go g (tri R u v w) = go f (tri R v u w) := by
  cases R
  · exact ⟨.a, .c, by decide, fun u v w => ⟨rfl, rfl, rfl⟩⟩
  · exact ⟨.a, .b, by decide, fun u v w => ⟨rfl, rfl, rfl⟩⟩
  · exact ⟨.b, .c, by decide, fun u v w => ⟨rfl, rfl, rfl⟩⟩
theorem range3 : (List.range 3).map (fun k => ((0 : Int) + (k : Nat))) = [0, 1, 2] := by decide
/-- inside a comprehension -/
theorem op_neDK {X : Cx} {K : PySem.W.Frag} (same : X.K = K) (hu : X.A.units + 64 < cLine) : OpR X (compareOp .NotEq) (rNeD K) := same ▸ op_neD hu
end At

namespace At
open L2 PyProof.Rows PySem.Spec PySem
/-! ### calls inside a comprehension, the frame by name -/
theorem cr_sumK {X : Cx} {K : PySem.W.Frag} (same : X.K = K) (calm : X.calm = true) : CallR X (.builtin "sum") (rSum K) := same ▸ cr_sum calm
theorem op_eqDK {X : Cx} {K : PySem.W.Frag} (same : X.K = K) (hu : X.A.units + 64 < cLine) : OpR X (compareOp .Eq) (rEqD K) := same ▸ op_eqD hu
/-- repr of a text, of None -/
def rReprS : List V → Hp → VK → Prop := fun xs H Q => ∃ x, xs = [x] ∧ ((∃ z, x = V.str z ∧ (reprText z).length ≤ sizeLine ∧ Q (.str (reprText z)) H) ∨ (x = .non ∧ Q (.str "None") H))
theorem call_reprS {X : Cx} : CallR X (.builtin "repr") rReprS := by
  intro pins s σ H xs us Q I rel z
  obtain ⟨x, rfl, z⟩ := z
  match us, rel with
  | [u], .cons ru .nil =>
    rcases z with ⟨z, rfl, hz, q⟩ | ⟨rfl, q⟩
    · obtain ⟨t, rfl⟩ := ru
      exact PySem.P.repr_of_str ⟨.str _, H, I.tok _, ⟨_, rfl⟩, q⟩ hz
    · obtain rfl : u = Value.none := ru
      exact PySem.P.repr_of_none ⟨.str _, H, I.tok _, ⟨_, rfl⟩, q⟩
end At

namespace At
open L2 PyProof.Rows PySem.Spec PySem
/-! ### feet of given numbers, by words -/
instance (p : P3) (t : T3) : Decidable (Down p t) := by unfold Down; infer_instance
instance (t : T3) : Decidable (Foot t) := decidable_of_iff (¬ Down .a t ∧ ¬ Down .b t ∧ ¬ Down .c t) ⟨fun h p => by cases p; exact h.1; exact h.2.1; exact h.2.2, fun h => ⟨h .a, h .b, h .c⟩⟩
def okW : T3 → List P3 → Bool
  | _, [] => true
  | b, p :: ps => decide (Foot (turn p b)) && okW (turn p b) ps
theorem okW_fr : ∀ {ps : List P3} {b : T3}, okW b ps = true → FR b (walk b ps)
  | [], _, _ => .here
  | p :: ps, b, h => by
    unfold okW at h
    (rw [Bool.and_eq_true, decide_eq_true_eq] at h)
    exact (FR.step .here h.1).trans (okW_fr (ps := ps) h.2)
def ascB : List T3 → Bool
  | [] => true
  | u :: us => us.all (fun v => !lt3 v u && decide (v ≠ u)) && ascB us
theorem ascB_ok : ∀ {us : List T3}, ascB us = true → Asc us ∧ us.Nodup
  | [], _ => ⟨.nil, .nil⟩
  | u :: us, h => by
    unfold ascB at h
    rw [Bool.and_eq_true, List.all_eq_true] at h
    obtain ⟨a, b⟩ := ascB_ok (us := us) h.2
    have h1 : ∀ v ∈ us, lt3 v u = false ∧ v ≠ u := fun v hv => by
      have := h.1 v hv
      simpa using this
    exact ⟨List.pairwise_cons.mpr ⟨fun v hv => (h1 v hv).1, a⟩, List.nodup_cons.mpr ⟨fun z => (h1 u z).2 rfl, b⟩⟩
/-- all that is asked of a list of words for it to tell the foot of b -/
def footB (b : T3) (ws : List (List P3)) : Bool :=
  let L := ws.map (walk b)
  ws.all (okW b) && (ascB L && (L.contains b && L.all fun u => [P3.a, P3.b, P3.c].all fun p => !decide (Foot (turn p u)) || L.contains (turn p u)))
theorem footB_ok {b : T3} {ws : List (List P3)} (h : footB b ws = true) : FootL b (ws.map (walk b)) := by
  unfold footB at h
  simp only [Bool.and_eq_true, List.all_eq_true, Bool.or_eq_true, Bool.not_eq_true', decide_eq_false_iff_not, List.contains_iff_mem] at h
  obtain ⟨h1, h2, h3, h4⟩ := h
  obtain ⟨a, n⟩ := ascB_ok h2
  refine ⟨n, a, fun u => ⟨fun hu => ?_, all_of h3 fun u hu p f => ?_⟩⟩
  · obtain ⟨ps, hp, rfl⟩ := List.mem_map.mp hu
    exact okW_fr (h1 ps hp)
  · exact (h4 u hu p (by cases p <;> simp)).resolve_left fun z => z f
def dwB : T3 → List P3 → Bool
  | t, [] => decide (Foot t)
  | t, p :: ps => decide (Down p t) && dwB (turn p t) ps
theorem dwB_way : ∀ {ps : List P3} {t : T3}, dwB t ps = true → Way ps.length t (walk t ps)
  | [], t, h => .here (of_decide_eq_true (p := Foot t) h)
  | p :: ps, t, h => by
    unfold dwB at h
    (rw [Bool.and_eq_true, decide_eq_true_eq] at h)
    exact .down h.1 (dwB_way (ps := ps) h.2)
/-- the foot by a word down and words within the foot -/
theorem foot_by_words {t : T3} {ds : List P3} {ws : List (List P3)} (h : (dwB t ds && footB (walk t ds) ws) = true) {n : Nat} {b : T3} {us : List T3} (w : Way n t b) (f : FootL b us) : us = ws.map (walk (walk t ds)) := by
  rw [Bool.and_eq_true] at h
  have w2 := dwB_way h.1
  rw [← (way_one w2 w).2] at f
  exact f.one (footB_ok h.2) (way_foot w2) .here
def w234 : List (List P3) := [[.b, .a, .c, .b], [.b], [.b, .c], [.c], [.c, .a], [.c, .b], [.c, .a, .b], [.b, .a], [.b, .a, .c], []]
def w111 : List (List P3) := [[.a, .b, .c, .a], [.b], [.a], [.a, .c], [.b, .c], [.c], [.c, .a], [.c, .b], [.c, .a, .b], [.b, .a], [.a, .b], [.a, .b, .c], [.b, .a, .c], []]
theorem f234 {n : Nat} {b : T3} {us : List T3} (w : Way n (2, 3, 4) b) (f : FootL b us) : leastL us = (true, (-2, -1, 0)) := by
  rw [foot_by_words (ds := [.b, .a]) (ws := w234) (by decide +kernel) w f]
  decide +kernel
theorem f3177 {n : Nat} {b : T3} {us : List T3} (w : Way n (3, 17, 7) b) (f : FootL b us) : leastL us = (false, (3, 4, 5)) := by
  rw [foot_by_words (ds := [.a, .b]) (ws := [[]]) (by decide +kernel) w f]
  decide +kernel
theorem f111 {n : Nat} {b : T3} {us : List T3} (w : Way n (1, 1, 1) b) (f : FootL b us) : leastL us = (true, (-1, -1, 0)) := by
  rw [foot_by_words (ds := []) (ws := w111) (by decide +kernel) w f]
  decide +kernel
theorem f222 {n : Nat} {b : T3} {us : List T3} (w : Way n (-2, -2, -2) b) (f : FootL b us) : leastL us = (false, (-2, -2, -2)) := by
  rw [foot_by_words (ds := []) (ws := [[], [.a]]) (by decide +kernel) w f]
  decide +kernel
/-! ### far up along even steps -/
theorem two_step {x d : Int} (hx : 2 ≤ x) (hd : 1 ≤ d) : walk (2, x, x + d) [.a, .b] = (2, x + 2 * d, x + d + 2 * d) := by
  have e1 : turn .a (2, x, x + d) = (-2, x - (x + d) * 2, -(x + d)) := by
    show (_, push _ _ _, _) = _
    unfold push
    rw [if_pos (by constructor <;> omega)]
  have e2 : turn .b (-2, x - (x + d) * 2, -(x + d)) = (2, x + 2 * d, x + d + 2 * d) := by
    show (_, _, push _ _ _) = _
    unfold push
    rw [if_neg (by omega), if_pos (by constructor <;> omega)]
    refine Prod.ext rfl (Prod.ext ?_ ?_)
    · show -(x - (x + d) * 2) = x + 2 * d; omega
    · dsimp only; omega
  show turn .b (turn .a (2, x, x + d)) = _
  rw [e1, e2]
theorem two_steps {x d : Int} (hx : 2 ≤ x) (hd : 1 ≤ d) : ∀ k : Nat, ∃ ps, walk (2, x, x + d) ps = (2, x + 2 * (k : Int) * d, x + d + 2 * (k : Int) * d)
  | 0 => ⟨[], by simp [walk]⟩
  | k + 1 => by
    obtain ⟨ps, h⟩ := two_steps hx hd k
    have h0 : 0 ≤ 2 * (k : Int) * d := Int.mul_nonneg (by omega) (by omega)
    refine ⟨ps ++ [.a, .b], ?_⟩
    have e : 2 * ((k + 1 : Nat) : Int) * d = 2 * (k : Int) * d + 2 * d := by rw [Int.natCast_succ, Int.mul_add, Int.add_mul, Int.mul_one]
    rw [show walk (2, x, x + d) (ps ++ [.a, .b]) = walk (walk (2, x, x + d) ps) [.a, .b] from List.foldl_append .., h, e]
    have := two_step (x := x + 2 * (k : Int) * d) (d := d) (by omega) hd
    rw [show x + d + 2 * (k : Int) * d = x + 2 * (k : Int) * d + d by omega, this]
    refine Prod.ext rfl (Prod.ext ?_ ?_)
    · dsimp only; omega
    · dsimp only; omega
/-- the least form stays along even steps -/
theorem two_far {x d F : Int} (hx : 2 ≤ x) (hx2 : x ≤ 13) (hd : 1 ≤ d) (hd2 : d ≤ 6) (hF : 0 ≤ F) : ∃ m c, m ≤ 399 ∧ Way m (2, x, x + d) c ∧ ∀ {n e}, Way n (2, x + 2 * F * d, x + d + 2 * F * d) e → FR c e := by
  obtain ⟨m, c, hm, w⟩ := (low_sum (x := 2) (y := x) (z := x + d) (by decide) (by rw [nat_of (by omega)]; omega) (by rw [nat_of (by omega)]; omega)).way
  obtain ⟨ps, h⟩ := two_steps hx hd F.toNat
  rw [Int.toNat_of_nonneg hF] at h
  obtain ⟨m', c', _, w', l⟩ := way_links ps w
  rw [h] at w'
  exact ⟨m, c, by omega, w, fun v => by rw [(way_one v w').2]; exact l⟩
end At

namespace At
open L2 PyProof.Rows PySem.Spec PySem
/-! ### ways down by the greatest size; ways up -/
theorem down_lt {p : P3} {t : T3} (d : Down p t) : big (turn p t) < big t := by
  have top := d.top
  obtain ⟨r, k1, k2, lt⟩ := d
  have hB : nat (opp p t) ≤ big t := (big_at (p := p) (Int.le_refl _)).2.2
  suffices h : big (turn p t) ≤ nat (opp p t) - 1 by omega
  rw [tri_of p t, ring_tri] at r
  rw [tri_of p (turn p t), big_tri]
  have e : turn p t = tri p (-co p t) (-go p t) (push (co p t) (go p t) (opp p t)) := by
    have := turn_tri p (co p t) (go p t) (opp p t)
    rwa [← tri_of p t] at this
  have c1 : co p (turn p t) = -co p t := by rw [e]; cases p <;> rfl
  have c2 : go p (turn p t) = -go p t := by rw [e]; cases p <;> rfl
  have c3 : opp p (turn p t) = push (co p t) (go p t) (opp p t) := by rw [e]; cases p <;> rfl
  rw [c1, c2, c3, nat_neg, nat_neg]
  (refine ⟨by omega, by omega, ?_⟩)
  rcases r with ⟨r1, r2, r3⟩ | ⟨r1, r2, r3⟩
  · rw [push_pos r1 r2]
    rw [nat_pos r1, nat_pos r2, nat_pos r3] at lt
    rw [nat_pos r3]
    have m0 : 0 < co p t * go p t := Int.mul_pos r1 r2
    generalize co p t * go p t = m at lt m0 ⊢
    rcases nat_two (opp p t - m) with z | z <;> omega
  · rw [push_neg r1 r2]
    rw [nat_neg' r1, nat_neg' r2, nat_neg' r3, Int.neg_mul_neg] at lt
    rw [nat_neg' r3]
    have m0 : 0 < -co p t * -go p t := Int.mul_pos (by omega) (by omega)
    rw [Int.neg_mul_neg] at m0
    generalize co p t * go p t = m at lt m0 ⊢
    rcases nat_two (opp p t + m) with z | z <;> omega
theorem big_nonneg (t : T3) : 0 ≤ big t := Int.le_trans (nat_nonneg _) (big_at (p := .a) (t := t) (Int.le_refl _)).2.2
theorem way_len {n : Nat} {t b : T3} (w : Way n t b) : (n : Int) ≤ big t := by
  induction w with
  | here => exact big_nonneg _
  | down d _ ih =>
    have := down_lt d
    rw [Int.natCast_succ]
    omega
theorem way_any (t : T3) : ∃ n b, Way n t b ∧ (n : Int) ≤ big t := by
  obtain ⟨ps, b, d, f⟩ := way_ex t
  exact ⟨_, b, d.way f, way_len (d.way f)⟩
/-- one turn alone lowers the greatest size; the others lead up -/
theorem lower_iff {p : P3} {t : T3} (d : Down p t) (q : P3) : big (turn q t) < big t ↔ q = p := by
  constructor
  · intro h
    by_cases e : p = q
    · exact e.symm
    · have h1 := opp_turn_ne (Ne.symm e) t
      have h2 : nat (opp p (turn q t)) ≤ big (turn q t) := (big_at (p := p) (Int.le_refl _)).2.2
      rw [h1, nat_neg] at h2
      have h3 : big t ≤ nat (opp p t) := by
        have top := d.top
        rw [tri_of p t, big_tri]
        rw [← tri_of p t]
        exact ⟨by omega, by omega, Int.le_refl _⟩
      omega
  · rintro rfl
    exact down_lt d
theorem cr_mostTK {X : Cx} {K : PySem.W.Frag} {k : Nat} (same : X.K = K) (calm : X.calm = true) (hr : Room k X.A) : CallR X (.builtin "max") (rLeast K max) := same ▸ cr_mostT calm hr
theorem eqvT2 (us : List T3) : PyData.eqv (.list [.tuple (us.map dat3), .tuple (us.map dat3)]) (.list [.tuple (us.map dat3), .tuple (us.map dat3)]) = true := by
  rw [PyData.eqv]
  simp only [PyData.eqvAll, eqvT, Bool.and_self]
theorem shapedT2 (us : List T3) : SeqAt.shaped (.list [.tuple (us.map dat3), .tuple (us.map dat3)]) = true := by
  obtain ⟨a, b⟩ := lay3s us
  unfold SeqAt.shaped
  simp only [PyData.canLay0, PyData.depth, PyData.canLayAll0, PyData.depthAll, a, Bool.true_and, Bool.and_true]
  (exact decide_eq_true (by omega))
theorem eqvT0 (us : List T3) : PyData.eqv (.tuple (us.map dat3)) (.tuple []) = decide (us = []) := by
  cases us with
  | nil => simp [PyData.eqv, PyData.eqvAll]
  | cons u us => simp [PyData.eqv, PyData.eqvAll]
theorem shapedT1 (us : List T3) : SeqAt.shaped (.tuple (us.map dat3)) = true := shaped3s us
theorem shapedT0 : SeqAt.shaped (.tuple []) = true := by
  unfold SeqAt.shaped
  simp only [PyData.canLay0, PyData.depth, PyData.canLayAll0, PyData.depthAll]
  rfl
theorem way_big {n : Nat} {t b : T3} (w : Way n t b) : big b ≤ big t := by
  induction w with
  | here => exact Int.le_refl _
  | down d _ ih => exact Int.le_trans ih (down_big d)
theorem way_mk {n : Nat} {t b : T3} (w : Way n t b) : mk b = mk t := by
  induction w with
  | here => rfl
  | down d _ ih => rw [ih, mk_turn]
theorem foot_100 {n : Nat} {t b v : T3} (h : big t ≤ 10 ^ 60) (w : Way n t b) (r : FR b v) : big v ≤ 10 ^ 100 := by
  have h1 := mk_le h
  have h2 : 4 * (3 * ((10 : Int) ^ 60 * 10 ^ 60) + 10 ^ 60 * 10 ^ 60 * 10 ^ 60) ≤ 3 * ((10 : Int) ^ 100 * 10 ^ 100) := by decide +kernel
  refine r.big (B := 10 ^ 100) (by decide +kernel) ?_ ?_
  · rw [way_mk w]; omega
  · exact Int.le_trans (way_big w) (Int.le_trans h (by decide +kernel))
end At

namespace At
open L2 PyProof.Rows PySem.Spec PySem
/-! ### standings renamed -/
/-- arrows from one place to another -/
def arr (t : T3) (p q : P3) : Int := if q = nxt p then go p t else -go q t
def ren (p q s : P3) (t : T3) : T3 := (arr t p q, arr t q s, arr t s p)
/-- a naming: each place once -/
def Nam (p q s : P3) : Prop := p ≠ q ∧ q ≠ s ∧ p ≠ s
def nth3 (p q s : P3) : P3 → P3
  | .a => p
  | .b => q
  | .c => s
/-- the place in the old names whose turn is the turn at x in the new ones -/
def oldp (p q s : P3) (x : P3) : P3 := nth3 p q s x
theorem ren_even {p q s : P3} (h1 : q = nxt p) (h2 : s = nxt q) (t : T3) : ren p q s t = (go p t, go q t, go s t) := by
  subst h1 h2
  cases p <;> rfl
theorem ren_odd {p q s : P3} (h1 : q = prv p) (h2 : s = prv q) (t : T3) : ren p q s t = (-go q t, -go s t, -go p t) := by
  subst h1 h2
  cases p <;> rfl
theorem nam_two {p q s : P3} (h : Nam p q s) : (q = nxt p ∧ s = nxt q) ∨ (q = prv p ∧ s = prv q) := by
  obtain ⟨h1, h2, h3⟩ := h
  cases p <;> cases q <;> first | exact absurd rfl h1 | skip
  all_goals cases s <;> first | exact absurd rfl h2 | exact absurd rfl h3 | exact .inl ⟨rfl, rfl⟩ | exact .inr ⟨rfl, rfl⟩
theorem ren_turn {p q s : P3} (h : Nam p q s) (x : P3) (t : T3) : turn x (ren p q s t) = ren p q s (turn (nth3 p q s x) t) := by
  obtain ⟨u, v, w⟩ := t
  have c1 := push_comm u v w
  have c2 := push_comm v w u
  have c3 := push_comm w u v
  have f1 := push_flip u v w
  have f2 := push_flip v w u
  have f3 := push_flip w u v
  rcases nam_two h with ⟨h1, h2⟩ | ⟨h1, h2⟩
  · subst h1 h2
    cases p <;> cases x <;> rfl
  · rw [ren_odd h1 h2, ren_odd h1 h2]
    subst h1 h2
    cases p <;> cases x <;> simp only [turn, go, nth3, prv, Int.neg_neg, push_flip] <;> first | rfl | (rw [push_comm])
theorem ren_ring {p q s : P3} (h : Nam p q s) (t : T3) : ring (ren p q s t) ↔ ring t := by
  obtain ⟨u, v, w⟩ := t
  rcases nam_two h with ⟨h1, h2⟩ | ⟨h1, h2⟩
  · rw [ren_even h1 h2]
    subst h1 h2
    cases p <;> simp only [ring, go, nxt] <;> omega
  · rw [ren_odd h1 h2]
    subst h1 h2
    cases p <;> simp only [ring, go, prv] <;> omega
theorem ren_big {p q s : P3} (h : Nam p q s) (t : T3) : big (ren p q s t) = big t := by
  have le : ∀ B, big (ren p q s t) ≤ B ↔ big t ≤ B := fun B => by
    obtain ⟨u, v, w⟩ := t
    rw [big_le, big_le]
    rcases nam_two h with ⟨h1, h2⟩ | ⟨h1, h2⟩
    · rw [ren_even h1 h2]
      subst h1 h2
      cases p <;> simp only [go, nxt] <;> omega
    · rw [ren_odd h1 h2]
      subst h1 h2
      cases p <;> simp only [go, prv, nat_neg] <;> omega
  exact Int.le_antisymm ((le _).mpr (Int.le_refl _)) ((le _).mp (Int.le_refl _))
theorem ren_down {p q s : P3} (h : Nam p q s) (x : P3) (t : T3) : Down x (ren p q s t) ↔ Down (nth3 p q s x) t := by
  unfold Down
  rw [ren_ring h]
  obtain ⟨u, v, w⟩ := t
  rcases nam_two h with ⟨h1, h2⟩ | ⟨h1, h2⟩
  · rw [ren_even h1 h2]
    subst h1 h2
    cases p <;> cases x <;> exact Iff.rfl
  · rw [ren_odd h1 h2]
    subst h1 h2
    cases p <;> cases x <;> simp only [co, go, opp, prv, nth3, nat_neg] <;> rw [Int.mul_comm] <;> exact ⟨fun ⟨a, b, c, d⟩ => ⟨a, c, b, d⟩, fun ⟨a, b, c, d⟩ => ⟨a, c, b, d⟩⟩
theorem nam_onto {p q s : P3} (h : Nam p q s) (y : P3) : ∃ x, nth3 p q s x = y := by
  obtain ⟨h1, h2, h3⟩ := h
  cases p <;> cases q <;> first | exact absurd rfl h1 | skip
  all_goals cases s <;> first | exact absurd rfl h2 | exact absurd rfl h3 | skip
  all_goals cases y <;> first | exact ⟨.a, rfl⟩ | exact ⟨.b, rfl⟩ | exact ⟨.c, rfl⟩
theorem ren_foot {p q s : P3} (h : Nam p q s) (t : T3) : Foot (ren p q s t) ↔ Foot t := by
  constructor
  · intro f y d
    obtain ⟨x, rfl⟩ := nam_onto h y
    exact f x ((ren_down h x t).mpr d)
  · intro f x d
    exact f _ ((ren_down h x t).mp d)
theorem ren_way {p q s : P3} (h : Nam p q s) {n : Nat} {t b : T3} (w : Way n t b) : Way n (ren p q s t) (ren p q s b) := by
  induction w with
  | here f => exact .here ((ren_foot h _).mpr f)
  | @down n y t b d _ ih =>
    obtain ⟨x, rfl⟩ := nam_onto h y
    refine .down ((ren_down h x t).mpr d) ?_
    rw [ren_turn h]
    exact ih
theorem ren_fr {p q s : P3} (h : Nam p q s) {b u : T3} (r : FR b u) : FR (ren p q s b) (ren p q s u) := by
  induction r with
  | here => exact .here
  | @step u y r f ih =>
    obtain ⟨x, rfl⟩ := nam_onto h y
    have := FR.step (p := x) ih (by rw [ren_turn h]; exact (ren_foot h _).mpr f)
    rwa [ren_turn h] at this
/-- a word in the new names, told in the old ones -/
def oldw (p q s : P3) (ps : List P3) : List P3 := ps.map (nth3 p q s)
theorem ren_walk {p q s : P3} (h : Nam p q s) : ∀ (ps : List P3) (t : T3), walk (ren p q s t) ps = ren p q s (walk t (oldw p q s ps))
  | [], _ => rfl
  | x :: ps, t => by
    rw [walk_cons, ren_turn h, ren_walk h ps]
    rfl
theorem ren_many {p q s : P3} (h : Nam p q s) (ps : List P3) : ∀ (n : Nat) (t : T3), many n ps (ren p q s t) = ren p q s (many n (oldw p q s ps) t)
  | 0, _ => rfl
  | n + 1, t => by
    show many n ps (walk (ren p q s t) ps) = ren p q s (many n (oldw p q s ps) (walk t (oldw p q s ps)))
    rw [ren_walk h, ren_many h ps n]
def oldr (p q s : P3) (row : Row) : Row := row.map fun pm => (oldw p q s pm.1, pm.2)
theorem ren_row {p q s : P3} (h : Nam p q s) : ∀ (row : Row) (t : T3), rowWalk (ren p q s t) row = ren p q s (rowWalk t (oldr p q s row))
  | [], _ => rfl
  | pm :: row, t => by
    show rowWalk (many pm.2.toNat pm.1 (ren p q s t)) row = _
    rw [ren_many h, ren_row h row]
    rfl
theorem oldr_take (p q s : P3) (row : Row) (i : Nat) : oldr p q s (row.take i) = (oldr p q s row).take i := by
  unfold oldr
  rw [List.map_take]
theorem ren_mk {p q s : P3} (h : Nam p q s) (t : T3) : mk (ren p q s t) = mk t := by
  unfold mk
  have r := ren_ring h t
  obtain ⟨u, v, w⟩ := t
  have n1 := Int.mul_right_comm (nat u) (nat v) (nat w)
  have key : (ren p q s (u, v, w)).1 * (ren p q s (u, v, w)).1 + (ren p q s (u, v, w)).2.1 * (ren p q s (u, v, w)).2.1 + (ren p q s (u, v, w)).2.2 * (ren p q s (u, v, w)).2.2 = u * u + v * v + w * w ∧ nat (ren p q s (u, v, w)).1 * nat (ren p q s (u, v, w)).2.1 * nat (ren p q s (u, v, w)).2.2 = nat u * nat v * nat w := by
    rcases nam_two h with ⟨h1, h2⟩ | ⟨h1, h2⟩
    · rw [ren_even h1 h2]
      subst h1 h2
      cases p <;> refine ⟨?_, ?_⟩ <;> dsimp only [go, nxt] <;> first | omega | simp only [Int.mul_comm, Int.mul_left_comm]
    · rw [ren_odd h1 h2]
      subst h1 h2
      cases p <;> refine ⟨?_, ?_⟩ <;> simp only [go, prv, nat_neg, Int.neg_mul_neg] <;> first | omega | simp only [Int.mul_comm, Int.mul_left_comm]
  by_cases c : ring (u, v, w)
  · rw [if_pos (r.mpr c), if_pos c, key.1, key.2]
  · rw [if_neg (fun z => c (r.mp z)), if_neg c, key.1, key.2]
theorem ren_opp {p q s : P3} (h : Nam p q s) (t : T3) (x : P3) : nat (opp x (ren p q s t)) = nat (opp (nth3 p q s x) t) := by
  obtain ⟨u, v, w⟩ := t
  rcases nam_two h with ⟨h1, h2⟩ | ⟨h1, h2⟩
  · rw [ren_even h1 h2]
    subst h1 h2
    cases p <;> cases x <;> rfl
  · rw [ren_odd h1 h2]
    subst h1 h2
    cases p <;> cases x <;> simp only [opp, go, prv, nth3, nat_neg]
theorem ren_rg {p q s : P3} (h : Nam p q s) (t : T3) : Rg (ren p q s t) ↔ Rg t := by
  unfold Rg
  rw [ren_ring h, ren_mk h]
  refine ⟨fun ⟨a, b, c⟩ => ⟨a, fun y => ?_, c⟩, fun ⟨a, b, c⟩ => ⟨a, fun x => ?_, c⟩⟩
  · obtain ⟨x, rfl⟩ := nam_onto h y
    rw [← ren_opp h]
    exact b x
  · rw [ren_opp h]
    exact b _
end At

namespace At
open L2 PyProof.Rows PySem.Spec PySem
/-! ### legs: places and how often -/
def LegAt (H : Hp) (r : Addr) (pm : List P3 × Int) : Prop := ∃ q, H r = some (.tup [.ref q, .int pm.2]) ∧ H q = some (.lst (pl pm.1))
theorem LegAt.ext {H H' : Hp} {r : Addr} {pm : List P3 × Int} (h : LegAt H r pm) (e : Ext H H') : LegAt H' r pm := by
  obtain ⟨q, h1, h2⟩ := h
  exact ⟨q, e _ _ h1, e _ _ h2⟩
def LegsIn (H : Hp) : List Addr → Row → Prop
  | [], [] => True
  | r :: rs, pm :: row => LegAt H r pm ∧ LegsIn H rs row
  | _, _ => False
theorem LegsIn.ext {H H' : Hp} (e : Ext H H') : ∀ {rs : List Addr} {row : Row}, LegsIn H rs row → LegsIn H' rs row
  | [], [], _ => trivial
  | _ :: _, _ :: _, h => ⟨h.1.ext e, LegsIn.ext e h.2⟩
  | [], _ :: _, h => h
  | _ :: _, [], h => h
theorem LegsIn.len {H : Hp} : ∀ {rs : List Addr} {row : Row}, LegsIn H rs row → rs.length = row.length
  | [], [], _ => rfl
  | _ :: _, _ :: _, h => congrArg (· + 1) (LegsIn.len h.2)
  | [], _ :: _, h => h.elim
  | _ :: _, [], h => h.elim
theorem LegsIn.app {H : Hp} : ∀ {rs : List Addr} {row : Row} {ss : List Addr} {col : Row}, LegsIn H rs row → LegsIn H ss col → LegsIn H (rs ++ ss) (row ++ col)
  | [], [], _, _, _, k => k
  | _ :: _, _ :: _, _, _, h, k => ⟨h.1, LegsIn.app h.2 k⟩
  | [], _ :: _, _, _, h, _ => h.elim
  | _ :: _, [], _, _, h, _ => h.elim
theorem LegsIn.at_ {H : Hp} : ∀ {rs : List Addr} {row : Row}, LegsIn H rs row → ∀ {i : Nat} {x : V}, (rs.map V.ref)[i]? = some x → ∃ r pm, x = .ref r ∧ rs[i]? = some r ∧ row[i]? = some pm ∧ LegAt H r pm
  | [], [], _, i, x, hx => by cases hx
  | r :: rs, pm :: row, h, i, x, hx => by
    cases i with
    | zero => cases hx; exact ⟨r, pm, rfl, rfl, rfl, h.1⟩
    | succ i =>
      obtain ⟨r', pm', h1, h2, h3, h4⟩ := LegsIn.at_ h.2 (i := i) hx
      exact ⟨r', pm', h1, h2, h3, h4⟩
  | [], _ :: _, h, _, _, _ => h.elim
  | _ :: _, [], h, _, _, _ => h.elim
def LegsAt (H : Hp) (l : Addr) (row : Row) : Prop := ∃ rs : List Addr, H l = some (.lst (rs.map V.ref)) ∧ LegsIn H rs row
theorem LegsAt.ext {H H' : Hp} {a : Addr} {row : Row} (h : LegsAt H a row) (e : Ext H H') : LegsAt H' a row := by
  obtain ⟨rs, h1, h2⟩ := h
  exact ⟨rs, e _ _ h1, h2.ext e⟩
/-! ### rows by dozens -/
def dozen (ps : List P3) (i : Nat) : List P3 × Int := ((ps.drop (12 * i)).take 12, 1)
def dozens (ps : List P3) : Row := (List.range ((ps.length + 11) / 12)).map (dozen ps)
theorem dozens_len (ps : List P3) : (dozens ps).length = (ps.length + 11) / 12 := by
  unfold dozens
  (rw [List.length_map, List.length_range])
theorem dozens_flat (ps : List P3) : rowFlat (dozens ps) = ps := by
  have go : ∀ n, rowFlat ((List.range n).map (dozen ps)) = ps.take (12 * n) := by
    intro n
    induction n with
    | zero => rfl
    | succ n ih =>
      have e : rowFlat ((List.range (n + 1)).map (dozen ps)) = rowFlat ((List.range n).map (dozen ps)) ++ (dozen ps n).1 := by
        rw [List.range_succ, List.map_append]
        unfold rowFlat
        rw [List.map_append, List.flatten_append]
        congr 1
        show (rep (Int.toNat 1) (dozen ps n).1 ++ []) = _
        rw [List.append_nil, show Int.toNat 1 = 0 + 1 from rfl, rep_succ]
        exact List.append_nil _
      rw [e, ih]
      unfold dozen
      show ps.take (12 * n) ++ (ps.drop (12 * n)).take 12 = _
      rw [show 12 * (n + 1) = 12 * n + 12 by omega, List.take_add]
  rw [dozens, go, List.take_of_length_le (by omega)]
theorem dozens_ok {ps : List P3} {pm : List P3 × Int} (h : pm ∈ dozens ps) : 1 ≤ pm.1.length ∧ pm.1.length ≤ 12 ∧ pm.2 = 1 := by
  (obtain ⟨i, hi, rfl⟩ := List.mem_map.mp h)
  have hi := List.mem_range.mp hi
  unfold dozen
  refine ⟨?_, ?_, rfl⟩
  · rw [List.length_take, List.length_drop]; omega
  · rw [List.length_take]; omega
/-- even turns -/
def evens (t : Nat) (p s : P3) : Row := (if 2 ≤ t then [([p, s], ((t / 2 : Nat) : Int))] else []) ++ (if t % 2 = 1 then [([p], 1)] else [])
theorem flat_one (ps : List P3) (n : Int) : rowFlat [(ps, n)] = rep n.toNat ps := List.append_nil _
theorem evens_flat (t : Nat) (p s : P3) : rowFlat (evens t p s) = alt t p s := by
  unfold evens
  rw [rowFlat_app]
  have h1 : rowFlat (if 2 ≤ t then [([p, s], ((t / 2 : Nat) : Int))] else []) = rep (t / 2) [p, s] := by
    by_cases c : 2 ≤ t
    · rw [if_pos c, flat_one, Int.toNat_natCast]
    · rw [if_neg c, show t / 2 = 0 by omega]
      rfl
  rw [h1]
  by_cases c : t % 2 = 1
  · rw [if_pos c, flat_one]
    obtain ⟨n, rfl⟩ : ∃ n, t = 2 * n + 1 := ⟨t / 2, by omega⟩
    rw [alt_odd, show (2 * n + 1) / 2 = n by omega]
    congr 1
  · rw [if_neg c]
    obtain ⟨n, rfl⟩ : ∃ n, t = 2 * n := ⟨t / 2, by omega⟩
    rw [alt_two, show 2 * n / 2 = n by omega]
    exact List.append_nil _
theorem evens_len (t : Nat) (p s : P3) : (evens t p s).length ≤ 2 := by
  unfold evens
  rw [List.length_append]
  split <;> split <;> simp
theorem evens_ok {t : Nat} {p s : P3} {pm : List P3 × Int} (h : pm ∈ evens t p s) : 1 ≤ pm.1.length ∧ pm.1.length ≤ 12 ∧ 1 ≤ pm.2 ∧ pm.2 ≤ t := by
  unfold evens at h
  (rcases List.mem_append.mp h with h | h)
  · split at h
    · rcases List.mem_singleton.mp h with rfl
      exact ⟨by show 1 ≤ 2; decide, by show 2 ≤ 12; decide, by show (1 : Int) ≤ ((t / 2 : Nat) : Int); omega, by show ((t / 2 : Nat) : Int) ≤ t; omega⟩
    · cases h
  · split at h
    · rcases List.mem_singleton.mp h with rfl
      exact ⟨by show 1 ≤ 1; decide, by show 1 ≤ 12; decide, by show (1 : Int) ≤ 1; decide, by show (1 : Int) ≤ t; omega⟩
    · cases h
/-! ### the way of a standing -/
def WayIs (K : PySem.W.Frag) (H : Hp) (w : Addr) (us : List P3) (m : Nat) (p s : P3) (b : T3) : Prop :=
  ∃ dx en pr ab, H w = some (.ins (He.ga K "Way") dx [("entry", .ref en), ("pair", .ref pr), ("many", .int (m : Nat)), ("above", .ref ab)]) ∧ H en = some (.tup (tv b)) ∧ H pr = some (.tup (if m = 0 then [] else pairW m p s)) ∧ H ab = some (.lst (pl us.reverse))
theorem WayIs.ext {K : PySem.W.Frag} {H H' : Hp} {w : Addr} {us : List P3} {m : Nat} {p s : P3} {b : T3} (h : WayIs K H w us m p s b) (e : Ext H H') : WayIs K H' w us m p s b := by
  obtain ⟨dx, en, pr, ab, h1, h2, h3, h4⟩ := h
  exact ⟨dx, en, pr, ab, e _ _ h1, e _ _ h2, e _ _ h3, e _ _ h4⟩
/-- the way's places, downwards -/
def downs (us : List P3) (m : Nat) (p s : P3) : List P3 := us ++ alt m p s
/-- the legs down to a height -/
def downRow (us : List P3) (m : Nat) (p s : P3) (k : Nat) : Row := dozens (us.take (us.length + m - k)) ++ evens (m - k) p s
theorem alt_take (p s : P3) : ∀ (m k : Nat), k ≤ m → (alt m p s).take k = alt k p s := by
  have go : ∀ (k m : Nat) (p s : P3), k ≤ m → (alt m p s).take k = alt k p s := by
    intro k
    induction k with
    | zero => intros; rw [List.take_zero]; rfl
    | succ k ih =>
      intro m p s h
      cases m with
      | zero => omega
      | succ m =>
        show p :: (alt m s p).take k = p :: alt k s p
        rw [ih m s p (by omega)]
  exact fun m k h => go k m p s h
theorem downRow_flat (us : List P3) (m : Nat) (p s : P3) (k : Nat) : rowFlat (downRow us m p s k) = (downs us m p s).take (us.length + m - k) := by
  unfold downRow downs
  rw [rowFlat_app, dozens_flat, evens_flat, List.take_append]
  congr 1
  by_cases c : k ≤ m
  · rw [alt_take p s m _ (by omega)]
    congr 1
    omega
  · rw [show m - k = 0 by omega, show us.length + m - k - us.length = 0 by omega]
    rfl
theorem downRow_len {us : List P3} (m : Nat) (p s : P3) (k : Nat) (h : us.length ≤ 2000) : (downRow us m p s k).length ≤ 170 := by
  unfold downRow
  have := evens_len (m - k) p s
  rw [List.length_append, dozens_len, List.length_take]
  omega
theorem downRow_ok {us : List P3} {m : Nat} {p s : P3} {k : Nat} {pm : List P3 × Int} (h : pm ∈ downRow us m p s k) : 1 ≤ pm.1.length ∧ pm.1.length ≤ 12 ∧ 1 ≤ pm.2 ∧ pm.2 ≤ m + 1 := by
  (rcases List.mem_append.mp h with h | h)
  · obtain ⟨a, b, c⟩ := dozens_ok h
    exact ⟨a, b, by omega, by omega⟩
  · obtain ⟨a, b, c, d⟩ := evens_ok h
    exact ⟨a, b, c, by omega⟩
theorem Dw.front : ∀ {ps qs : List P3} {t b : T3}, Dw (ps ++ qs) t b → Dw ps t (At.walk t ps)
  | [], _, _, _, _ => rfl
  | _ :: _, _, _, _, h => ⟨h.1, Dw.front h.2⟩
theorem flat_front (row : Row) (i : Nat) : ∃ qs, rowFlat row = rowFlat (row.take i) ++ qs := ⟨rowFlat (row.drop i), by rw [← rowFlat_app, List.take_append_drop]⟩
theorem down_parts {row : Row} {t b : T3} (d : Dw (rowFlat row) t b) (i : Nat) : big (rowWalk t (row.take i)) ≤ big t := by
  obtain ⟨qs, e⟩ := flat_front row i
  rw [e] at d
  rw [rowWalk_flat]
  exact d.front.big
theorem flat_mem {row : Row} {pm : List P3 × Int} (h : pm ∈ row) : pm.2.toNat * pm.1.length ≤ (rowFlat row).length := by
  obtain ⟨r1, r2, rfl⟩ := List.append_of_mem h
  rw [rowFlat_app, show pm :: r2 = [pm] ++ r2 from rfl, rowFlat_app, List.length_append, List.length_append, show rowFlat [pm] = rep pm.2.toNat pm.1 from List.append_nil _, rep_length]
  omega
/-- one way down only -/
theorem Dw.one : ∀ {ps qs : List P3} {t b c : T3}, Dw ps t b → Dw qs t c → Foot b → Foot c → ps = qs ∧ b = c
  | [], [], t, b, c, h, k, _, _ => by
    have h : t = b := h
    have k : t = c := k
    exact ⟨rfl, h.symm.trans k⟩
  | [], q :: _, t, b, c, h, k, f, _ => by
    have h : t = b := h
    subst h
    exact absurd k.1 (f q)
  | p :: _, [], t, b, c, h, k, _, g => by
    have k : t = c := k
    subst k
    exact absurd h.1 (g p)
  | p :: ps, q :: qs, t, b, c, h, k, f, g => by
    have e : p = q := (h.1.one k.1).symm
    subst e
    obtain ⟨h1, h2⟩ := Dw.one h.2 k.2 f g
    exact ⟨by rw [h1], h2⟩
/-- range by dozens -/
theorem rgc12 {n : Nat} (h : n ≤ 2000) : RgC 0 n 12 ((n + 11) / 12) := by
  have h1 : ∀ k : Nat, k < 2001 → PySem.Builtin.Range.small 0 (k : Int) 12 = true := by decide +kernel
  have h2 : ∀ k : Nat, k < 2001 → PySem.Builtin.Range.rangeSize 0 (k : Int) 12 = (((k + 11) / 12 : Nat) : Int) := by decide +kernel
  exact ⟨by decide, by decide, h1 n (by omega), h2 n (by omega)⟩
theorem map_take_pl (ps : List P3) (i n : Nat) : ((pl ps).drop i).take n = pl ((ps.drop i).take n) := by
  unfold pl
  (rw [List.map_take, List.map_drop])
theorem cut_dozen {ps : List P3} {i : Nat} (h : i < (ps.length + 11) / 12) : cutV (pl ps) (some (0 + (i : Int) * 12)) (some (0 + (i : Int) * 12 + 12)) = pl (dozen ps i).1 := by
  have hl : (pl ps).length = ps.length := List.length_map ..
  unfold cutV HT.sIx dozen
  simp only [hl]
  rw [if_neg (by omega), if_neg (by omega), show (0 + (i : Int) * 12 + 12).toNat = 12 * i + 12 by omega, show (0 + (i : Int) * 12).toNat = 12 * i by omega]
  rw [show min (12 * i) ps.length = 12 * i by omega, ← map_take_pl]
  by_cases c : 12 * i + 12 ≤ ps.length
  · rw [show min (12 * i + 12) ps.length - 12 * i = 12 by omega]
  · rw [List.take_of_length_le (by rw [List.length_drop, hl]; omega), List.take_of_length_le (by rw [List.length_drop, hl]; omega)]
theorem pairW_at {m k : Nat} (h : k < m) (p s : P3) : (pairW m p s)[k % 2]? = some (.int (P3.i (if (m - k) % 2 = 1 then p else s))) := by
  unfold pairW
  rcases Nat.mod_two_eq_zero_or_one k with c | c <;> rcases Nat.mod_two_eq_zero_or_one m with d | d <;> rw [c]
  · rw [if_neg (by omega), if_neg (by omega)]; rfl
  · rw [if_pos d, if_pos (by omega)]; rfl
  · rw [if_neg (by omega), if_pos (by omega)]; rfl
  · rw [if_pos d, if_neg (by omega)]; rfl
theorem cut_top (us : List P3) (k m : Nat) : (cutV (pl us.reverse) (some (if (k : Int) - m > 0 then (k : Int) - m else 0)) none).reverse = pl (us.take (us.length + m - k)) := by
  have e : (if (k : Int) - m > 0 then (k : Int) - m else 0) = ((k - m : Nat) : Int) := by split <;> omega
  have hl : (pl us.reverse).length = us.length := by unfold pl; rw [List.length_map, List.length_reverse]
  rw [e]
  unfold cutV HT.sIx
  simp only [hl]
  rw [if_neg (by omega), show ((k - m : Nat) : Int).toNat = k - m by omega]
  rw [List.take_of_length_le (by rw [List.length_drop, hl]; omega)]
  unfold pl
  rw [← List.map_drop, ← List.map_reverse]
  congr 1
  rw [List.drop_reverse, List.reverse_reverse]
  have h0 : min (k - m) us.length = if k - m ≤ us.length then k - m else us.length := by split <;> omega
  rw [h0]
  by_cases c : k ≤ m
  · rw [show k - m = 0 by omega, if_pos (Nat.zero_le _), Nat.sub_zero, List.take_of_length_le (Nat.le_refl _), List.take_of_length_le (by omega)]
  · congr 1
    split <;> omega
/-- legs whose places stand elsewhere -/
def Apart (D : Addr) (H : Hp) (rs : List Addr) : Prop := ∀ r ∈ rs, ∃ q v, H r = some (.tup [.ref q, v]) ∧ q ≠ D
theorem Apart.ext {D : Addr} {H H' : Hp} {rs : List Addr} (h : Apart D H rs) (e : Ext H H') : Apart D H' rs := fun r hr => by
  obtain ⟨q, v, h1, h2⟩ := h r hr
  exact ⟨q, v, e _ _ h1, h2⟩
theorem Apart.past {D : Addr} {H : Hp} {rs : List Addr} {xs ys : List V} (h : Apart D H rs) (hD : H D = some (.lst xs)) : Apart D (upd H D (.lst ys)) rs := fun r hr => by
  obtain ⟨q, v, h1, h2⟩ := h r hr
  exact ⟨q, v, by rw [upd_ne (fun z => by rw [z, hD] at h1; cases h1)]; exact h1, h2⟩
theorem Apart.snoc {D : Addr} {H : Hp} {rs : List Addr} {r q : Addr} {v : V} (h : Apart D H rs) (hr : H r = some (.tup [.ref q, v])) (ne : q ≠ D) : Apart D H (rs ++ [r]) := fun x hx => by
  (rcases List.mem_append.mp hx with hx | hx)
  · exact h x hx
  · rcases List.mem_singleton.mp hx with rfl
    exact ⟨q, v, hr, ne⟩
theorem LegsIn.past {H : Hp} {D : Addr} {xs ys : List V} (hD : H D = some (.lst xs)) : ∀ {rs : List Addr} {row : Row}, LegsIn H rs row → Apart D H rs → LegsIn (upd H D (.lst ys)) rs row
  | [], [], _, _ => trivial
  | r :: rs, pm :: row, h, ap => by
    refine ⟨?_, LegsIn.past hD h.2 fun r' hr => ap r' (List.mem_cons_of_mem _ hr)⟩
    obtain ⟨q, h1, h2⟩ := h.1
    obtain ⟨q', v, h3, ne⟩ := ap r (List.mem_cons_self ..)
    have e : q = q' := by
      rw [h1] at h3
      cases h3
      rfl
    subst e
    refine ⟨q, by rw [upd_ne (fun z => by rw [z, hD] at h1; cases h1)]; exact h1, ?_⟩
    rw [upd_ne ne]
    exact h2
  | [], _ :: _, h, _ => h.elim
  | _ :: _, [], h, _ => h.elim
end At

namespace At
open L2 PyProof.Rows PySem.Spec PySem
/-! ### rows of turns compared -/
def datP (pm : List P3 × Int) : PyData := .tuple [.str (wd pm.1), .int pm.2]
def datR (row : Row) : PyData := .tuple (row.map datP)
theorem dpPairs {K : PySem.W.Frag} {H : Hp} : ∀ {rs : List Addr} {row : Row}, PairsAt H rs row → DpAll K H (rs.map V.ref) (row.map datP)
  | [], [], _ => .nil
  | r :: rs, pm :: row, h => .cons (.tup (SqT.of h.1) (.cons (.str _) (.cons (.int _) .nil))) (dpPairs h.2)
  | [], _ :: _, h => h.elim
  | _ :: _, [], h => h.elim
theorem RowAt.dp {K : PySem.W.Frag} {H : Hp} {a : Addr} {row : Row} (h : RowAt H a row) : Dp K H (.ref a) (datR row) := by
  obtain ⟨rs, h1, h2⟩ := h
  exact .tup (SqT.of h1) (dpPairs h2)
theorem wd_ok (ps : List P3) : PyData.strOk (wd ps) = true := by
  unfold PyData.strOk wd
  simp only [List.all_toArray, List.all_eq_true, decide_eq_true_eq, List.mem_map]
  rintro x ⟨p, _, rfl⟩
  cases p <;> decide
theorem layR : ∀ row : Row, PyData.canLayAll0 (row.map datP) = true ∧ PyData.depthAll (row.map datP) ≤ 1
  | [] => by simp [PyData.canLayAll0, PyData.depthAll]
  | pm :: row => by
    obtain ⟨a, b⟩ := layR row
    simp only [List.map_cons, PyData.canLayAll0, PyData.depthAll, a, datP, PyData.canLay0, PyData.depth, wd_ok, Bool.and_true]
    exact ⟨trivial, by simp only [Nat.max_self]; omega⟩
theorem shapedR (row : Row) : SeqAt.shaped (datR row) = true := by
  obtain ⟨a, b⟩ := layR row
  unfold SeqAt.shaped datR
  simp only [PyData.canLay0, PyData.depth, a, Bool.true_and]
  (exact decide_eq_true (by omega))
theorem eqvR0 (row : Row) : PyData.eqv (datR row) (.tuple []) = decide (row = []) := by
  unfold datR
  cases row with
  | nil => simp [PyData.eqv, PyData.eqvAll]
  | cons u us => simp [PyData.eqv, PyData.eqvAll]
theorem flat_none {row : Row} (h : ∀ pm ∈ row, 1 ≤ pm.1.length ∧ 1 ≤ pm.2) : rowFlat row = [] ↔ row = [] := by
  constructor
  · intro e
    cases row with
    | nil => rfl
    | cons pm row =>
      have := flat_mem (pm := pm) (List.mem_cons_self ..) (row := pm :: row)
      rw [e] at this
      obtain ⟨a, b⟩ := h pm (List.mem_cons_self ..)
      have : 1 * 1 ≤ pm.2.toNat * pm.1.length := Nat.mul_le_mul (by omega) a
      simp at *
      omega
  · rintro rfl
    rfl
theorem wd_none (ps : List P3) : (wd ps = ("" : Str)) ↔ ps = [] := by
  constructor
  · intro e
    have := congrArg (fun s : Str => s.cps.size) e
    simp only [wd_size] at this
    exact List.length_eq_zero_iff.mp (this.trans (by decide +kernel))
  · rintro rfl
    decide +kernel
/-! ### down along even steps -/
theorem two_down {y d : Int} (hd : 1 ≤ d) (hy : 2 ≤ y - 2 * d) : Dw [.b, .a] (2, y, y + d) (2, y - 2 * d, y - d) := by
  have e1 : turn .b (2, y, y + d) = (-2, -y, -(y - d)) := by
    show (_, _, push _ _ _) = _
    unfold push
    rw [if_pos (by constructor <;> omega)]
    refine Prod.ext rfl (Prod.ext rfl ?_)
    dsimp only; omega
  have e2 : turn .a (-2, -y, -(y - d)) = (2, y - 2 * d, y - d) := by
    show (_, push _ _ _, _) = _
    unfold push
    rw [if_neg (by omega), if_pos (by constructor <;> omega)]
    refine Prod.ext rfl (Prod.ext ?_ ?_)
    · dsimp only; omega
    · dsimp only; omega
  refine ⟨⟨.inl ⟨by decide, by omega, by omega⟩, by show 2 ≤ nat 2; decide, by show 2 ≤ nat y; rw [nat_of (by omega)]; omega, ?_⟩, ?_⟩
  · show nat 2 * nat y < 2 * nat (y + d)
    rw [nat_of (by omega), nat_of (by omega), nat_of (by omega)]
    omega
  rw [e1]
  refine ⟨⟨.inr ⟨by decide, by omega, by omega⟩, ?_, by show 2 ≤ nat (-2); decide, ?_⟩, e2⟩
  · show 2 ≤ nat (-(y - d))
    rw [nat_neg' (by omega)]
    omega
  · show nat (-(y - d)) * nat (-2) < 2 * nat (-y)
    rw [nat_neg' (by omega), nat_neg' (by omega), nat_neg' (by omega)]
    omega
theorem two_downs {x d : Int} (hx : 2 ≤ x) (hd : 1 ≤ d) : ∀ k : Nat, ∃ ps, ps.length = 2 * k ∧ Dw ps (2, x + 2 * (k : Int) * d, x + d + 2 * (k : Int) * d) (2, x, x + d)
  | 0 => ⟨[], rfl, by simp [Dw]⟩
  | k + 1 => by
    obtain ⟨ps, hl, h⟩ := two_downs hx hd k
    have h0 : 0 ≤ 2 * (k : Int) * d := Int.mul_nonneg (by omega) (by omega)
    have e : 2 * ((k + 1 : Nat) : Int) * d = 2 * (k : Int) * d + 2 * d := by rw [Int.natCast_succ, Int.mul_add, Int.add_mul, Int.mul_one]
    have s := two_down (y := x + 2 * (k : Int) * d + 2 * d) hd (by omega)
    refine ⟨[.b, .a] ++ ps, by rw [List.length_append, hl]; show 2 + 2 * k = 2 * (k + 1); omega, ?_⟩
    rw [e]
    rw [show x + d + (2 * (k : Int) * d + 2 * d) = x + 2 * (k : Int) * d + 2 * d + d by omega, show x + (2 * (k : Int) * d + 2 * d) = x + 2 * (k : Int) * d + 2 * d by omega]
    refine Dw.append s ?_
    rw [show x + 2 * (k : Int) * d + 2 * d - 2 * d = x + 2 * (k : Int) * d by omega, show x + 2 * (k : Int) * d + 2 * d - d = x + d + 2 * (k : Int) * d by omega]
    exact h
/-- far up by a tie of two: the way down -/
theorem two_way {x d F : Int} (hx : 2 ≤ x) (hd : 1 ≤ d) (hF : 0 ≤ F) {qs rs : List P3} {b c : T3} (v : Dw qs (2, x, x + d) c) (fc : Foot c) (u : Dw rs (2, x + 2 * F * d, x + d + 2 * F * d) b) (fb : Foot b) : (rs.length : Int) = 2 * F + qs.length ∧ b = c := by
  obtain ⟨ps, hl, h⟩ := two_downs hx hd F.toNat
  rw [Int.toNat_of_nonneg hF] at h
  obtain ⟨e1, e2⟩ := u.one (h.append v) fb fc
  rw [e1, List.length_append, hl]
  exact ⟨by omega, e2⟩
end At

namespace At
open L2 PyProof.Rows PySem.Spec PySem
/-! ### from a ring of the foot to a free standing -/
theorem srt_at {b : T3} {x : P3} (top : ∀ s, nat (opp s b) ≤ nat (opp x b)) : ∃ p q, Srt p q (nat (opp x b)) b ∧ p * q = nat (co x b) * nat (go x b) := by
  have h1 : nat (co x b) ≤ nat (opp x b) := by rw [co_opp]; exact top _
  have h2 : nat (go x b) ≤ nat (opp x b) := by rw [go_opp]; exact top _
  have pm : [nat (co x b), nat (go x b), nat (opp x b)].Perm [nat b.1, nat b.2.1, nat b.2.2] := by
    obtain ⟨u, v, w⟩ := b
    cases x
    · exact List.perm_append_comm (l₁ := [nat w]) (l₂ := [nat u, nat v])
    · exact .refl _
    · exact List.perm_append_comm (l₁ := [nat v, nat w]) (l₂ := [nat u])
  rcases Int.le_total (nat (co x b)) (nat (go x b)) with h | h
  · exact ⟨_, _, ⟨pm, h, h2⟩, rfl⟩
  · exact ⟨_, _, ⟨(List.Perm.swap _ _ _).trans pm, h, h1⟩, Int.mul_comm _ _⟩
theorem free_next {b : T3} {x : P3} (hr : ring b) (f : Foot b) (no : ¬ Rg b) (top : ∀ s, nat (opp s b) ≤ nat (opp x b)) : ¬ ring (turn x b) ∧ big (turn x b) ≤ big b := by
  have key : nat (co x b) * nat (go x b) ≤ nat (opp x b) := by
    obtain ⟨p, q, s, e⟩ := srt_at top
    rw [← e]
    rcases (s.flat hr).mpr f with h | h
    · rw [h, Int.one_mul]
      exact s.2.2
    · exact absurd ((s.due f).mp ⟨hr, h⟩) no
  have eb := tri_of x b
  obtain ⟨b1, b2, b3⟩ := big_at (p := x) (Int.le_refl (big b))
  obtain ⟨u, hu⟩ : ∃ u, co x b = u := ⟨_, rfl⟩
  obtain ⟨v, hv⟩ : ∃ v, go x b = v := ⟨_, rfl⟩
  obtain ⟨w, hw⟩ : ∃ w, opp x b = w := ⟨_, rfl⟩
  obtain ⟨B, hB⟩ : ∃ B, big b = B := ⟨_, rfl⟩
  rw [hu, hv, hw] at eb key
  rw [hu] at b1
  rw [hv] at b2
  rw [hw] at b3
  rw [hB] at b1 b2 b3 ⊢
  rw [eb, ring_tri] at hr
  rw [eb, turn_tri, ring_tri, big_tri, nat_neg, nat_neg]
  rcases hr with ⟨r1, r2, r3⟩ | ⟨r1, r2, r3⟩
  · rw [push_pos r1 r2]
    rw [nat_pos r1, nat_pos r2, nat_pos r3] at key
    rw [nat_pos r3] at b3
    have m0 : 0 < u * v := Int.mul_pos r1 r2
    generalize u * v = m at key m0 ⊢
    refine ⟨by omega, b1, b2, ?_⟩
    rcases nat_two (w - m) with z | z <;> omega
  · rw [push_neg r1 r2]
    rw [nat_neg' r1, nat_neg' r2, nat_neg' r3, Int.neg_mul_neg] at key
    rw [nat_neg' r3] at b3
    have m0 : 0 < -u * -v := Int.mul_pos (by omega) (by omega)
    rw [Int.neg_mul_neg] at m0
    generalize u * v = m at key m0 ⊢
    refine ⟨by omega, b1, b2, ?_⟩
    rcases nat_two (w + m) with z | z <;> omega
/-- a row to a free standing -/
def FreeRow (t : T3) (row : Row) (b : T3) : Prop := Foot b ∧ ∃ ps, Dw ps t b ∧ ((¬ ring b ∧ rowFlat row = ps) ∨ (ring b ∧ ∃ x, rowFlat row = ps ++ [x] ∧ ¬ ring (turn x b) ∧ big (turn x b) ≤ big b))
/-- somebody stands at the greatest size -/
theorem top_ex (b : T3) : ∃ x : P3, ∀ s, nat (opp s b) ≤ nat (opp x b) := by
  obtain ⟨u, v, w⟩ := b
  by_cases h1 : nat v ≤ nat u ∧ nat w ≤ nat u
  · exact ⟨.c, fun s => by cases s <;> simp only [opp] <;> omega⟩
  · by_cases h2 : nat u ≤ nat v ∧ nat w ≤ nat v
    · exact ⟨.a, fun s => by cases s <;> simp only [opp] <;> omega⟩
    · exact ⟨.b, fun s => by cases s <;> simp only [opp] <;> omega⟩
theorem free_foot {t : T3} (h : ¬ ring t) : Foot t := fun p d => h d.1
/-- a foot with rings alone -/
theorem foot_rings {b : T3} (f : Foot b) : (∀ u, FR b u → ring u) ↔ Rg b := by
  constructor
  · intro h
    refine Classical.byContradiction fun no => ?_
    obtain ⟨x, top⟩ := top_ex b
    have n := (free_next (h b .here) f no top).1
    exact n (h _ (.step .here (free_foot n)))
  · intro h u r
    have : Rg u := by
      induction r with
      | here => exact h
      | step _ _ ih => exact ih.turn _
    exact this.1
theorem least_rings {b : T3} {us : List T3} (f : Foot b) (fl : FootL b us) : (leastL us).1 = false ↔ Rg b := by
  rw [← foot_rings f]
  unfold leastL
  cases e : us.filter fun u => !decide (ring u) with
  | nil =>
    refine ⟨fun _ u r => ?_, fun _ => rfl⟩
    have h1 := List.filter_eq_nil_iff.mp e u ((fl.all u).mpr r)
    simpa using h1
  | cons y ys =>
    refine ⟨fun h => (by cases h), fun h => ?_⟩
    have hy : y ∈ us.filter fun u => !decide (ring u) := by rw [e]; exact List.mem_cons_self ..
    obtain ⟨h1, h2⟩ := List.mem_filter.mp hy
    exact absurd (h y ((fl.all y).mp h1)) (by simpa using h2)
end At

namespace At
open L2 PyProof.Rows PySem.Spec PySem
/-! ### layers: a dict from triples to numbers of turns -/
abbrev LM := T3 × Nat
def entN (m : LM) : List L2.Key × V := (tk m.1, .int (m.2 : Nat))
theorem valN_none {u : T3} : ∀ {ms : List LM}, u ∉ ms.map (fun m => m.1) → valV (ms.map entN) (tk u) = none
  | [], _ => rfl
  | m :: ms, h => by
    rw [List.map_cons, List.mem_cons] at h
    rw [List.map_cons, valV_neg (fun z => h (.inl (tk_inj.mp z).symm))]
    exact valN_none fun z => h (.inr z)
theorem valN_some {m : LM} : ∀ {ms : List LM}, (ms.map (fun m => m.1)).Nodup → m ∈ ms → valV (ms.map entN) (tk m.1) = some (.int (m.2 : Nat))
  | x :: ms, nd, h => by
    (rw [List.map_cons, List.nodup_cons] at nd)
    (rcases List.mem_cons.mp h with rfl | h)
    · rw [List.map_cons, valV_pos (show (entN m).1 = tk m.1 from rfl)]
      rfl
    · rw [List.map_cons, valV_neg (fun z => nd.1 (by rw [show x.1 = m.1 from tk_inj.mp z]; exact List.mem_map.mpr ⟨m, h, rfl⟩))]
      exact valN_some nd.2 h
theorem valN_is {u : T3} {ms : List LM} (nd : (ms.map (fun m => m.1)).Nodup) : (valV (ms.map entN) (tk u)).isSome = decide (u ∈ ms.map fun m => m.1) := by
  by_cases h : u ∈ ms.map fun m => m.1
  · rw [decide_eq_true h]
    obtain ⟨m, hm, rfl⟩ := List.mem_map.mp h
    rw [valN_some nd hm]
    rfl
  · rw [decide_eq_false h, valN_none h]
    rfl
theorem putN_new {u : T3} {k : Nat} {ms : List LM} (h : u ∉ ms.map fun m => m.1) : putK (ms.map entN) (tk u) (.int (k : Nat)) = (ms ++ [(u, k)]).map entN := by
  unfold putK
  rw [valV_any, valN_none h, List.map_append]
  rfl
/-- sizes behind so many turns -/
def bd : Nat → Int
  | 0 => 10 ^ 120
  | k + 1 => bd k * bd k + bd k
theorem bd_walk {t : T3} (h : big t ≤ 10 ^ 120) : ∀ (n : Nat) (ps : List P3), ps.length = n → big (walk t ps) ≤ bd n := by
  intro n
  induction n with
  | zero =>
    intro ps hl
    cases ps with
    | nil => exact h
    | cons p ps => cases hl
  | succ n ih =>
    intro ps hl
    obtain ⟨qs, p, rfl⟩ : ∃ qs p, ps = qs ++ [p] := ⟨ps.dropLast, ps.getLast (fun z => by rw [z] at hl; cases hl), (List.dropLast_concat_getLast _).symm⟩
    rw [walk_append]
    show big (turn p (walk t qs)) ≤ _
    refine turn_big (ih qs ?_)
    rw [List.length_append] at hl
    exact Nat.succ.inj hl
theorem bd3 : bd 3 ≤ HUGE ∧ bd 2 ≤ bd 3 ∧ bd 1 ≤ bd 2 ∧ bd 0 ≤ bd 1 := by decide +kernel
theorem bdk_le {k : Nat} (h : k ≤ 3) : bd k ≤ HUGE := by
  obtain ⟨a, b, c, d⟩ := bd3
  match k, h with
  | 0, _ => omega
  | 1, _ => omega
  | 2, _ => omega
  | 3, _ => omega
structure LI (H0 H : Hp) (d l : Addr) (t : T3) (ms : List LM) : Prop where
  ex : Ext H0 H
  d0 : H0 d = none
  l0 : H0 l = none
  ne : l ≠ d
  at_ : H d = some (.dT (ms.map entN))
  tl : TL H l (ms.map fun m => m.1)
  nd : (ms.map (fun m => m.1)).Nodup
  ok : ∀ m ∈ ms, m.2 ≤ 4 ∧ (m.2 = 0 → m.1 = t) ∧ ∃ ps, walk t ps = m.1 ∧ ps.length = m.2
  hd : ms[0]? = some (t, 0)
theorem LI.ext {H0 H H' : Hp} {d l : Addr} {t : T3} {ms : List LM} (b : LI H0 H d l t ms) (x : Ext H H') : LI H0 H' d l t ms :=
  ⟨b.ex.trans x, b.d0, b.l0, b.ne, x _ _ b.at_, b.tl.ext x, b.nd, b.ok, b.hd⟩
/-- one more: first the dict, then the list -/
theorem LI.put {H0 H : Hp} {d l r : Addr} {t u v : T3} {k : Nat} {p : P3} {ms : List LM} (b : LI H0 H d l t ms) (n : v ∉ ms.map fun m => m.1) (hm : (u, k) ∈ ms) (hk : k < 4) (ev : turn p u = v) (hr : H r = some (.tup (tv v))) :
    ∃ ys, upd H d (.dT ((ms ++ [(v, k + 1)]).map entN)) l = some (.lst ys) ∧ ys.length = ms.length ∧ LI H0 (upd (upd H d (.dT ((ms ++ [(v, k + 1)]).map entN))) l (.lst (ys ++ [.ref r]))) d l t (ms ++ [(v, k + 1)]) := by
  have t1 := b.tl.past (o' := .dT ((ms ++ [(v, k + 1)]).map entN)) b.at_ (fun _ z => by cases z) b.ne
  have hr1 : upd H d (.dT ((ms ++ [(v, k + 1)]).map entN)) r = some (.tup (tv v)) := by
    rw [upd_ne (fun z => by rw [z, b.at_] at hr; cases hr)]
    exact hr
  obtain ⟨ys, h1, h2, h3⟩ := t1.push hr1
  refine ⟨ys, h1, by rw [h2, List.length_map], ?_⟩
  refine ⟨(b.ex.mut b.d0).mut b.l0, b.d0, b.l0, b.ne, by rw [upd_ne (Ne.symm b.ne)]; exact upd_same, ?_, ?_, fun m hm' => ?_, ?_⟩
  · rw [show (ms ++ [(v, k + 1)]).map (fun m => m.1) = ms.map (fun m => m.1) ++ [v] from List.map_append ..]
    exact h3
  · (rw [List.map_append, List.nodup_append])
    refine ⟨b.nd, by simp, fun x hx y hy => ?_⟩
    rw [List.mem_singleton.mp hy]
    exact fun z => n (by rw [← show x = v from z]; exact hx)
  · rcases List.mem_append.mp hm' with h | h
    · exact b.ok m h
    · rw [List.mem_singleton.mp h]
      obtain ⟨_, _, ps, e1, e2⟩ := b.ok _ hm
      refine ⟨by show k + 1 ≤ 4; omega, fun z => (by cases z), ps ++ [p], ?_, by rw [List.length_append, e2]; rfl⟩
      rw [walk_append, e1]
      exact ev
  · rw [List.getElem?_append_left (by have := (List.getElem?_eq_some_iff.mp b.hd).1; exact this)]
    exact b.hd
/-- the numbers of those that are no rings -/
def valsN (ms : List LM) : List Int := (ms.filter fun m => !decide (ring m.1)).map fun m => (m.2 : Int)
theorem valsN_ring (ms : List LM) {m : LM} (h : ring m.1) : valsN (ms ++ (some m).toList) = valsN ms := by
  unfold valsN
  rw [show (some m).toList = [m] from rfl, List.filter_append, List.filter_cons_of_neg (by simpa using h), List.filter_nil, List.append_nil]
theorem valsN_free (ms : List LM) {m : LM} (h : ¬ ring m.1) : valsN (ms ++ (some m).toList) = valsN ms ++ [(m.2 : Int)] := by
  unfold valsN
  rw [show (some m).toList = [m] from rfl, List.filter_append, List.filter_cons_of_pos (by simpa using h), List.filter_nil, List.map_append]
  rfl
theorem valsN_mem {ms : List LM} {y : Int} : y ∈ valsN ms ↔ ∃ m ∈ ms, ¬ ring m.1 ∧ (m.2 : Int) = y := by
  unfold valsN
  simp only [List.mem_map, List.mem_filter, Bool.not_eq_true', decide_eq_false_iff_not]
  constructor
  · rintro ⟨m, ⟨h1, h2⟩, h3⟩; exact ⟨m, h1, h2, h3⟩
  · rintro ⟨m, h1, h2, h3⟩; exact ⟨m, ⟨h1, h2⟩, h3⟩
theorem unlock_ext {H1 H' : Hp} {d : Addr} {u f : HO} (e : Ext (upd H1 d f) H') (h : H1 d = some u) : Ext H1 (upd H' d u) := fun a o ha => by
  by_cases z : a = d
  · subst z
    rw [upd_same, ← h]
    exact ha
  · rw [upd_ne z]
    exact e _ _ (by rw [upd_ne z]; exact ha)
theorem FreeRow.end_ {t b c : T3} {row : Row} {ls : List P3} (f : FreeRow t row b) (d : Dw ls t c) (fc : Foot c) : b = c ∧ (rowFlat row).length = ls.length + (if ring c then 1 else 0) ∧ ¬ ring (rowWalk t row) ∧ ∀ i, big (rowWalk t (row.take i)) ≤ big t := by
  obtain ⟨fb, ps, dw, h⟩ := f
  obtain ⟨rfl, rfl⟩ := dw.one d fb fc
  have up : ∀ {xs qs : List P3}, xs ++ qs = ps → big (walk t xs) ≤ big t := fun e => by
    rw [← e] at dw
    exact dw.front.big
  rcases h with ⟨nr, flat⟩ | ⟨rg, x, flat, nx, bx⟩
  · refine ⟨rfl, by rw [flat, if_neg nr]; rfl, by rw [rowWalk_flat, flat, dw.walk]; exact nr, fun i => ?_⟩
    obtain ⟨qs, e⟩ := flat_front row i
    rw [rowWalk_flat]
    exact up (e.symm.trans flat)
  · have whole : walk t (ps ++ [x]) = turn x b := by
      rw [walk_append, dw.walk]
      rfl
    refine ⟨rfl, by rw [flat, if_pos rg, List.length_append]; rfl, by rw [rowWalk_flat, flat, whole]; exact nx, fun i => ?_⟩
    obtain ⟨qs, e⟩ := flat_front row i
    rw [rowWalk_flat]
    have e2 : rowFlat (row.take i) ++ qs = ps ++ [x] := e.symm.trans flat
    rcases List.eq_nil_or_concat qs with h | ⟨rs, y, h⟩
    · rw [h, List.append_nil] at e2
      rw [e2, whole]
      exact Int.le_trans bx dw.big
    · rw [h, List.concat_eq_append, ← List.append_assoc] at e2
      exact up (List.append_inj_left' e2 rfl)
theorem FreeRow.none {t b : T3} {row : Row} (f : FreeRow t row b) (h : ∀ pm ∈ row, 1 ≤ pm.1.length ∧ 1 ≤ pm.2) : row = [] ↔ ¬ ring t := by
  obtain ⟨fb, ps, dw, k⟩ := f
  rw [← flat_none h]
  constructor
  · intro e
    rcases k with ⟨nr, flat⟩ | ⟨_, x, flat, _⟩
    · rw [e] at flat
      subst flat
      have : t = b := dw
      rw [this]
      exact nr
    · rw [e] at flat
      cases ps <;> cases flat
  · intro nr
    obtain ⟨rfl, rfl⟩ := dw.one (qs := []) (c := t) rfl fb (free_foot nr)
    rcases k with ⟨_, flat⟩ | ⟨rg, _⟩
    · exact flat
    · exact absurd rg nr
theorem two_no_rg {y d : Int} (hy : 2 ≤ y) (hd : 1 ≤ d) : ¬ Rg (2, y, y + d) := fun h => by
  have m := h.2.2
  have e := mk_tri .c y (y + d) 2
  have e2 : (2, y, y + d) = tri .c y (y + d) 2 := rfl
  rw [e2, e, if_pos (.inl ⟨by omega, by omega, by decide⟩), nat_of (show 0 ≤ y by omega), nat_of (show 0 ≤ y + d by omega), nat_of (show (0 : Int) ≤ 2 by decide)] at m
  have d1 : 1 * 1 ≤ d * d := Int.mul_le_mul hd hd (by decide) (by omega)
  rw [Int.add_mul, Int.mul_add, Int.mul_add, Int.mul_comm d y] at m
  omega
theorem near_some {b : T3} (f : Foot b) (no : ¬ Rg b) : ¬ ring b ∨ ∃ x, ¬ ring (turn x b) := by
  by_cases c : ring b
  · obtain ⟨x, top⟩ := top_ex b
    exact .inr ⟨x, (free_next c f no top).1⟩
  · exact .inl c
theorem cast_if {n k : Nat} {p : Prop} [Decidable p] (h : n = k + (if p then 1 else 0)) : (n : Int) = (k : Int) + (if p then 1 else 0) := by
  rw [h]
  split <;> rfl
/-- what the layers tell of the nearest ones -/
structure NearT (t : T3) (ms : List LM) : Prop where
  nd : (ms.map (fun m => m.1)).Nodup
  zero : ∀ m ∈ ms, m.2 = 0 → m.1 = t
  me : (t, 0) ∈ ms
  near : ∀ p, ∃ m ∈ ms, m.1 = turn p t ∧ m.2 ≤ 1
end At

namespace At
open L2 PyProof.Rows PySem.Spec PySem
/-! ### the layers of a foot -/
structure LayW (e : T3) (k : Nat) (ys zs : List T3) (ms : List Mem) : Prop where
  min : ∀ m ∈ ms, ∀ ps, FW e ps m.1 → m.2.2.length ≤ ps.length
  comp : ∀ ps v, FW e ps v → ps.length ≤ k → v ∈ ms.map fun m => m.1
  now : ∀ m ∈ ms, m.1 ∈ ys → m.2.2.length = k
  new : ∀ m ∈ ms, m.1 ∈ zs → m.2.2.length = k + 1
theorem LayW.first (e : T3) (l : Addr) : LayW e 0 [e] [] [(e, l, [])] where
  min m hm ps _ := by rw [List.mem_singleton.mp hm]; exact Nat.zero_le _
  comp ps v h hl := by
    have : ps = [] := List.length_eq_zero_iff.mp (by omega)
    subst this
    have h1 : e = v := h.1
    subst h1
    exact List.mem_singleton.mpr rfl
  now m hm _ := by rw [List.mem_singleton.mp hm]; rfl
  new m hm h := by cases h
theorem LayW.put {e v : T3} {k : Nat} {ys zs : List T3} {ms : List Mem} {l : Addr} {w : List P3} (h : LayW e k ys zs ms) (n : v ∉ ms.map fun m => m.1) (hy : ∀ x ∈ ys, x ∈ ms.map fun m => m.1) (hw : w.length = k + 1) :
    LayW e k ys (zs ++ [v]) (ms ++ [(v, l, w)]) where
  min m hm ps f := by
    (rcases List.mem_append.mp hm with hm | hm)
    · exact h.min m hm ps f
    · rw [List.mem_singleton.mp hm] at f ⊢
      show w.length ≤ ps.length
      rcases Nat.lt_or_ge k ps.length with c | c
      · omega
      · exact absurd (h.comp ps v f c) n
  comp ps u f hl := by
    rw [List.map_append]
    exact List.mem_append_left _ (h.comp ps u f hl)
  now m hm hm' := by
    (rcases List.mem_append.mp hm with hm | hm)
    · exact h.now m hm hm'
    · rw [List.mem_singleton.mp hm] at hm'
      exact absurd (hy _ hm') n
  new m hm hm' := by
    (rcases List.mem_append.mp hm with hm | hm)
    · rcases List.mem_append.mp hm' with h2 | h2
      · exact h.new m hm h2
      · exact absurd (List.mem_map.mpr ⟨m, hm, List.mem_singleton.mp h2⟩) n
    · (rw [List.mem_singleton.mp hm])
      exact hw
theorem FW.front {e u : T3} {qs : List P3} {p : P3} (h : FW e (qs ++ [p]) u) : FW e qs (At.walk e qs) := by
  refine ⟨rfl, fun i h0 hi => ?_⟩
  have := h.2 i h0 (by rw [List.length_append]; omega)
  rw [List.take_append_of_le_length hi] at this
  exact this
theorem FW.last {e u : T3} {qs : List P3} {p : P3} (h : FW e (qs ++ [p]) u) : u = turn p (At.walk e qs) ∧ Foot u := by
  have e1 : u = turn p (At.walk e qs) := by
    rw [← h.1, walk_append]
    rfl
  refine ⟨e1, ?_⟩
  have := h.2 (qs ++ [p]).length (by rw [List.length_append]; show 0 < qs.length + 1; omega) (Nat.le_refl _)
  rw [List.take_length, h.1] at this
  exact this
theorem LayW.round {e : T3} {k : Nat} {ys zs : List T3} {ms : List Mem} (h : LayW e k ys zs ms) (clo : ∀ u ∈ ms.map (fun m => m.1), u ∉ zs → ∀ p, Foot (turn p u) → turn p u ∈ ms.map fun m => m.1) : LayW e (k + 1) zs [] ms where
  min := h.min
  comp ps v f hl := by
    rcases Nat.lt_or_ge k ps.length with c | c
    · rcases List.eq_nil_or_concat ps with z | ⟨qs, p, z⟩
      · rw [z] at c
        cases c
      · rw [List.concat_eq_append] at z
        subst z
        rw [List.length_append] at hl c
        have hl : qs.length + 1 ≤ k + 1 := hl
        have f1 := f.front
        obtain ⟨e1, fv⟩ := f.last
        have mu := h.comp qs _ f1 (by omega)
        rw [e1] at fv ⊢
        refine clo _ mu (fun hz => ?_) p fv
        obtain ⟨m, hm, em⟩ := List.mem_map.mp mu
        have h1 := h.new m hm (by rw [em]; exact hz)
        have h2 := h.min m hm qs (by rw [em]; exact f1)
        omega
    · exact h.comp ps v f c
  now m hm hm' := h.new m hm hm'
  new m hm hm' := by cases hm'
end At

namespace At
open L2 PyProof.Rows PySem.Spec PySem
/-! ### how far two standings are apart -/
/-- how long two lists are the same -/
def cp : List P3 → List P3 → Nat
  | x :: xs, y :: ys => if x = y then cp xs ys + 1 else 0
  | _, _ => 0
theorem cp_nil (xs : List P3) : cp xs [] = 0 := by cases xs <;> rfl
theorem cp_snoc_le (q : P3) : ∀ xs ys : List P3, cp xs (ys ++ [q]) ≤ cp xs ys + 1
  | [], _ => Nat.zero_le _
  | x :: xs, [] => by
    show (if x = q then cp xs [] + 1 else 0) ≤ _
    rw [cp_nil]
    split <;> omega
  | x :: xs, y :: ys => by
    show (if x = y then cp xs (ys ++ [q]) + 1 else 0) ≤ (if x = y then cp xs ys + 1 else 0) + 1
    have := cp_snoc_le q xs ys
    split <;> omega
theorem cp_snoc_ge (q : P3) : ∀ xs ys : List P3, cp xs ys ≤ cp xs (ys ++ [q])
  | [], _ => Nat.zero_le _
  | x :: xs, [] => Nat.zero_le _
  | x :: xs, y :: ys => by
    show (if x = y then cp xs ys + 1 else 0) ≤ (if x = y then cp xs (ys ++ [q]) + 1 else 0)
    have := cp_snoc_ge q xs ys
    split <;> omega
theorem cp_self : ∀ xs : List P3, cp xs xs = xs.length
  | [] => rfl
  | x :: xs => by
    show (if x = x then cp xs xs + 1 else 0) = xs.length + 1
    rw [if_pos rfl, cp_self xs]
theorem cp_left : ∀ xs ys : List P3, cp xs ys ≤ xs.length
  | [], _ => Nat.zero_le _
  | x :: xs, [] => Nat.zero_le _
  | x :: xs, y :: ys => by
    show (if x = y then cp xs ys + 1 else 0) ≤ xs.length + 1
    have := cp_left xs ys
    split <;> omega
theorem cp_comm : ∀ xs ys : List P3, cp xs ys = cp ys xs
  | [], [] => rfl
  | [], _ :: _ => rfl
  | _ :: _, [] => rfl
  | x :: xs, y :: ys => by
    show (if x = y then cp xs ys + 1 else 0) = (if y = x then cp ys xs + 1 else 0)
    rw [cp_comm xs ys]
    by_cases h : x = y
    · rw [if_pos h, if_pos h.symm]
    · rw [if_neg h, if_neg fun z => h z.symm]
theorem cp_take : ∀ xs ys : List P3, xs.take (cp xs ys) = ys.take (cp xs ys)
  | [], _ => by
    show _ = List.take 0 _
    rw [List.take_zero]
    rfl
  | x :: xs, [] => rfl
  | x :: xs, y :: ys => by
    show List.take (if x = y then cp xs ys + 1 else 0) _ = List.take (if x = y then cp xs ys + 1 else 0) _
    by_cases h : x = y
    · rw [if_pos h, h, List.take_succ_cons, List.take_succ_cons, cp_take xs ys]
    · rw [if_neg h]
      rfl
/-- the first place where they differ -/
theorem cp_more : ∀ (xs ys : List P3) (k : Nat), k ≤ cp xs ys → k < xs.length → k < ys.length → (xs[k]? = ys[k]? ↔ k < cp xs ys)
  | [], _, k, _, h, _ => by cases h
  | _ :: _, [], k, _, _, h => by cases h
  | x :: xs, y :: ys, k, h, h1, h2 => by
    have e : cp (x :: xs) (y :: ys) = if x = y then cp xs ys + 1 else 0 := rfl
    rw [e] at h ⊢
    cases k with
    | zero =>
      by_cases z : x = y
      · rw [if_pos z, z]
        simp
      · rw [if_neg z]
        simp [z]
    | succ k =>
      by_cases z : x = y
      · rw [if_pos z] at h ⊢
        have := cp_more xs ys k (by omega) (Nat.lt_of_succ_lt_succ h1) (Nat.lt_of_succ_lt_succ h2)
        rw [List.getElem?_cons_succ, List.getElem?_cons_succ, this]
        omega
      · rw [if_neg z] at h
        omega
theorem turn_step (q : P3) (u : T3) : Down q u ∨ Down q (turn q u) ∨ (Foot u ∧ Foot (turn q u)) := by
  by_cases h1 : Down q u
  · exact .inl h1
  by_cases h2 : Down q (turn q u)
  · exact .inr (.inl h2)
  refine .inr (.inr ⟨fun p d => ?_, fun p d => ?_⟩)
  · by_cases e : p = q
    · exact h1 (e ▸ d)
    · exact h2 (d.other e)
  · by_cases e : p = q
    · exact h2 (e ▸ d)
    · have := d.other e
      rw [turn_twice] at this
      exact h1 this
theorem min_ex {P : Nat → Prop} (h : ∃ n, P n) : ∃ n, P n ∧ ∀ m, P m → n ≤ m := by
  have go : ∀ k, (∃ n, P n ∧ n ≤ k) → ∃ n, P n ∧ ∀ m, P m → n ≤ m := by
    intro k
    induction k with
    | zero =>
      rintro ⟨n, h1, h2⟩
      exact ⟨n, h1, fun m _ => by omega⟩
    | succ k ih =>
      rintro ⟨n, h1, h2⟩
      by_cases c : ∃ m, P m ∧ m ≤ k
      · exact ih c
      · exact ⟨n, h1, fun m hm => Classical.byContradiction fun z => c ⟨m, hm, by omega⟩⟩
  obtain ⟨n, hn⟩ := h
  exact go n ⟨n, hn, Nat.le_refl _⟩
def Fd (e f : T3) (n : Nat) : Prop := (∃ ps, FW e ps f ∧ ps.length = n) ∧ ∀ ps, FW e ps f → n ≤ ps.length
theorem Fd.one {e f : T3} {n m : Nat} (h : Fd e f n) (k : Fd e f m) : n = m := by
  obtain ⟨ps, h1, h2⟩ := h.1
  obtain ⟨qs, k1, k2⟩ := k.1
  have a := h.2 qs k1
  have b := k.2 ps h1
  omega
theorem fw_ex {e f : T3} (r : FR e f) : ∃ ps, FW e ps f := by
  induction r with
  | here => exact ⟨[], rfl, fun i h0 hi => absurd hi (by simp; omega)⟩
  | step _ f ih =>
    obtain ⟨ps, h⟩ := ih
    exact ⟨_, h.step f⟩
theorem fd_ex {e f : T3} (r : FR e f) : ∃ n, Fd e f n := by
  obtain ⟨ps, h⟩ := fw_ex r
  obtain ⟨n, ⟨qs, h1, h2⟩, h3⟩ := min_ex (P := fun n => ∃ ps, FW e ps f ∧ ps.length = n) ⟨_, ps, h, rfl⟩
  exact ⟨n, ⟨qs, h1, h2⟩, fun rs k => h3 _ ⟨rs, k, rfl⟩⟩
theorem fd_self (e : T3) : Fd e e 0 := ⟨⟨[], ⟨rfl, fun i h0 hi => absurd hi (by simp; omega)⟩, rfl⟩, fun _ _ => Nat.zero_le _⟩
theorem T3.dec_ (e f : T3) : e = f ∨ e ≠ f := Classical.em _
/-- no row is shorter than the ways down and the way along the foot -/
theorem far_low {t e : T3} {ps : List P3} (dt : Dw ps t e) (fe : Foot e) : ∀ (k : Nat) (w : List P3) (u : T3), w.length = k → walk t w = u → ∀ (qs : List P3) (f : T3) (n : Nat), Dw qs u f → Foot f → Fd e f n → ps.length + qs.length + n ≤ w.length + 2 * (if e = f then cp ps.reverse qs.reverse else 0) := by
  intro k
  induction k with
  | zero =>
    intro w u hw hu qs f n du ff fd
    have : w = [] := List.length_eq_zero_iff.mp hw
    subst this
    have hu : t = u := hu
    subst hu
    obtain ⟨rfl, rfl⟩ := du.one dt ff fe
    rw [if_pos rfl, cp_self, List.length_reverse, fd.one (fd_self _)]
    simp only [List.length_nil]
    omega
  | succ k ih =>
    intro w u hw hu qs f n du ff fd
    obtain ⟨w0, q, rfl⟩ : ∃ w0 q, w = w0 ++ [q] := by
      rcases List.eq_nil_or_concat w with z | ⟨a, b, z⟩
      · rw [z] at hw; cases hw
      · exact ⟨a, b, by rw [z, List.concat_eq_append]⟩
    rw [List.length_append] at hw ⊢
    have hw0 : w0.length = k := Nat.succ.inj hw
    rw [walk_append] at hu
    obtain ⟨u0, hu0⟩ : ∃ u0, walk t w0 = u0 := ⟨_, rfl⟩
    rw [hu0] at hu
    have hu : turn q u0 = u := hu
    obtain ⟨qs0, f0, du0, ff0⟩ := way_ex u0
    have r0 : FR e f0 := by
      obtain ⟨m, c, _, w1, l1⟩ := way_links w0 (dt.way fe)
      rw [hu0] at w1
      rw [(way_one (du0.way ff0) w1).2]
      exact l1
    obtain ⟨n0, fd0⟩ := fd_ex r0
    have low := ih w0 u0 hw0 hu0 qs0 f0 n0 du0 ff0 fd0
    have one1 : ([q] : List P3).length = 1 := rfl
    rw [one1]
    rcases turn_step q u0 with d | d | ⟨g1, g2⟩
    · cases qs0 with
      | nil =>
        have : u0 = f0 := du0
        subst this
        exact absurd d (ff0 q)
      | cons p qs' =>
        have ep : p = q := (du0.1.one d).symm
        subst ep
        have du' := du0.2
        rw [hu] at du'
        obtain ⟨rfl, rfl⟩ := du'.one du ff0 ff
        rw [fd.one fd0]
        rw [List.length_cons, List.reverse_cons] at low
        have := cp_snoc_le p ps.reverse qs'.reverse
        by_cases c : e = f0
        · rw [if_pos c] at low ⊢
          omega
        · rw [if_neg c] at low ⊢
          omega
    · rw [hu] at d
      have du' : Dw (q :: qs0) u f0 := ⟨d, by rw [← hu, turn_twice]; exact du0⟩
      obtain ⟨rfl, rfl⟩ := du.one du' ff ff0
      rw [fd.one fd0, List.length_cons, List.reverse_cons]
      have := cp_snoc_ge q ps.reverse qs0.reverse
      by_cases c : e = f
      · rw [if_pos c] at low ⊢
        omega
      · rw [if_neg c] at low ⊢
        omega
    · rw [hu] at g2
      obtain ⟨rfl, rfl⟩ := du0.one (qs := []) (c := u0) rfl ff0 g1
      obtain ⟨rfl, rfl⟩ := du.one (qs := []) (c := u) rfl ff g2
      have z0 : ∀ p : Prop, [Decidable p] → (if p then cp ps.reverse ([] : List P3).reverse else 0) = 0 := fun p _ => by
        rw [List.reverse_nil, cp_nil]
        split <;> rfl
      rw [z0] at low ⊢
      obtain ⟨ws, k1, k2⟩ := fd0.1
      rw [← hu] at g2
      have := fd.2 _ (by rw [← hu]; exact k1.step g2)
      rw [List.length_append, k2] at this
      simp only [List.length_nil, List.length_singleton] at this low ⊢
      omega
/-- the row along the ways down and the foot -/
theorem far_walk {t u e f : T3} {ps qs bs : List P3} (dt : Dw ps t e) (du : Dw qs u f) (hb : walk e bs = f) {L : Nat} (hL : L = 0 ∨ (e = f ∧ bs = [] ∧ ps.reverse.take L = qs.reverse.take L)) : walk t (ps.take (ps.length - L) ++ (bs ++ (qs.take (qs.length - L)).reverse)) = u := by
  rw [walk_append, walk_append]
  have up : ∀ {z : T3} {xs : List P3} (j : Nat), Dw xs z (walk z xs) → walk z (xs.take (xs.length - j)) = walk (walk z xs) (xs.reverse.take j) := fun j _ => (walk_back_part _ _ j).symm
  rcases hL with rfl | ⟨rfl, rfl, h⟩
  · rw [Nat.sub_zero, Nat.sub_zero, List.take_length, List.take_length, dt.walk, hb, ← du.walk, walk_back]
  · rw [show walk (walk t (ps.take (ps.length - L))) [] = walk t (ps.take (ps.length - L)) from rfl, ← walk_back_part, dt.walk, h, ← du.walk, walk_back_part, walk_back]
theorem LegsIn.rev {H : Hp} : ∀ {rs : List Addr} {row : Row}, LegsIn H rs row → LegsIn H rs.reverse row.reverse
  | [], [], _ => trivial
  | r :: rs, pm :: row, h => by
    (rw [List.reverse_cons, List.reverse_cons])
    exact LegsIn.app (LegsIn.rev h.2) ⟨h.1, trivial⟩
  | [], _ :: _, h => h.elim
  | _ :: _, [], h => h.elim
theorem cp_ge : ∀ (n : Nat) (xs ys : List P3), n ≤ xs.length → n ≤ ys.length → (∀ k, k < n → xs[k]? = ys[k]?) → n ≤ cp xs ys
  | 0, _, _, _, _, _ => Nat.zero_le _
  | n + 1, [], _, h, _, _ => by cases h
  | n + 1, _ :: _, [], _, h, _ => by cases h
  | n + 1, x :: xs, y :: ys, h1, h2, h => by
    have h0 := h 0 (Nat.succ_pos _)
    have e : x = y := Option.some.inj h0
    show n + 1 ≤ if x = y then cp xs ys + 1 else 0
    rw [if_pos e]
    have := cp_ge n xs ys (Nat.le_of_succ_le_succ h1) (Nat.le_of_succ_le_succ h2) fun k hk => h (k + 1) (Nat.succ_lt_succ hk)
    omega
/-- the place of the turn up from a height -/
theorem alt_at : ∀ (m : Nat) (p s : P3) (i : Nat), i < m → (alt m p s)[i]? = some (if i % 2 = 0 then p else s)
  | 0, _, _, _, h => by cases h
  | m + 1, p, s, 0, _ => rfl
  | m + 1, p, s, i + 1, h => by
    show (alt m s p)[i]? = _
    rw [alt_at m s p i (Nat.lt_of_succ_lt_succ h)]
    rcases Nat.mod_two_eq_zero_or_one i with z | z
    · rw [if_pos z, if_neg (by omega)]
    · rw [if_neg (by omega), if_pos (by omega)]
theorem up_at (us : List P3) (m : Nat) (p s : P3) (k : Nat) (h : k < us.length + m) : ∃ x, (downs us m p s).reverse[k]? = some x ∧ ((k < m ∧ x = (if (m - k) % 2 = 1 then p else s)) ∨ (m ≤ k ∧ us.reverse[k - m]? = some x)) := by
  have e : (downs us m p s).reverse = (alt m p s).reverse ++ us.reverse := by unfold downs; rw [List.reverse_append]
  rw [e]
  by_cases c : k < m
  · refine ⟨if (m - k) % 2 = 1 then p else s, ?_, .inl ⟨c, rfl⟩⟩
    rw [List.getElem?_append_left (by rw [List.length_reverse, alt_len]; exact c), List.getElem?_reverse (by rw [alt_len]; exact c), alt_len, alt_at _ _ _ _ (by omega)]
    congr 1
    rcases Nat.mod_two_eq_zero_or_one (m - k) with z | z
    · rw [if_neg (by omega), if_neg (by omega)]
    · rw [if_pos (by omega), if_pos z]
  · have hk : k - m < us.reverse.length := by rw [List.length_reverse]; omega
    refine ⟨us.reverse[k - m], ?_, .inr ⟨by omega, List.getElem?_eq_getElem hk⟩⟩
    rw [List.getElem?_append_right (by rw [List.length_reverse, alt_len]; omega), List.length_reverse, alt_len]
    exact List.getElem?_eq_getElem hk
def pairI (m : Nat) (p s : P3) : List Int := if m = 0 then [] else if m % 2 = 1 then [p.i, s.i] else [s.i, p.i]
theorem pairI_eq (m : Nat) (p s : P3) : (if m = 0 then [] else pairW m p s) = (pairI m p s).map V.int := by
  unfold pairI pairW
  split
  · rfl
  · split <;> rfl
theorem eqvTI : ∀ (ns ms : List Int), PyData.eqv (.tuple (ns.map PyData.int)) (.tuple (ms.map PyData.int)) = decide (ns = ms)
  | [], [] => by simp [PyData.eqv, PyData.eqvAll]
  | [], _ :: _ => by simp [PyData.eqv, PyData.eqvAll]
  | _ :: _, [] => by simp [PyData.eqv, PyData.eqvAll]
  | n :: ns, m :: ms => by
    have ih := eqvTI ns ms
    simp only [PyData.eqv] at ih
    simp only [List.map_cons, PyData.eqv, PyData.eqvAll, ih]
    by_cases h : n = m
    · by_cases k : ns = ms <;> simp [h, k]
    · simp [h]
theorem shapedTI (ns : List Int) : SeqAt.shaped (.tuple (ns.map PyData.int)) = true := by
  have go : ∀ ns : List Int, PyData.canLayAll0 (ns.map PyData.int) = true ∧ PyData.depthAll (ns.map PyData.int) = 0 := by
    intro ns
    induction ns with
    | nil => simp [PyData.canLayAll0, PyData.depthAll]
    | cons n ns ih => simp only [List.map_cons, PyData.canLayAll0, PyData.depthAll, ih.1, ih.2, PyData.canLay0, PyData.depth]; exact ⟨rfl, rfl⟩
  obtain ⟨a, b⟩ := go ns
  unfold SeqAt.shaped
  simp only [PyData.canLay0, PyData.depth, a, b]
  rfl
/-- the same pair: the same places up to the lesser number of even turns -/
theorem pair_same {us1 us2 : List P3} {m1 m2 : Nat} {p1 p2 s1 s2 : P3} (h : pairI m1 p1 s1 = pairI m2 p2 s2) : Nat.min m1 m2 ≤ cp (downs us1 m1 p1 s1).reverse (downs us2 m2 p2 s2).reverse := by
  have ln : ∀ (us : List P3) (m : Nat) (p s : P3), (downs us m p s).reverse.length = us.length + m := fun us m p s => by
    rw [List.length_reverse]; unfold downs; rw [List.length_append, alt_len]
  refine cp_ge _ _ _ (by rw [ln]; have := Nat.min_le_left m1 m2; show min m1 m2 ≤ _; omega) (by rw [ln]; have := Nat.min_le_right m1 m2; show min m1 m2 ≤ _; omega) fun k hk => ?_
  have hk1 : k < m1 := Nat.lt_of_lt_of_le hk (Nat.min_le_left _ _)
  have hk2 : k < m2 := Nat.lt_of_lt_of_le hk (Nat.min_le_right _ _)
  obtain ⟨x, hx, gx⟩ := up_at us1 m1 p1 s1 k (by omega)
  obtain ⟨y, hy, gy⟩ := up_at us2 m2 p2 s2 k (by omega)
  rw [hx, hy]
  have ex := (gx.resolve_right fun z => by omega).2
  have ey := (gy.resolve_right fun z => by omega).2
  have a1 := pairW_at hk1 p1 s1
  have a2 := pairW_at hk2 p2 s2
  have e1 : pairW m1 p1 s1 = pairW m2 p2 s2 := by
    have := congrArg (List.map V.int) h
    rw [← pairI_eq, ← pairI_eq, if_neg (by omega), if_neg (by omega)] at this
    exact this
  rw [e1, a2, ← ex, ← ey] at a1
  have := V.int.inj (Option.some.inj a1)
  rw [p3_inj this]
/-- the fewest turns -/
def Dist (t u : T3) (n : Nat) : Prop := (∃ ps, walk t ps = u ∧ ps.length = n) ∧ ∀ ps, walk t ps = u → n ≤ ps.length
theorem far_is {t u e f : T3} {ps qs bs : List P3} (dt : Dw ps t e) (fe : Foot e) (du : Dw qs u f) (ff : Foot f) (hb : FW e bs f) (least : ∀ ws, FW e ws f → bs.length ≤ ws.length) {L : Nat} (hL : L = if e = f then cp ps.reverse qs.reverse else 0) : walk t (ps.take (ps.length - L) ++ (bs ++ (qs.take (qs.length - L)).reverse)) = u ∧ Dist t u (ps.length - L + (bs.length + (qs.length - L))) := by
  have e0 : e = f → bs = [] := fun z => by
    have := least [] ⟨z, fun i h0 hi => absurd hi (by simp; omega)⟩
    exact List.length_eq_zero_iff.mp (by simpa using this)
  have w := far_walk dt du hb.1 (L := L) (by
    by_cases c : e = f
    · rw [if_pos c] at hL
      exact .inr ⟨c, e0 c, by rw [hL]; exact cp_take _ _⟩
    · rw [if_neg c] at hL
      exact .inl hL)
  have l1 : L ≤ ps.length := by
    rw [hL]
    split
    · have := cp_left ps.reverse qs.reverse
      rwa [List.length_reverse] at this
    · exact Nat.zero_le _
  have l2 : L ≤ qs.length := by
    rw [hL]
    split
    · have := cp_left qs.reverse ps.reverse
      rwa [List.length_reverse, cp_comm] at this
    · exact Nat.zero_le _
  refine ⟨w, ⟨_, w, ?_⟩, fun ws hw => ?_⟩
  · rw [List.length_append, List.length_append, List.length_take, List.length_reverse, List.length_take]
    omega
  · have := far_low dt fe _ ws u rfl hw qs f bs.length du ff ⟨⟨bs, hb, rfl⟩, least⟩
    rw [← hL] at this
    omega
end At
namespace At
open L2 PyProof.Rows PySem.Spec PySem
/-- so many turns down the least size is two or less -/
def Stop (t : T3) (k : Nat) : Prop := ∃ ws e, Dw ws t e ∧ Foot e ∧ ∃ s, nat (opp s (walk t (ws.take k))) ≤ 2
/-- a row along the fewest turns -/
def RoadRow (t u : T3) (row : Row) : Prop := walk t (rowFlat row) = u ∧ Dist t u (rowFlat row).length ∧ row.length ≤ 400 ∧ (∀ pm ∈ row, 1 ≤ pm.1.length ∧ pm.1.length ≤ 12 ∧ 1 ≤ pm.2 ∧ pm.2 ≤ MT) ∧
  (∃ xs bs ys, rowFlat row = xs ++ (bs ++ ys.reverse) ∧ Dw xs t (walk t xs) ∧ Dw ys u (walk u ys) ∧ ∀ n e, Way n t e → bs ≠ [] → ∀ j, FR e (walk (walk t xs) (bs.take j))) ∧
  (∀ n e m f, Way n t e → Way m u f → 12 * row.length ≤ n + m + 108) ∧ ∀ k1 k2, Stop t k1 → Stop u k2 → 12 * row.length ≤ k1 + k2 + 108
theorem FW.fr_take {e f : T3} {bs : List P3} (h : FW e bs f) (j : Nat) : FR e (walk e (bs.take j)) := by
  have go : ∀ i, i ≤ bs.length → FR e (walk e (bs.take i)) := by
    intro i
    induction i with
    | zero => intro _; exact .here
    | succ i ih =>
      intro hi
      have f0 := h.2 (i + 1) (Nat.succ_pos _) hi
      have e1 : walk e (bs.take (i + 1)) = turn bs[i] (walk e (bs.take i)) := by
        rw [List.take_succ_eq_append_getElem (by omega), walk_append]
        rfl
      rw [e1] at f0 ⊢
      exact .step (ih (by omega)) f0
  by_cases c : j ≤ bs.length
  · exact go j c
  · rw [List.take_of_length_le (by omega)]
    have := go bs.length (Nat.le_refl _)
    rwa [List.take_length] at this
theorem RoadRow.parts {t u e : T3} {row : Row} {n : Nat} {G : Int} (r : RoadRow t u row) (w : Way n t e) (ht : big t ≤ G) (hu : big u ≤ G) (hf : ∀ v, FR e v → big v ≤ G) (i : Nat) : big (rowWalk t (row.take i)) ≤ G := by
  obtain ⟨wk, _, _, _, ⟨xs, bs, ys, fl, dx, dy, fr⟩, _, _⟩ := r
  obtain ⟨j, _, ej⟩ := flat_take row i
  rw [rowWalk_flat, ej, fl]
  rw [fl] at wk
  have up : ∀ k, big (walk t (xs.take k)) ≤ G := fun k => by
    have := dx
    rw [← List.take_append_drop k xs] at this
    exact Int.le_trans (this.front).big ht
  rw [List.take_append, walk_append]
  by_cases c1 : j ≤ xs.length
  · rw [show j - xs.length = 0 by omega, List.take_zero]
    exact up j
  · rw [List.take_of_length_le (by omega : xs.length ≤ j), List.take_append, walk_append]
    by_cases c2 : j - xs.length ≤ bs.length
    · rw [show j - xs.length - bs.length = 0 by omega, List.take_zero]
      show big (walk (walk t xs) (bs.take (j - xs.length))) ≤ G
      by_cases z : bs = []
      · rw [z, List.take_nil]
        have := up xs.length
        rw [List.take_length] at this
        exact this
      · exact hf _ (fr n e w z _)
    · rw [List.take_of_length_le (by omega : bs.length ≤ j - xs.length)]
      rw [walk_append, walk_append] at wk
      have back : walk (walk t xs) bs = walk u ys := by
        have := walk_back ys.reverse (walk (walk t xs) bs)
        rw [wk, List.reverse_reverse] at this
        exact this.symm
      rw [back, walk_back_part]
      have := dy
      rw [← List.take_append_drop (ys.length - (j - xs.length - bs.length)) ys] at this
      exact Int.le_trans (this.front).big hu
end At
namespace At
open L2 PyProof.Rows PySem.Spec PySem
theorem Dist.one {t u : T3} {n m : Nat} (h : Dist t u n) (k : Dist t u m) : n = m := by
  obtain ⟨⟨ps, h1, h2⟩, h3⟩ := h
  obtain ⟨⟨qs, k1, k2⟩, k3⟩ := k
  have a := h3 qs k1
  have b := k3 ps h1
  omega
theorem Dist.symm {t u : T3} {n : Nat} (h : Dist t u n) : Dist u t n := by
  obtain ⟨⟨ps, h1, h2⟩, h3⟩ := h
  refine ⟨⟨ps.reverse, by rw [← h1, walk_back], by rw [List.length_reverse, h2]⟩, fun qs hq => ?_⟩
  have := h3 qs.reverse (by rw [← hq, walk_back])
  rwa [List.length_reverse] at this
theorem dist_ex {t u : T3} (h : ∃ ws, walk t ws = u) : ∃ n, Dist t u n := by
  obtain ⟨ps, h⟩ := h
  obtain ⟨n, ⟨qs, h1, h2⟩, h3⟩ := min_ex (P := fun n => ∃ ps, walk t ps = u ∧ ps.length = n) ⟨_, ps, h, rfl⟩
  exact ⟨n, ⟨qs, h1, h2⟩, fun rs k => h3 _ ⟨rs, k, rfl⟩⟩
theorem Dist.over {t u v : T3} {a b c : Nat} (h : Dist t u a) (k : Dist u v b) (l : Dist t v c) : c ≤ a + b := by
  obtain ⟨⟨ps, h1, h2⟩, _⟩ := h
  obtain ⟨⟨qs, k1, k2⟩, _⟩ := k
  have := l.2 (ps ++ qs) (by rw [walk_append, h1, k1])
  rw [List.length_append] at this
  omega
theorem Dist.zero {t u : T3} {n : Nat} (h : Dist t u n) : n = 0 ↔ t = u := by
  constructor
  · rintro rfl
    obtain ⟨⟨ps, h1, h2⟩, _⟩ := h
    rw [List.length_eq_zero_iff.mp h2] at h1
    exact h1
  · rintro rfl
    exact h.one ⟨⟨[], rfl, rfl⟩, fun _ _ => Nat.zero_le _⟩
theorem Dist.near {t v : T3} {p : P3} {a b : Nat} (h : Dist (turn p t) v a) (k : Dist t v b) : a ≤ b + 1 ∧ b ≤ a + 1 := by
  obtain ⟨⟨ps, h1, h2⟩, h3⟩ := h
  obtain ⟨⟨qs, k1, k2⟩, k3⟩ := k
  have x := h3 (p :: qs) (by show walk (turn p (turn p t)) qs = v; rw [turn_twice]; exact k1)
  have y := k3 (p :: ps) h1
  rw [List.length_cons] at x y
  omega
/-- from a member of the foot it is as far as the way down or further -/
theorem Dist.high {t u f : T3} {qs : List P3} {n : Nat} (h : Dist t u n) (ft : Foot t) (d : Dw qs u f) (ff : Foot f) : qs.length ≤ n := by
  obtain ⟨⟨ws, h1, h2⟩, _⟩ := h
  have r : FR t f := by
    obtain ⟨m, c, _, w1, l1⟩ := way_links ws (Way.here ft)
    rw [h1] at w1
    rw [(way_one (d.way ff) w1).2]
    exact l1
  obtain ⟨k, fd⟩ := fd_ex r
  have := far_low (ps := []) rfl ft _ ws u rfl h1 qs f k d ff fd
  have z : ∀ p : Prop, [Decidable p] → (if p then cp ([] : List P3).reverse qs.reverse else 0) = 0 := fun p _ => by split <;> rfl
  rw [z] at this
  simp only [List.length_nil] at this
  omega
/-- the ways down of the neighbours -/
theorem near_way {t e : T3} {ps : List P3} (d : Dw ps t e) (f : Foot e) (q : P3) {qs : List P3} {e' : T3} (d' : Dw qs (turn q t) e') (f' : Foot e') :
    (Down q t ∧ qs.length + 1 = ps.length) ∨ (¬ Down q t ∧ qs.length = ps.length + 1) ∨ (Foot t ∧ ps.length = 0) := by
  rcases turn_step q t with h | h | ⟨h1, h2⟩
  · refine .inl ⟨h, ?_⟩
    obtain ⟨e1, _⟩ := d.one (qs := q :: qs) ⟨h, d'⟩ f f'
    rw [e1]
    rfl
  · have nd : ¬ Down q t := fun z => by
      have h1 := down_lt z
      have h2 := down_lt h
      rw [turn_twice] at h2
      omega
    refine .inr (.inl ⟨nd, ?_⟩)
    obtain ⟨e1, _⟩ := d'.one (qs := q :: ps) ⟨h, by rw [turn_twice]; exact d⟩ f' f
    rw [e1]
    rfl
  · refine .inr (.inr ⟨h1, ?_⟩)
    obtain ⟨e1, _⟩ := d.one (qs := []) (c := t) rfl f h1
    rw [e1]
    rfl
end At

namespace At
open L2 PyProof.Rows PySem.Spec PySem
/-! ### turns among all standings with sizes up to a bound -/
inductive BL (B : Int) (t : T3) : T3 → Prop
  | here (h : big t ≤ B) : BL B t t
  | step {u : T3} {p : P3} (h : BL B t u) (k : big (turn p u) ≤ B) : BL B t (turn p u)
theorem BL.last {B : Int} {t u : T3} (h : BL B t u) : big u ≤ B := by
  cases h <;> assumption
theorem BL.first {B : Int} {t u : T3} (h : BL B t u) : big t ≤ B := by
  induction h with
  | here h => exact h
  | step _ _ ih => exact ih
theorem BL.trans {B : Int} {t u v : T3} (h : BL B t u) (k : BL B u v) : BL B t v := by
  induction k with
  | here _ => exact h
  | step _ k ih => exact .step ih k
theorem BL.symm {B : Int} {t u : T3} (h : BL B t u) : BL B u t := by
  induction h with
  | here h => exact .here h
  | @step u p h k ih =>
    have e : BL B (turn p u) u := by
      have := BL.step (p := p) (.here k) (by rw [turn_twice]; exact h.last)
      rwa [turn_twice] at this
    exact e.trans ih
theorem BL.walk {B : Int} {t u : T3} (h : BL B t u) : ∃ w, At.walk t w = u := by
  induction h with
  | here _ => exact ⟨[], rfl⟩
  | @step u p _ _ ih =>
    obtain ⟨w, rfl⟩ := ih
    exact ⟨w ++ [p], by rw [walk_append]; rfl⟩
/-- down: the greatest size falls -/
theorem dw_box {B : Int} : ∀ {ps : List P3} {t b : T3}, Dw ps t b → big t ≤ B → BL B t b
  | [], t, b, h, hb => by cases (show t = b from h); exact .here hb
  | p :: ps, t, b, h, hb => by
    have h1 : big (turn p t) ≤ B := Int.le_trans (Int.le_of_lt (down_lt h.1)) hb
    exact (BL.step (p := p) (.here hb) h1).trans (dw_box h.2 h1)
theorem big_three {t : T3} {B : Int} (h1 : nat t.1 ≤ B) (h2 : nat t.2.1 ≤ B) (h3 : nat t.2.2 ≤ B) : big t ≤ B := by
  obtain ⟨x, y, z⟩ := t
  exact big_le.mpr ⟨h1, h2, h3⟩
theorem big_sum (t : T3) : big t ≤ szsum t := by
  have a := nat_nonneg t.1
  have b := nat_nonneg t.2.1
  have c := nat_nonneg t.2.2
  exact big_three (by show nat t.1 ≤ nat t.1 + nat t.2.1 + nat t.2.2; omega) (by show nat t.2.1 ≤ nat t.1 + nat t.2.1 + nat t.2.2; omega) (by show nat t.2.2 ≤ nat t.1 + nat t.2.1 + nat t.2.2; omega)
/-- no member of a foot has a size above the sum of another one's -/
theorem foot_sum {e : T3} (fe : Foot e) : ∀ s, FR e s → big s ≤ szsum e := by
  by_cases h0 : ∀ p, nat (opp p e) ≠ 1
  · intro s hs
    have all : M0 (nat e.1) (nat e.2.1) (nat e.2.2) s := by
      induction hs with
      | here => exact ⟨rfl, rfl, rfl⟩
      | step h f ih => exact ih.turn (h0 .c) (h0 .a) (h0 .b) (h.foot fe) f
    refine Int.le_trans (big_three ?_ ?_ ?_) (big_sum e)
    · rw [all.1]; exact (big_le (t := e).mp (Int.le_refl _)).1
    · rw [all.2.1]; exact (big_le (t := e).mp (Int.le_refl _)).2.1
    · rw [all.2.2]; exact (big_le (t := e).mp (Int.le_refl _)).2.2
  · obtain ⟨p, hp⟩ : ∃ p, nat (opp p e) = 1 := Classical.not_forall.mp h0 |>.imp fun p z => Decidable.not_not.mp z
    have et := tri_of p e
    generalize co p e = u at et
    generalize go p e = v at et
    generalize opp p e = w at et hp
    have hw := two_of hp
    have nw : nat w = 1 := hp
    have nu := nat_nonneg u
    have nv := nat_nonneg v
    have es : szsum e = nat u + nat v + nat w := by rw [et, szsum_tri]
    have k2 : ∀ r, 0 ≤ r → M2 r u v w → ∀ s, FR e s → big s ≤ szsum e := fun r hr hm s hs => by
      have m : M2 r s.1 s.2.1 s.2.2 := by
        induction hs with
        | here => exact (M2_tri (p := p) (by rw [← et])).mp hm
        | @step s q h f ih =>
          have e2 := tri_of q s
          have ft := f q
          rw [e2, turn_tri] at ft
          have m0 := (M2_tri (p := q) (u := co q s) (v := At.go q s) (w := opp q s) (x := s.1) (y := s.2.1) (z := s.2.2) e2.symm).mpr ih
          refine (M2_tri (p := q) ?_).mp (m0.turn hr ft)
          rw [← turn_tri, ← e2]
      rw [es]
      unfold M2 at m hm
      exact big_three (by omega) (by omega) (by omega)
    have k1 : ∀ q r, (q = 0 ∨ 2 ≤ q) → (r = 0 ∨ 2 ≤ r) → M1 q r u v w → ∀ s, FR e s → big s ≤ szsum e := fun q r hq hr hm s hs => by
      obtain ⟨u', v', w', rfl, m⟩ : ∃ u v w, s = tri p u v w ∧ M1 q r u v w := by
        induction hs with
        | here => exact ⟨u, v, w, et, hm⟩
        | @step s y h f ih =>
          obtain ⟨u', v', w', rfl, m⟩ := ih
          exact m.turn hq hr y f
      rw [es]
      unfold M1 at m hm
      have : nat w' = 1 := by rcases m.1 with rfl | rfl <;> rfl
      exact big_tri.mpr ⟨by omega, by omega, by omega⟩
    by_cases a : R3 u v w
    · have u0 : 0 < nat u := by unfold R3 at a; rcases nat_two u with z | z <;> omega
      have v0 : 0 < nat v := by unfold R3 at a; rcases nat_two v with z | z <;> omega
      by_cases le : nat u ≤ nat v
      · by_cases c1 : nat u = 1
        · exact k2 (nat v - 1) (by omega) (.inr ⟨a, by omega⟩)
        · by_cases c2 : nat v - nat u = 1
          · exact k2 (nat u) (by omega) (.inr ⟨a, by omega⟩)
          · exact k1 (nat u) (nat v - nat u) (by omega) (by omega) ⟨hw, .inr ⟨a, by omega⟩⟩
      · by_cases c1 : nat v = 1
        · exact k2 (nat u - 1) (by omega) (.inr ⟨a, by omega⟩)
        · by_cases c2 : nat u - nat v = 1
          · exact k2 (nat v) (by omega) (.inr ⟨a, by omega⟩)
          · exact k1 (nat v) (nat u - nat v) (by omega) (by omega) ⟨hw, .inr ⟨a, by omega⟩⟩
    · by_cases c1 : nat u = 1
      · exact k2 (nat v) nv (.inl ⟨a, by omega⟩)
      · by_cases c2 : nat v = 1
        · exact k2 (nat u) nu (.inl ⟨a, by omega⟩)
        · exact k1 (nat u) (nat v) (by omega) (by omega) ⟨hw, .inl ⟨a, by omega⟩⟩
theorem fr_box {B : Int} {e s : T3} (h : ∀ s, FR e s → big s ≤ B) (r : FR e s) : BL B e s := by
  induction r with
  | here => exact .here (h _ .here)
  | step r f ih => exact .step ih (h _ (.step r f))
/-- linked ones are linked among those with sizes up to the greater sum -/
theorem box_link {B : Int} {t u : T3} (lk : ∃ w, At.walk t w = u) (ht : szsum t ≤ B) (hu : szsum u ≤ B) : BL B t u := by
  obtain ⟨w, rfl⟩ := lk
  obtain ⟨ps, e, de, fe⟩ := way_ex t
  obtain ⟨m, f, _, wf, fr⟩ := way_links w (de.way fe)
  obtain ⟨qs, f', df, ff⟩ := way_ex (At.walk t w)
  cases (way_one wf (df.way ff)).2
  have h1 := dw_box de (Int.le_trans (big_sum t) ht)
  have h2 := dw_box df (Int.le_trans (big_sum _) hu)
  have h3 : BL B e f := fr_box (e := e) (s := f) (B := B) (fun s hs => Int.le_trans (foot_sum fe s hs) (Int.le_trans de.szsum ht)) fr
  exact (h1.trans h3).trans h2.symm
/-! ### how many there are -/
def line (B : Nat) : List Int := (List.range (2 * B + 1)).map fun i : Nat => (i : Int) - B
theorem mem_line {B : Nat} {x : Int} (h : nat x ≤ B) : x ∈ line B := by
  refine List.mem_map.mpr ⟨(x + B).toNat, List.mem_range.mpr ?_, ?_⟩
  · rcases nat_two x with z | z <;> omega
  · rcases nat_two x with z | z <;> omega
def cube (B : Nat) : List T3 := (line B).flatMap fun x => (line B).flatMap fun y => (line B).map fun z => (x, y, z)
theorem sum_const {α : Type} (l : List α) (n : Nat) : (l.map fun _ => n).sum = l.length * n := by
  induction l with
  | nil => simp
  | cons a l ih => rw [List.map_cons, List.sum_cons, ih, List.length_cons, Nat.succ_mul, Nat.add_comm]
theorem cube_len (B : Nat) : (cube B).length = (2 * B + 1) * ((2 * B + 1) * (2 * B + 1)) := by
  have ll : (line B).length = 2 * B + 1 := by unfold line; rw [List.length_map, List.length_range]
  unfold cube
  rw [List.length_flatMap]
  have inner : ∀ x : Int, ((line B).flatMap fun y => (line B).map fun z => ((x, y, z) : T3)).length = (2 * B + 1) * (2 * B + 1) := fun x => by
    rw [List.length_flatMap]
    simp only [List.length_map, ll]
    rw [sum_const, ll]
  simp only [inner]
  rw [sum_const, ll]
theorem mem_cube {B : Nat} {t : T3} (h : big t ≤ B) : t ∈ cube B := by
  obtain ⟨x, y, z⟩ := t
  obtain ⟨h1, h2, h3⟩ := big_le.mp h
  unfold cube
  exact List.mem_flatMap.mpr ⟨x, mem_line h1, List.mem_flatMap.mpr ⟨y, mem_line h2, List.mem_map.mpr ⟨z, mem_line h3, rfl⟩⟩⟩
theorem box_few {B : Nat} {us : List T3} (nd : us.Nodup) (h : ∀ u ∈ us, big u ≤ B) (hB : B ≤ 120) : us.length ≤ 13997521 := by
  have := nodup_le nd fun u hu => mem_cube (h u hu)
  rw [cube_len] at this
  have h1 : 2 * B + 1 ≤ 241 := by omega
  have h2 := Nat.mul_le_mul h1 (Nat.mul_le_mul h1 h1)
  omega
/-! ### namings -/
noncomputable instance lnkDec (t u : T3) : Decidable (∃ w, At.walk t w = u) := Classical.propDecidable _
/-- the namings in the program's order -/
def nams : List (P3 × P3 × P3) := [(.a, .b, .c), (.a, .c, .b), (.b, .a, .c), (.b, .c, .a), (.c, .a, .b), (.c, .b, .a)]
theorem nams_ok {z : P3 × P3 × P3} (h : z ∈ nams) : Nam z.1 z.2.1 z.2.2 := by
  simp only [nams, List.mem_cons, List.not_mem_nil, or_false] at h
  rcases h with rfl | rfl | rfl | rfl | rfl | rfl <;> exact ⟨by decide, by decide, by decide⟩
/-- the namings that lead from t's kind to u's -/
noncomputable def namFit (t u : T3) : List (P3 × P3 × P3) := nams.filter fun z : P3 × P3 × P3 => decide (∃ w, At.walk u w = ren z.1 z.2.1 z.2.2 t)
def namS (z : P3 × P3 × P3) : V := .str (wd [z.1, z.2.1, z.2.2])
/-! ### the least form tells the kind -/
abbrev Lnk (t u : T3) : Prop := ∃ w, At.walk t w = u
theorem lnk_symm {t u : T3} (h : Lnk t u) : Lnk u t := by
  obtain ⟨w, rfl⟩ := h
  exact ⟨w.reverse, walk_back w t⟩
theorem lnk_trans {t u v : T3} (h : Lnk t u) (k : Lnk u v) : Lnk t v := by
  obtain ⟨w, rfl⟩ := h
  obtain ⟨w2, rfl⟩ := k
  exact ⟨w ++ w2, walk_append t w w2⟩
theorem fr_lnk {e s : T3} (r : FR e s) : Lnk e s := by
  induction r with
  | here => exact ⟨[], rfl⟩
  | @step u p _ _ ih => exact lnk_trans ih ⟨[p], rfl⟩
theorem way_lnk {n : Nat} {t b : T3} (w : Way n t b) : Lnk t b := by
  induction w with
  | here _ => exact ⟨[], rfl⟩
  | @down n p t b _ _ ih => exact lnk_trans ⟨[p], rfl⟩ ih
theorem least_mem {us : List T3} (h : us ≠ []) : (leastL us).2 ∈ us := by
  unfold leastL
  split
  · next x l e =>
    exact (List.mem_filter.mp (by rw [e]; exact List.mem_cons_self : x ∈ us.filter fun u => !decide (ring u))).1
  · cases us with
    | nil => exact absurd rfl h
    | cons u us => exact List.mem_cons_self
theorem least_link {n m : Nat} {t u b c : T3} {us vs : List T3} (fb : FootL b us) (fc : FootL c vs) (w : Way n t b) (v : Way m u c) : leastL us = leastL vs ↔ Lnk t u := by
  constructor
  · intro e
    have h1 := (fb.all _).mp (least_mem fb.ne)
    have h2 := (fc.all _).mp (least_mem fc.ne)
    rw [← e] at h2
    exact lnk_trans (lnk_trans (way_lnk w) (fr_lnk h1)) (lnk_symm (lnk_trans (way_lnk v) (fr_lnk h2)))
  · rintro ⟨ws, rfl⟩
    obtain ⟨m', c', _, v', fr⟩ := way_links ws w
    cases (way_one v v').2
    rw [fb.one fc (way_foot w) fr]
/-! ### lists of written triples -/
def Trips (H : Hp) (xs : List V) : Prop := ∀ x ∈ xs, ∃ a t, x = V.ref a ∧ H a = some (.tup (tv t)) ∧ big t ≤ 5
theorem Trips.ext {H H' : Hp} {xs : List V} (h : Trips H xs) (e : Ext H H') : Trips H' xs := fun x hx => by
  obtain ⟨a, t, e1, e2, e3⟩ := h x hx
  exact ⟨a, t, e1, e _ _ e2, e3⟩
theorem go_lit3 {x y z : Int} {t1 t2 t3 : TE} {rest : TA} {σ : L2.St} {H0 H : Hp} {Q : List V → Hp → Prop} {acc : List V} (inv : Trips H acc) (e : Ext H0 H)
    (h1 : ∀ H (Q : VK), Q (.int x) H → t1 σ H Q) (h2 : ∀ H (Q : VK), Q (.int y) H → t2 σ H Q) (h3 : ∀ H (Q : VK), Q (.int z) H → t3 σ H Q) (hb : big (x, y, z) ≤ 5)
    (k : ∀ p H', Ext H0 H' → Trips H' (acc ++ [.ref p]) → rest σ H' fun xs H2 => Q (.ref p :: xs) H2) : tCons (tTup (tCons t1 (tCons t2 (tCons t3 tNil)))) rest σ H Q := by
  refine h1 _ _ (h2 _ _ (h3 _ _ ⟨Nat.le_of_ble_eq_true rfl, fun p np => ?_⟩))
  have e2 : Ext H (upd H p (.tup [.int x, .int y, .int z])) := Evl.Ex.new np
  refine k p _ (e.trans e2) fun v hv => ?_
  rcases List.mem_append.mp hv with z1 | z1
  · exact inv.ext e2 v z1
  · rw [List.mem_singleton.mp z1]
    exact ⟨p, (x, y, z), rfl, upd_same, hb⟩
theorem go_lits {H0 H : Hp} {acc : List V} {C : Addr → Hp → Prop} (inv : Trips H acc) (e : Ext H0 H) (k : ∀ l ls H', ls.length = acc.length → Ext H0 H' → H0 l = none → H' l = some (.lst ls) → Trips H' ls → C l H') : ∀ l, H l = none → C l (upd H l (.lst acc)) :=
  fun l nl => k l acc _ rfl (ext_new e nl) (Evl.fresh_back e nl) upd_same (inv.ext (Evl.Ex.new nl))
/-! ### the law's walk within a bound -/
/-- so far: all is linked within the bound; of the first i all turns within the bound are there -/
structure BQ (B : Int) (t : T3) (i : Nat) (ms : List LM) : Prop where
  ok : ∀ m ∈ ms, BL B t m.1
  clo : ∀ j m, j < i → ms[j]? = some m → ∀ p, big (turn p m.1) ≤ B → turn p m.1 ∈ ms.map fun m => m.1
theorem BQ.put {B : Int} {t u v : T3} {i k n : Nat} {p : P3} {ms : List LM} (b : BQ B t i ms) (h : ms[i]? = some (u, k)) (ev : turn p u = v) (hv : big v ≤ B) : BQ B t i (ms ++ [(v, n)]) where
  ok m hm := by
    rcases List.mem_append.mp hm with z | z
    · exact b.ok m z
    · (rw [List.mem_singleton.mp z])
      have := BL.step (p := p) (b.ok _ (List.mem_of_getElem? h)) (by rw [show turn p (u, k).1 = v from ev]; exact hv)
      rwa [show turn p (u, k).1 = v from ev] at this
  clo j m hj hm p hp := by
    have hi := (List.getElem?_eq_some_iff.mp h).1
    rw [List.getElem?_append_left (by omega)] at hm
    rw [List.map_append]
    exact List.mem_append_left _ (b.clo j m hj hm p hp)
theorem BQ.next {B : Int} {t u : T3} {i k : Nat} {ms : List LM} (b : BQ B t i ms) (h : ms[i]? = some (u, k)) (c : ∀ p, big (turn p u) ≤ B → turn p u ∈ ms.map fun m => m.1) : BQ B t (i + 1) ms where
  ok := b.ok
  clo j m hj hm p hp := by
    by_cases z : j < i
    · exact b.clo j m z hm p hp
    · have : j = i := by omega
      subst this
      cases Option.some.inj (h.symm.trans hm)
      exact c p hp
theorem BQ.all {B : Int} {t : T3} {i : Nat} {ms : List LM} (b : BQ B t i ms) (hi : ms.length ≤ i) (ht : t ∈ ms.map fun m => m.1) (u : T3) : u ∈ ms.map (fun m => m.1) ↔ BL B t u := by
  constructor
  · intro h
    obtain ⟨m, hm, rfl⟩ := List.mem_map.mp h
    exact b.ok m hm
  · intro h
    induction h with
    | here _ => exact ht
    | @step u p _ k ih =>
      obtain ⟨m, hm, rfl⟩ := List.mem_map.mp ih
      obtain ⟨j, hj⟩ := List.mem_iff_getElem?.mp hm
      have := (List.getElem?_eq_some_iff.mp hj).1
      exact b.clo j m (by omega) hj p k
theorem BQ.few {B : Int} {t : T3} {i : Nat} {ms : List LM} (b : BQ B t i ms) (nd : (ms.map fun m => m.1).Nodup) (hB : B ≤ 120) (h0 : 0 ≤ B) : ms.length ≤ 13997521 := by
  have := box_few (B := B.toNat) nd (fun u hu => by
    obtain ⟨m, hm, rfl⟩ := List.mem_map.mp hu
    rw [Int.toNat_of_nonneg h0]
    exact (b.ok m hm).last) (by omega)
  rwa [List.length_map] at this
/-! ### the greatest size, written out -/
def natV : V → V
  | .int i => .int (nat i)
  | v => v
theorem abs_max {u v w m : Int} (hm : m ∈ [nat u, nat v, nat w]) (h : ∀ x ∈ [nat u, nat v, nat w], x ≤ m) : m = big (u, v, w) := by
  simp only [List.mem_cons, List.not_mem_nil, or_false, forall_eq_or_imp, forall_eq] at hm h
  have g := fun G => big_le (t := (u, v, w)) (G := G)
  have a1 := (g m).mpr h
  have a2 : nat u ≤ _ ∧ nat v ≤ _ ∧ nat w ≤ _ := (g (big (u, v, w))).mp (Int.le_refl _)
  rcases hm with rfl | rfl | rfl <;> omega
theorem ren_sum {p q s : P3} (h : Nam p q s) (t : T3) : szsum (ren p q s t) = szsum t := by
  obtain ⟨x, y, z⟩ := t
  rcases nam_two h with ⟨h1, h2⟩ | ⟨h1, h2⟩
  · rw [ren_even h1 h2]
    subst h2
    subst h1
    cases p <;> unfold szsum <;> simp only [go, nxt] <;> first | done | omega
  · rw [ren_odd h1 h2]
    subst h2
    subst h1
    cases p <;> unfold szsum <;> simp only [go, prv, nat_neg] <;> first | done | omega
/-! ### namings back -/
theorem ren_lnk {p q s : P3} (h : Nam p q s) {t u : T3} (l : Lnk t u) : Lnk (ren p q s t) (ren p q s u) := by
  obtain ⟨w, rfl⟩ := l
  obtain ⟨v, hv⟩ : ∃ v, oldw p q s v = w := by
    induction w with
    | nil => exact ⟨[], rfl⟩
    | cons y w ih =>
      obtain ⟨v, hv⟩ := ih
      obtain ⟨x, hx⟩ := nam_onto h y
      exact ⟨x :: v, by unfold oldw at hv ⊢; rw [List.map_cons, hx, hv]⟩
  exact ⟨v, by rw [ren_walk h, hv]⟩
theorem nam_back {z : P3 × P3 × P3} (h : z ∈ nams) : ∃ y ∈ nams, ∀ t, ren y.1 y.2.1 y.2.2 (ren z.1 z.2.1 z.2.2 t) = t := by
  have neg2 : ∀ x : Int, - -x = x := Int.neg_neg
  simp only [nams, List.mem_cons, List.not_mem_nil, or_false] at h
  rcases h with rfl | rfl | rfl | rfl | rfl | rfl
  · exact ⟨(.a, .b, .c), by decide, fun ⟨x, y, z⟩ => by simp [ren, arr, go, nxt]⟩
  · exact ⟨(.a, .c, .b), by decide, fun ⟨x, y, z⟩ => by simp [ren, arr, go, nxt]⟩
  · exact ⟨(.b, .a, .c), by decide, fun ⟨x, y, z⟩ => by simp [ren, arr, go, nxt]⟩
  · exact ⟨(.c, .a, .b), by decide, fun ⟨x, y, z⟩ => by simp [ren, arr, go, nxt]⟩
  · exact ⟨(.b, .c, .a), by decide, fun ⟨x, y, z⟩ => by simp [ren, arr, go, nxt]⟩
  · exact ⟨(.c, .b, .a), by decide, fun ⟨x, y, z⟩ => by simp [ren, arr, go, nxt]⟩
theorem fit_back {t u : T3} (h : namFit t u = []) : namFit u t = [] := by
  unfold namFit at h ⊢
  rw [List.filter_eq_nil_iff] at h ⊢
  intro z hz c
  have c : Lnk t (ren z.1 z.2.1 z.2.2 u) := of_decide_eq_true c
  obtain ⟨y, hy, e⟩ := nam_back hz
  refine h y hy (decide_eq_true ?_)
  have l := ren_lnk (nams_ok hy) c
  rw [e] at l
  exact lnk_symm l
/-- what naming_between tells -/
noncomputable def fitV (t u : T3) : V := ((namFit t u).map namS).headD .non
def datV : V → PyData
  | .str z => .str z
  | _ => .none
theorem fit_cases (t u : T3) : (fitV t u = .non ∧ namFit t u = []) ∨ (∃ z ∈ nams, fitV t u = namS z) ∧ namFit t u ≠ [] := by
  unfold fitV
  cases e : namFit t u with
  | nil => (exact .inl ⟨rfl, rfl⟩)
  | cons z zs => exact .inr ⟨⟨z, (List.mem_filter.mp (show z ∈ namFit t u by rw [e]; exact List.mem_cons_self)).1, rfl⟩, List.cons_ne_nil _ _⟩
theorem fit_non (t u : T3) : decide (fitV t u = V.non) = decide (namFit t u = []) := by
  rcases fit_cases t u with ⟨h1, h2⟩ | ⟨⟨z, _, h1⟩, h2⟩
  · rw [h1, h2, decide_eq_true rfl, decide_eq_true rfl]
  · rw [h1, decide_eq_false h2, decide_eq_false (fun e => by unfold namS at e; cases e)]
theorem dp_fit {K : PySem.W.Frag} {H : Hp} (t u : T3) : Dp K H (fitV t u) (datV (fitV t u)) := by
  rcases fit_cases t u with ⟨h1, _⟩ | ⟨⟨z, _, h1⟩, _⟩
  · rw [h1]; exact .non
  · rw [h1]; exact .str _
theorem show1 : ∀ x ∈ V.non :: nams.map namS, (datV x).showable = true ∧ (datV x).hasDict = false ∧ (datV x).depth ≤ 20 ∧ (datV x).shown.length ≤ 1000 := by decide +kernel
theorem show2 : ∀ x ∈ V.non :: nams.map namS, (PyData.list [datV x, datV x]).showable = true ∧ (PyData.list [datV x, datV x]).hasDict = false ∧ (PyData.list [datV x, datV x]).depth ≤ 20 ∧ (PyData.list [datV x, datV x]).shown.length ≤ 1000 := by decide +kernel
theorem fit_mem (t u : T3) : fitV t u ∈ V.non :: nams.map namS := by
  rcases fit_cases t u with ⟨h1, _⟩ | ⟨⟨z, hz, h1⟩, _⟩
  · rw [h1]; exact List.mem_cons_self
  · rw [h1]; exact List.mem_cons_of_mem _ (List.mem_map.mpr ⟨z, hz, rfl⟩)
theorem fit_at (t u : T3) : atI ((namFit t u).map namS ++ [V.non]) 0 = some (fitV t u) := by
  unfold fitV
  cases (namFit t u).map namS with
  | nil => exact atI_nat (j := 0) rfl
  | cons x xs => exact atI_nat (j := 0) rfl
theorem fit_len (t u : T3) : ((namFit t u).map namS).length ≤ 6 := by
  rw [List.length_map]
  exact List.length_filter_le _ nams
theorem two_fit {K : PySem.W.Frag} {H : Hp} {l : Addr} (t u : T3) (h : H l = some (.lst [fitV t u, fitV t u])) : Dp K H (.ref l) (.list [datV (fitV t u), datV (fitV t u)]) :=
  .lst (SqL.of (xs := [fitV t u, fitV t u]) h) (.cons (dp_fit t u) (.cons (dp_fit t u) .nil))
theorem five_nam {x : V} (h : x ∈ ([.str "acb", .str "bac", .str "bca", .str "cab", .str "cba"] : List V)) : ∃ p q r, x = .str (wd [p, q, r]) ∧ Nam p q r := by
  simp only [List.mem_cons, List.not_mem_nil, or_false] at h
  rcases h with rfl | rfl | rfl | rfl | rfl
  · exact ⟨.a, .c, .b, rfl, by decide, by decide, by decide⟩
  · exact ⟨.b, .a, .c, rfl, by decide, by decide, by decide⟩
  · exact ⟨.b, .c, .a, rfl, by decide, by decide, by decide⟩
  · exact ⟨.c, .a, .b, rfl, by decide, by decide, by decide⟩
  · exact ⟨.c, .b, .a, rfl, by decide, by decide, by decide⟩
def shS : V → Str
  | .str z => reprText z
  | _ => "None"
theorem shS_fit (t u : T3) : (∃ z, fitV t u = V.str z ∧ (reprText z).length ≤ sizeLine ∧ shS (fitV t u) = reprText z) ∨ (fitV t u = .non ∧ shS (fitV t u) = "None") := by
  rcases fit_cases t u with ⟨h1, _⟩ | ⟨⟨z, hz, h1⟩, _⟩
  · rw [h1]; exact .inr ⟨rfl, rfl⟩
  · refine .inl ⟨wd [z.1, z.2.1, z.2.2], h1, ?_, by rw [h1]; rfl⟩
    have all : ∀ z ∈ nams, (reprText (wd [z.1, z.2.1, z.2.2])).length ≤ 1000 := by decide +kernel
    exact Nat.le_trans (all z hz) (Nat.le_of_ble_eq_true rfl)
theorem go_reprS {H : Hp} {Q : VK} (t u : T3) (q : Q (.str (shS (fitV t u))) H) : rReprS [fitV t u] H Q := by
  rcases shS_fit t u with ⟨z, h1, h2, h3⟩ | ⟨h1, h2⟩
  · exact ⟨_, rfl, .inl ⟨z, h1, h2, by rw [← h3]; exact q⟩⟩
  · exact ⟨_, rfl, .inr ⟨h1, by rw [← h2]; exact q⟩⟩
/-! ### two namings, one behind the other -/
def comp (z y : P3 × P3 × P3) : P3 × P3 × P3 := (nth3 z.1 z.2.1 z.2.2 y.1, nth3 z.1 z.2.1 z.2.2 y.2.1, nth3 z.1 z.2.1 z.2.2 y.2.2)
abbrev rn (z : P3 × P3 × P3) (t : T3) : T3 := ren z.1 z.2.1 z.2.2 t
theorem comp_all : ∀ z ∈ nams, ∀ y ∈ nams, comp z y ∈ nams := by decide
theorem rn_comp {z y : P3 × P3 × P3} (hz : z ∈ nams) (hy : y ∈ nams) (t : T3) : rn y (rn z t) = rn (comp z y) t := by
  obtain ⟨a, b, c⟩ := t
  simp only [nams, List.mem_cons, List.not_mem_nil, or_false] at hz hy
  rcases hz with rfl | rfl | rfl | rfl | rfl | rfl <;> rcases hy with rfl | rfl | rfl | rfl | rfl | rfl <;> simp [rn, comp, nth3, ren, arr, go, nxt]
theorem fit_mem_iff {t u : T3} {z : P3 × P3 × P3} : z ∈ namFit t u ↔ z ∈ nams ∧ Lnk u (rn z t) := by
  unfold namFit
  rw [List.mem_filter, decide_eq_true_eq]
theorem own_comp {t : T3} {z y : P3 × P3 × P3} (hz : z ∈ namFit t t) (hy : y ∈ namFit t t) : comp z y ∈ namFit t t := by
  obtain ⟨z1, z2⟩ := fit_mem_iff.mp hz
  obtain ⟨y1, y2⟩ := fit_mem_iff.mp hy
  refine fit_mem_iff.mpr ⟨comp_all z z1 y y1, ?_⟩
  rw [← rn_comp z1 y1]
  exact lnk_trans y2 (ren_lnk (nams_ok y1) z2)
theorem own_link {t u : T3} (l : Lnk t u) : namFit u u = namFit t t := by
  unfold namFit
  refine List.filter_congr fun z hz => ?_
  rw [decide_eq_decide]
  have r := ren_lnk (nams_ok hz) l
  exact ⟨fun h => lnk_trans (lnk_trans l h) (lnk_symm r), fun h => lnk_trans (lnk_trans (lnk_symm l) h) r⟩
theorem own_id (t : T3) : (P3.a, P3.b, P3.c) ∈ namFit t t := fit_mem_iff.mpr ⟨by decide, ⟨[], by obtain ⟨x, y, z⟩ := t; rfl⟩⟩
theorem own_head (t : T3) : fitV t t = .str (wd [.a, .b, .c]) := by
  have h := (fit_mem_iff.mp (own_id t)).2
  unfold fitV namFit
  have e : nams = (.a, .b, .c) :: nams.tail := rfl
  rw [e, List.filter_cons, if_pos (show decide (∃ w, At.walk t w = ren P3.a P3.b P3.c t) = true from decide_eq_true h)]
  rfl
theorem inv_all : ∀ y ∈ nams, ∃ x ∈ nams, comp y x = (.a, .b, .c) ∧ comp x y = (.a, .b, .c) ∧ ∀ z ∈ nams, comp (comp x (comp (comp y z) x)) y = z := by decide
theorem nams_nodup : nams.Nodup := by decide
theorem fit_nodup (t u : T3) : (namFit t u).Nodup := List.Nodup.sublist List.filter_sublist nams_nodup
theorem rn_id (t : T3) : rn (.a, .b, .c) t = t := by obtain ⟨x, y, z⟩ := t; rfl
theorem own_le {t : T3} {y : P3 × P3 × P3} (hy : y ∈ nams) : (namFit (rn y t) (rn y t)).length ≤ (namFit t t).length := by
  obtain ⟨x, hx, e1, e2, e3⟩ := inv_all y hy
  have inj : ((namFit (rn y t) (rn y t)).map fun z => comp (comp y z) x).Nodup := by
    rw [List.Nodup, List.pairwise_map]
    refine List.Pairwise.imp_of_mem (fun {z w} hz hw ne e => ne ?_) (fit_nodup _ _)
    have h1 := e3 z (fit_mem_iff.mp hz).1
    rw [e, e3 w (fit_mem_iff.mp hw).1] at h1
    exact h1.symm
  have sub := nodup_le (L := namFit t t) inj fun w hw => by
    obtain ⟨z, hz, rfl⟩ := List.mem_map.mp hw
    obtain ⟨z1, z2⟩ := fit_mem_iff.mp hz
    have c1 := comp_all y hy z z1
    refine fit_mem_iff.mpr ⟨comp_all _ c1 x hx, ?_⟩
    have l := ren_lnk (nams_ok hx) z2
    rw [show rn z (rn y t) = rn (comp y z) t from rn_comp hy z1 t] at l
    have l2 : Lnk (rn x (rn y t)) (rn x (rn (comp y z) t)) := l
    rw [rn_comp hy hx, e1, rn_id, rn_comp c1 hx] at l2
    exact l2
  rwa [List.length_map] at sub
theorem own_conj {t : T3} {y : P3 × P3 × P3} (hy : y ∈ nams) : (namFit (rn y t) (rn y t)).length = (namFit t t).length := by
  obtain ⟨x, hx, e1, _, _⟩ := inv_all y hy
  refine Nat.le_antisymm (own_le hy) ?_
  have h := own_le (t := rn y t) hx
  rwa [rn_comp hy hx, e1, rn_id] at h
/-! ### shown -/
def subs {α : Type} : List α → List (List α)
  | [] => [[]]
  | x :: xs => subs xs ++ (subs xs).map (x :: ·)
theorem filter_subs {α : Type} (p : α → Bool) : ∀ xs : List α, xs.filter p ∈ subs xs
  | [] => List.mem_singleton.mpr rfl
  | x :: xs => by
    rw [List.filter_cons]
    split
    · exact List.mem_append_right _ (List.mem_map.mpr ⟨_, filter_subs p xs, rfl⟩)
    · exact List.mem_append_left _ (filter_subs p xs)
def datN (zs : List (P3 × P3 × P3)) : PyData := .tuple (zs.map fun z => .str (wd [z.1, z.2.1, z.2.2]))
theorem show3 : ∀ zs ∈ subs nams, (PyData.list [datN zs, datN zs]).showable = true ∧ (PyData.list [datN zs, datN zs]).hasDict = false ∧ (PyData.list [datN zs, datN zs]).depth ≤ 20 ∧ (PyData.list [datN zs, datN zs]).shown.length ≤ 10000 := by decide +kernel
theorem dpN {K : PySem.W.Frag} {H : Hp} : ∀ zs : List (P3 × P3 × P3), DpAll K H (zs.map namS) (zs.map fun z => PyData.str (wd [z.1, z.2.1, z.2.2]))
  | [] => .nil
  | z :: zs => .cons (.str _) (dpN zs)
theorem dp_datN {K : PySem.W.Frag} {H : Hp} {r : Addr} {zs : List (P3 × P3 × P3)} (h : H r = some (.tup (zs.map namS))) : Dp K H (.ref r) (datN zs) := .tup (SqT.of h) (dpN zs)
theorem shapedN : ∀ zs ∈ subs nams, SeqAt.shaped (datN zs) = true := by decide +kernel
theorem eqvN : ∀ zs ∈ subs nams, PyData.eqv (datN zs) (datN zs) = true := by decide +kernel
theorem in_fit {y : P3 × P3 × P3} {zs : List (P3 × P3 × P3)} (h : y ∈ zs) : inV (namS y) (zs.map namS) = true :=
  List.any_eq_true.mpr ⟨namS y, List.mem_map.mpr ⟨y, h, rfl⟩, by simp [namS, eqV]⟩
theorem flat_fit (zs : List (P3 × P3 × P3)) : (zs.map namS).all flatV = true := by
  rw [List.all_eq_true]
  intro x hx
  obtain ⟨z, _, rfl⟩ := List.mem_map.mp hx
  rfl
theorem nam_mem {p q s : P3} (h : Nam p q s) : (p, q, s) ∈ nams := by
  obtain ⟨h1, h2, h3⟩ := h
  cases p <;> cases q <;> first | exact absurd rfl h1 | skip
  all_goals cases s <;> first | exact absurd rfl h2 | exact absurd rfl h3 | decide
theorem abc_nam : V.str ("abc" : Str) = namS (.a, .b, .c) := congrArg V.str (by decide +kernel)
end At

namespace At
open L2 PyProof.Rows PySem.Spec PySem
/-! ### layers, all of them -/
def words : Nat → List (List P3)
  | 0 => [[]]
  | n + 1 => [] :: ((words n).flatMap fun w => [w ++ [.a], w ++ [.b], w ++ [.c]])
theorem words_all : ∀ (n : Nat) (w : List P3), w.length ≤ n → w ∈ words n
  | 0, w, h => by
    rw [List.length_eq_zero_iff.mp (Nat.le_zero.mp h)]
    exact List.mem_singleton.mpr rfl
  | n + 1, w, h => by
    rcases List.eq_nil_or_concat w with z | ⟨v, p, z⟩
    · rw [z]; exact List.mem_cons_self ..
    · rw [List.concat_eq_append] at z
      subst z
      rw [List.length_append] at h
      have hv := words_all n v (Nat.le_of_succ_le_succ h)
      refine List.mem_cons_of_mem _ (List.mem_flatMap.mpr ⟨v, hv, ?_⟩)
      cases p <;> simp
theorem words5 : (words 5).length = 364 := by decide +kernel
/-- all that few turns lead to, with how many -/
structure LayE (t : T3) (n : Nat) (ms : List LM) : Prop where
  nd : (ms.map (fun m => m.1)).Nodup
  dist : ∀ m ∈ ms, Dist t m.1 m.2 ∧ m.2 ≤ n
  all : ∀ v k, Dist t v k → k ≤ n → v ∈ ms.map fun m => m.1
/-- the queue: the layers so far, the first i of them done -/
structure LQ (t : T3) (n i : Nat) (ms : List LM) : Prop where
  ok : ∀ m ∈ ms, m.2 ≤ n ∧ ∃ ps, walk t ps = m.1 ∧ ps.length = m.2
  asc : ms.Pairwise fun a b => a.2 ≤ b.2
  top : ∀ (m c : LM), m ∈ ms → ms[i]? = some c → m.2 ≤ c.2 + 1
  done : ∀ (k : Nat) (u : LM), k < i → ms[k]? = some u → u.2 < n → ∀ p, ∃ m ∈ ms, m.1 = turn p u.1 ∧ m.2 ≤ u.2 + 1
theorem LQ.few {t : T3} {i : Nat} {ms : List LM} (q : LQ t 5 i ms) (nd : (ms.map (fun m => m.1)).Nodup) : ms.length ≤ 364 := by
  have h := nodup_le (L := (words 5).map (walk t)) nd fun v hv => by
    obtain ⟨m, hm, rfl⟩ := List.mem_map.mp hv
    obtain ⟨h1, ps, h2, h3⟩ := q.ok m hm
    exact List.mem_map.mpr ⟨ps, words_all 5 ps (by omega), h2⟩
  rw [List.length_map, List.length_map, words5] at h
  exact h
theorem LQ.next {t : T3} {n i : Nat} {ms : List LM} (q : LQ t n i ms) (h : ∀ u, ms[i]? = some u → u.2 < n → ∀ p, ∃ m ∈ ms, m.1 = turn p u.1 ∧ m.2 ≤ u.2 + 1) : LQ t n (i + 1) ms where
  ok := q.ok
  asc := q.asc
  top m c hm hc := by
    have hi : i < ms.length := by have := (List.getElem?_eq_some_iff.mp hc).1; omega
    have h1 := q.top m ms[i] hm (List.getElem?_eq_getElem hi)
    obtain ⟨hi1, rfl⟩ := List.getElem?_eq_some_iff.mp hc
    have h2 := List.pairwise_iff_getElem.mp q.asc i (i + 1) hi hi1 (Nat.lt_succ_self _)
    omega
  done k u hk hu hn p := by
    by_cases c : k < i
    · exact q.done k u c hu hn p
    · have : k = i := by omega
      subst this
      exact h u hu hn p
/-- one more, from the one that is being done -/
theorem LQ.put {t : T3} {n i : Nat} {ms : List LM} {u : LM} {v : T3} {p : P3} (q : LQ t n i ms) (hu : ms[i]? = some u) (hn : u.2 < n) (ev : turn p u.1 = v) : LQ t n i (ms ++ [(v, u.2 + 1)]) where
  ok m hm := by
    rcases List.mem_append.mp hm with h | h
    · exact q.ok m h
    · rw [List.mem_singleton.mp h]
      obtain ⟨_, ps, h1, h2⟩ := q.ok u (List.mem_of_getElem? hu)
      refine ⟨hn, ps ++ [p], ?_, by rw [List.length_append, h2]; rfl⟩
      rw [walk_append, h1]
      exact ev
  asc := by
    rw [List.pairwise_append]
    refine ⟨q.asc, List.pairwise_singleton _ _, fun a ha b hb => ?_⟩
    rw [List.mem_singleton.mp hb]
    exact q.top a u ha hu
  top m c hm hc := by
    rw [List.getElem?_append_left (List.getElem?_eq_some_iff.mp hu).1, hu] at hc
    cases hc
    rcases List.mem_append.mp hm with h | h
    · exact q.top m u h hu
    · rw [List.mem_singleton.mp h]
      exact Nat.le_refl _
  done k w hk hw hwn r := by
    have hkl : k < ms.length := by have := (List.getElem?_eq_some_iff.mp hu).1; omega
    rw [List.getElem?_append_left hkl] at hw
    obtain ⟨m, h1, h2⟩ := q.done k w hk hw hwn r
    exact ⟨m, List.mem_append_left _ h1, h2⟩
theorem LQ.start (t : T3) (n : Nat) : LQ t n 0 [(t, 0)] where
  ok m hm := by rw [List.mem_singleton.mp hm]; exact ⟨Nat.zero_le _, [], rfl, rfl⟩
  asc := List.pairwise_singleton _ _
  top m c hm _ := by rw [List.mem_singleton.mp hm]; exact Nat.zero_le _
  done k u hk := absurd hk (Nat.not_lt_zero _)
theorem LQ.end_ {t : T3} {n i : Nat} {ms : List LM} (q : LQ t n i ms) (nd : (ms.map (fun m => m.1)).Nodup) (me : (t, 0) ∈ ms) (hi : ms.length ≤ i) : LayE t n ms := by
  have low : ∀ (k : Nat) (ps : List P3), ps.length = k → k ≤ n → ∃ m ∈ ms, m.1 = walk t ps ∧ m.2 ≤ k := by
    intro k
    induction k with
    | zero =>
      intro ps hl _
      rw [List.length_eq_zero_iff.mp hl]
      exact ⟨_, me, rfl, Nat.le_refl _⟩
    | succ k ih =>
      intro ps hl hk
      rcases List.eq_nil_or_concat ps with z | ⟨qs, p, z⟩
      · rw [z] at hl; cases hl
      · rw [List.concat_eq_append] at z
        subst z
        rw [List.length_append] at hl
        obtain ⟨m, h1, h2, h3⟩ := ih qs (Nat.succ.inj hl) (by omega)
        obtain ⟨j, hj⟩ := List.mem_iff_getElem?.mp h1
        have hjl := (List.getElem?_eq_some_iff.mp hj).1
        obtain ⟨m', g1, g2, g3⟩ := q.done j m (by omega) hj (by omega) p
        refine ⟨m', g1, ?_, by omega⟩
        rw [g2, h2, walk_append]
        rfl
  have one : ∀ (a b : LM), a ∈ ms → b ∈ ms → a.1 = b.1 → a = b := fun a b ha hb e => by
    (obtain ⟨j, hj⟩ := List.mem_iff_getElem?.mp ha)
    obtain ⟨k, hk⟩ := List.mem_iff_getElem?.mp hb
    obtain ⟨j1, rfl⟩ := List.getElem?_eq_some_iff.mp hj
    obtain ⟨k1, rfl⟩ := List.getElem?_eq_some_iff.mp hk
    have : j = k := by
      refine (List.getElem_inj (h₀ := by rw [List.length_map]; exact j1) (h₁ := by rw [List.length_map]; exact k1) nd).mp ?_
      rw [List.getElem_map, List.getElem_map]
      exact e
    subst this
    rfl
  refine ⟨nd, fun m hm => ?_, fun v k d hk => ?_⟩
  · obtain ⟨h1, ps, h2, h3⟩ := q.ok m hm
    refine ⟨⟨⟨ps, h2, h3⟩, fun qs hq => ?_⟩, h1⟩
    rcases Nat.lt_or_ge n qs.length with c | c
    · omega
    · obtain ⟨m', g1, g2, g3⟩ := low _ qs rfl c
      rw [hq] at g2
      rw [one m m' hm g1 g2.symm]
      exact g3
  · obtain ⟨⟨ps, h1, h2⟩, _⟩ := d
    obtain ⟨m, g1, g2, _⟩ := low k ps h2 hk
    exact List.mem_map.mpr ⟨m, g1, by rw [g2, h1]⟩
end At
namespace At
open L2 PyProof.Rows PySem.Spec PySem
structure LI5 (H0 H : Hp) (d l : Addr) (t : T3) (ms : List LM) : Prop where
  ex : Ext H0 H
  d0 : H0 d = none
  l0 : H0 l = none
  ne : l ≠ d
  at_ : H d = some (.dT (ms.map entN))
  tl : TL H l (ms.map fun m => m.1)
  nd : (ms.map (fun m => m.1)).Nodup
  hd : ms[0]? = some (t, 0)
theorem LI5.ext {H0 H H' : Hp} {d l : Addr} {t : T3} {ms : List LM} (b : LI5 H0 H d l t ms) (x : Ext H H') : LI5 H0 H' d l t ms :=
  ⟨b.ex.trans x, b.d0, b.l0, b.ne, x _ _ b.at_, b.tl.ext x, b.nd, b.hd⟩
theorem LI5.put {H0 H : Hp} {d l r : Addr} {t v : T3} {k : Nat} {ms : List LM} (b : LI5 H0 H d l t ms) (n : v ∉ ms.map fun m => m.1) (hr : H r = some (.tup (tv v))) :
    ∃ ys, upd H d (.dT ((ms ++ [(v, k)]).map entN)) l = some (.lst ys) ∧ ys.length = ms.length ∧ LI5 H0 (upd (upd H d (.dT ((ms ++ [(v, k)]).map entN))) l (.lst (ys ++ [.ref r]))) d l t (ms ++ [(v, k)]) := by
  have t1 := b.tl.past (o' := .dT ((ms ++ [(v, k)]).map entN)) b.at_ (fun _ z => by cases z) b.ne
  have hr1 : upd H d (.dT ((ms ++ [(v, k)]).map entN)) r = some (.tup (tv v)) := by
    rw [upd_ne (fun z => by rw [z, b.at_] at hr; cases hr)]
    exact hr
  obtain ⟨ys, h1, h2, h3⟩ := t1.push hr1
  refine ⟨ys, h1, by rw [h2, List.length_map], ?_⟩
  refine ⟨(b.ex.mut b.d0).mut b.l0, b.d0, b.l0, b.ne, by rw [upd_ne (Ne.symm b.ne)]; exact upd_same, ?_, ?_, ?_⟩
  · rw [show (ms ++ [(v, k)]).map (fun m => m.1) = ms.map (fun m => m.1) ++ [v] from List.map_append ..]
    exact h3
  · (rw [List.map_append, List.nodup_append])
    refine ⟨b.nd, by simp, fun x hx y hy => ?_⟩
    rw [List.mem_singleton.mp hy]
    exact fun z => n (by rw [← show x = v from z]; exact hx)
  · rw [List.getElem?_append_left (by have := (List.getElem?_eq_some_iff.mp b.hd).1; exact this)]
    exact b.hd
theorem bd4_le {k : Nat} (h : k ≤ 4) : bd k ≤ HUGE := by
  have a : bd 4 ≤ HUGE := by decide +kernel
  by_cases c : k ≤ 3
  · exact bdk_le c
  · rw [show k = 4 by omega]
    exact a
end At

namespace At
open L2 PyProof.Rows PySem.Spec PySem
section
variable {K : PySem.W.Frag} {c : Str} {H : Hp} {Q : VK} {a : Addr}
theorem go_isO {dx : Addr} {fs : List (Str × V)} (h : isOk K c = true) (cl : Cls K (He.ga K c)) (e : H a = some (.ins (He.ga K c) dx fs)) (q : Q (.bl true) H) : rIsi K [.ref a, .ref (He.ga K c)] H Q :=
  ⟨_, _, _, _, true, rfl, .own _, isOk.ty h cl e, same_kit _, q⟩
theorem go_isNo {xs : List V} (h : isOk K c = true) (e : H a = some (.tup xs)) (q : Q (.bl false) H) : rIsi K [.ref a, .ref (He.ga K c)] H Q := ⟨_, _, _, _, false, rfl, .own _, .base (.tup e), isOk.no h, q⟩
end
end At

namespace At
open L2 PyProof.Rows PySem.Spec PySem
/-! ### a def whose promise holds only where no repr is under way -/
def FnG (P : Program) (w : World) (K : PySem.W.Frag) (mg : Str → Option Value) (base : Heap) (k : Nat) (f : Addr) (sp : Sp) : Prop :=
  ∀ (A : Around) (outer : List Env) (s : Shared) (H : Hp) (us : List Value) (vs : List V) (Q : VK) (E : XK), A.guards = some [] → Room k A → Env0 P w K mg base A outer s H → Vals vs us → sp vs H Q E →
    codeAny (model P w) A (.call (.ref f) ⟨us, []⟩) (CR CX0 outer P w H s Q E) s
section
variable {P : Program} {w : World} {K : PySem.W.Frag} {mg : Str → Option Value} {base : Heap} {x q : Str} {st : Stmt} {f : Addr} {fd : FuncData} {N ps : List Str} {k : Nat} {sp : Sp}
theorem okG (F : Fun K x q st f fd) (S : FnScope N ps (defScope st)) (len : ∀ vs H Q E, sp vs H Q E → vs.length = ps.length)
    (binds : ∀ (kV doc pm : Value) (an : Option Addr) (cdv ct : Value) (us : List Value), us.length = ps.length → bindArgs (PySem.W.fnOf x q (defArgs st) (defBody st) (defScope st) .none kV doc pm an cdv ct) ⟨us, []⟩ = pure (ps.zip us))
    (body : ∀ (cdv : Value) (A : Around) (outer : List Env) (s : Shared) (H : Hp) (vs : List V) (Q : VK) (E : XK), A.guards = some [] → Room k (A.deeper (envOfC q (defScope st) s.heap.objs.size f cdv)) → sp vs H Q E →
      ∃ t, PSs (cxOf CX0 P w K mg base N q (defScope st) f cdv A outer s H E).nox (defBody st) t ∧ t { nx := fun _ H' => Q .non H', rt := Q } (start N vs) H) : FnG P w K mg base (k + 1) f sp := by
  intro A outer s H us vs Q E quiet room e0 rv hsp
  obtain ⟨_, _, kV, doc, pm, an, cdv, ct, _, rfl, lk, hcd⟩ := F.ex
  have many : vs.length = ps.length := len _ _ _ _ hsp
  have here : K.In s.heap := e0.mod.kin.keeps fun b o e => (e0.bs b o e).1
  have free : s.heap.NoLimit := e0.mod.nolimit.keeps fun b o e => (e0.bs b o e).1
  obtain ⟨t, ht, hq⟩ := body cdv A outer s H vs Q E quiet (room.deeper _) hsp
  refine codeAny_call_function room.depth (here _ _ lk) rfl S.co S.gen rfl (PySem.W.codeRec_of here hcd) ?_
  refine BindsTo.of_eq (binds kV doc pm an cdv ct us (rv.length.symm.trans many)) _ _ _ _ ?_
  refine wpAny_newFunctionEnv_cells S.kind (fun y hy => (S.par y.1 (List.of_mem_zip (a := y.1) (b := y.2) hy).1).imp id fun c => ⟨c, PySem.W.cellsFrom_some _ _ _ (.inl c)⟩) fun env he s1 made => ?_
  subst he
  refine ⟨free.keeps made.toInCall.keep, codeAny_func (wpAny_mono (ht.nox.run [] s1 _ H _ (inv_start S room.hd e0 many rv made) hq) (fun fl s' z => ?_) fun _ _ z => z)⟩
  match fl, z with
  | .ret _, ⟨v, _, H', J, r, q'⟩ => exact ⟨v, H', J.os, J.bare, J.base, J.hok, r, q'⟩
  | .next, ⟨_, H', J, q'⟩ => exact ⟨.non, H', J.os, J.bare, J.base, J.hok, rfl, q'⟩
  | .brk, ⟨_, _, _, q'⟩ => exact q'.elim
  | .cont, ⟨_, _, _, q'⟩ => exact q'.elim
end
/-- f(e, ..), f such a def -/
theorem pe_callG {X : Cx} {k : Nat} {f : Addr} {sp : Sp} {E : XK} {x : Str} {e : Expr} {es : List Expr} {t : TA} {p pos : Pos} (F : FnG X.prog X.w X.K X.mg X.base k f sp) (quiet : X.A.guards = some []) (hr : Room k X.A) (hg : Gl X x) (hm : X.mg x = some (.ref f)) (hk : PySem.W.keepIn X.K (.ref f) = true)
    (hx : Passes CX0 X E) (ha : PA X (e :: es) t) (hd : (x == ("__debug__" : Str)) = false := by decide) (he : starEach (e :: es) X.env = (false, eval e X.env) :: starEach es X.env := by rfl) (plain : (backTo pos (starEach es X.env)).any (·.1) = false := by rfl) :
    PE X (.Call (.Name x p) (e :: es) [] pos) fun σ H Q => t σ H fun ws H1 => sp ws H1 Q E := by
  constructor
  intro pins s σ H Q I h
  refine wpAny_Call_Name_kw (ld_glob I hg hm (PySem.W.callWith_K (h₀ := X.base) I.ok.mod.kin hk (thn (ha.run pos pins s σ H _ I h) fun us s1 z => ?_) he plain) hd)
  obtain ⟨vs, H1, I1, r, q⟩ := z
  refine ⟨I1.kIn, wpAny_call (codeAny_mono (F X.A X.stack s1 H1 us vs Q E quiet hr I1.env0 r q) fun z s' hz => ?_)⟩
  match z, hz with
  | .error e, hz => exact hx pins σ H1 s1 e s' I1 hz
  | .ok (.ret _), hz => exact I1.after hz
end At

local macro_rules | `(tactic| walk_at "mem") => `(tactic| first
  | assumption
  | exact L2.upd_same
  | (refine At.mem_new (by assumption) ?_; walk_at "mem")
  | (refine At.mem_ext (by assumption) ?_; walk_at "mem"))
local macro_rules | `(tactic| walk_at "side") => `(tactic| first
  | decide
  | omega
  | (dsimp only; omega)
  | exact Or.inl ⟨by omega, by omega⟩
  | exact Or.inr ⟨by omega, by omega⟩
  | exact ⟨by omega, by omega⟩)
local macro_rules | `(tactic| walk_at "go") => `(tactic| first
  | ((with_reducible refine' At.go_var ?hvar ?_); (case hvar => rfl))
  | with_reducible refine At.go_c ?_
  | with_reducible refine At.go_seq_set ?_
  | with_reducible refine At.go_seq_drop ?_
  | with_reducible refine At.go_seq_if ?_
  | with_reducible refine At.go_seq_asg ?_
  | with_reducible refine At.go_seq ?_
  | with_reducible refine At.go_set ?_
  | with_reducible refine At.go_asg ?_
  | with_reducible refine At.go_ret ?_
  | with_reducible refine At.go_retN ?_
  | with_reducible refine At.go_drop ?_
  | with_reducible refine At.go_ifS ?_
  | with_reducible refine At.go_op ?_
  | with_reducible refine At.go_un ?_
  | with_reducible refine At.go_rI0 ?_
  | with_reducible refine At.go_rU ?_
  | ((with_reducible refine' At.go_rI ?hside ?_); (case hside => walk_at "side"))
  | with_reducible refine At.go_rEqI ?_
  | with_reducible refine At.go_rNeI ?_
  | with_reducible refine At.go_rEqS ?_
  | with_reducible refine At.go_rNeS ?_
  | with_reducible refine At.go_bl ?_
  | with_reducible refine At.go_test ?_
  | with_reducible refine At.go_tB ?_
  | with_reducible refine At.go_and ?_
  | with_reducible refine At.go_or ?_
  | with_reducible refine At.go_not ?_
  | with_reducible refine At.go_andV ?_
  | with_reducible refine At.go_orV ?_
  | with_reducible refine At.go_notV ?_
  | with_reducible refine At.go_tIf ?_
  | with_reducible refine At.go_chain ?_
  | with_reducible refine At.go_cons ?_
  | with_reducible refine At.go_nil ?_
  | with_reducible refine At.go_cb ?_
  | with_reducible refine At.go_call ?_
  | with_reducible refine At.go_tup ?_
  | with_reducible refine At.go_lst ?_
  | with_reducible refine At.go_sl ?_
  | with_reducible refine At.go_noPart ?_
  | with_reducible refine At.go_part ?_
  | with_reducible refine At.go_prop ?_
  | with_reducible refine At.go_meth ?_
  | with_reducible refine At.go_dict1 ?_
  | with_reducible refine At.go_dput ?_
  | with_reducible refine At.go_dget ?_
  | with_reducible refine At.go_dnotin ?_
  | with_reducible refine At.go_din ?_
  | with_reducible refine At.go_tidx ?_
  | with_reducible refine At.go_makeR ?_
  | with_reducible refine At.go_makeK ?_
  | with_reducible refine At.go_makeS ?_
  | with_reducible refine At.go_star ?_
  | with_reducible refine At.go_make ?_
  | with_reducible refine At.go_sfld ?_
  | with_reducible refine At.go_fld ?_
  | with_reducible refine At.go_gName ?_
  | with_reducible refine At.go_gSub ?_
  | with_reducible refine At.go_gCons ?_
  | with_reducible refine At.go_gNil ?_
  | with_reducible refine At.go_par ?_
  | with_reducible refine At.go_par3 ?_
  | with_reducible refine At.go_two ?_
  | with_reducible refine At.go_three ?_
  | with_reducible refine At.go_for ?_
  | with_reducible refine At.go_iList ?_
  | with_reducible refine At.go_iTup ?_
  | with_reducible refine At.go_iStr ?_
  | with_reducible refine At.go_isS ?_
  | with_reducible refine At.go_iRng1 ?_
  | with_reducible refine At.go_iRng2 ?_
  | with_reducible refine At.go_iEnT ?_
  | with_reducible refine At.go_iteT ?_
  | with_reducible refine At.go_iteF ?_
  | with_reducible refine At.go_iteNT ?_
  | with_reducible refine At.go_iteNF ?_
  | with_reducible refine At.go_next ?_
  | with_reducible refine At.go_ipI ?_
  | with_reducible refine At.go_augS ?_
  | with_reducible refine At.go_revL ?_
  | with_reducible refine At.go_back ?_
  | with_reducible refine At.go_callN0 ?_
  | ((with_reducible refine' At.go_aug ?hvar ?_); (case hvar => rfl))
  | with_reducible refine ⟨_, rfl, ?_⟩
  | with_reducible refine ⟨_, _, rfl, ?_⟩
  | with_reducible refine ⟨_, _, rfl, rfl, ?_⟩
  | with_reducible refine ⟨Evl.sz_of (Nat.le_of_ble_eq_true rfl), ?_⟩)
local macro_rules | `(tactic| walk_at "gos") => `(tactic| repeat walk_at "go")
namespace At
open L2 PyProof.Rows PySem.Spec PySem
section
variable {base : Heap} {w : World} {K : PySem.W.Frag} {mg : Str → Option Value} {P : Program}
abbrev N__law_roll : List Str := ["_law_purse_here", "_law_sides", "_law_figure", "_law_seed"]
theorem sc__law_roll : FnScope N__law_roll ["_law_purse_here", "_law_sides"] (defScope s__law_roll) := ⟨rfl, rfl, rfl, by decide +kernel, rfl, by decide +kernel, by decide +kernel⟩
def sp__law_roll (K : PySem.W.Frag) : Sp := fun vs H Q _ => ∃ c top, vs = [.ref c, .int top] ∧ Purse H c ∧ 0 < top ∧ top ≤ MID ∧ ∀ i H', 0 ≤ i → i < top → ExtC c H H' → Purse H' c → Q (.int i) H'
theorem fn__law_roll (T : Top w K mg) {fd : FuncData} (F : Fun K "_law_roll" "_law_roll" s__law_roll (He.ga K "_law_roll") fd) : FnOk P w K mg base CX0 1 (He.ga K "_law_roll") fd ["_law_purse_here", "_law_sides"] (sp__law_roll K) := by
  refine F.ok sc__law_roll (fun vs H Q E h => ?hlen) (fun cdv A outer s H vs Q E hr h => ⟨_, (pss_cons (ps_asg (pe_op op_add (pe_ix ix_list (pv 0) pe_int (fun _ _ => rfl)) pe_int) (pg_sub (pv 0) pe_int set_list))
    (pss_cons (ps_if (pt_cmpR op_gt (pe_ix ix_list (pv 0) pe_int (fun _ _ => rfl)) pe_int (nomark _)) (pss_cons (ps_asg (pe_callB call_divmodW (by rfl) T.b_divmod (by decide +kernel) (pa_cons (pe_ix ix_list (pv 0) pe_int (fun _ _ => rfl)) (pa_cons (pv 1) pa_nil))) (pg_tup (by rfl) (pgs_cons (pg_sub (pv 0) pe_int set_list) (pgs_cons (pg_name (i := 2) sc__law_roll.nd rfl (Or.inl rfl)) pgs_nil))))
    (pss_one (ps_ret (pv 2)))) pss_nil)
    (pss_cons (ps_set (i := 3) sc__law_roll.nd rfl (Or.inl rfl) (pe_callTy call_int1 (by rfl) T.b_int (by decide +kernel) (pa_cons (pe_ix ix_list (pv 0) pe_int (fun _ _ => rfl)) pa_nil)))
    (pss_cons (ps_asg (pe_op op_modN (pe_callTy call_int1 (by rfl) T.b_int (by decide +kernel) (pa_cons (pe_op op_add (pe_op op_mulW (pv 3) (pe_op op_add (pv 3) pe_int)) (pe_op op_mul pe_int (pe_ix ix_list (pv 0) pe_int (fun _ _ => rfl)))) pa_nil)) pe_int) (pg_sub (pv 0) pe_int set_list))
    (pss_one (ps_ret (pe_op op_modN (pe_callTy call_int1 (by rfl) T.b_int (by decide +kernel) (pa_cons (pe_op op_fdivN (pe_ix ix_list (pv 0) pe_int (fun _ _ => rfl)) pe_int) pa_nil)) (pv 1)))))))), ?hrd⟩)
  case hlen =>
    obtain ⟨c, top, rfl, _⟩ := h
    rfl
  case hrd =>
    obtain ⟨c, top, rfl, ⟨d, x, n, hc, hd, hx0, hx1⟩, ht0, ht1, q⟩ := h
    walk_at "gos"
    refine go_rIxL (j := 2) (v := .int n) (SqL.of hc) (by rfl) ?_
    walk_at "gos"
    refine go_rSetL hc (by rfl) ?_
    generalize n + 1 = n
    have hc1 : upd H c (.lst [.int d, .int x, .int n]) c = some (.lst [.int d, .int x, .int n]) := upd_same
    walk_at "gos"
    refine go_rIxL (j := 0) (v := .int d) (SqL.of hc1) (by rfl) ?_
    walk_at "gos"
    refine go_ite (fun hd0 => ?_) (fun hd0 => ?_)
    · walk_at "gos"
      refine go_rIxL (j := 0) (v := .int d) (SqL.of hc1) (by rfl) ?_
      walk_at "gos"
      refine ⟨cdivp ht0 ht1, fun p np => ?_⟩
      refine go_gTup (SqT.of upd_same) rfl ?_
      walk_at "gos"
      refine go_rSetL (mem_new np hc1) (by rfl) ?_
      walk_at "gos"
      refine q _ _ (Int.emod_nonneg _ (by omega)) (Int.emod_lt_of_pos _ ht0) ((ExtC.set.trans (ExtC.new np)).trans ExtC.set) ⟨d / top, x, n, upd_same, Int.ediv_nonneg hd (by omega), hx0, hx1⟩
    · walk_at "gos"
      refine go_rIxL (j := 1) (v := .int x) (SqL.of hc1) (by rfl) ?_
      walk_at "gos"
      refine .inl ⟨_, rfl, ?_⟩
      walk_at "gos"
      have hm : CMulW x (x + 50021) := mul_ok (B := MID) (by decide +kernel) (by unfold nat; rw [if_neg (by omega)]; exact Int.le_trans (show x ≤ 2147483543 by omega) (by decide +kernel)) (by unfold nat; rw [if_neg (by omega)]; exact Int.le_trans (show x + 50021 ≤ 2147533564 by omega) (by decide +kernel))
      refine go_rI hm ?_
      walk_at "gos"
      refine go_rIxL (j := 2) (v := .int n) (SqL.of hc1) (by rfl) ?_
      walk_at "gos"
      refine .inl ⟨_, rfl, ?_⟩
      walk_at "gos"
      refine go_rSetL hc1 (by rfl) ?_
      obtain ⟨y0, y1⟩ := mixedP (x * (x + 50021) + 91229 * n)
      generalize (x * (x + 50021) + 91229 * n).fmod 2147483543 = y at y0 y1 ⊢
      rw [upd_upd]
      have hc2 : upd H c (.lst [.int d, .int y, .int n]) c = some (.lst [.int d, .int y, .int n]) := upd_same
      show tRet _ _ _ (upd H c (.lst [.int d, .int y, .int n]))
      walk_at "gos"
      refine go_rIxL (j := 1) (v := .int y) (SqL.of hc2) (by rfl) ?_
      walk_at "gos"
      refine .inl ⟨_, rfl, ?_⟩
      walk_at "gos"
      exact q _ _ (modI ht0).1 (modI ht0).2 ExtC.set ⟨d, y, n, upd_same, hd, y0, y1⟩
theorem ok__law_roll (T : Top w K mg) : OkD P w K mg base 1 (He.ga K "_law_roll") ["_law_purse_here", "_law_sides"] (sp__law_roll K) := by
  obtain ⟨fd, F⟩ := T.f__law_roll
  exact ⟨fd, fn__law_roll T F, F.binds (ps := ["_law_purse_here", "_law_sides"]) fun _ _ _ _ _ _ us hl => match us, hl with | [_, _], _ => rfl, F.kp⟩
end
end At

namespace At
open L2 PyProof.Rows PySem.Spec PySem
section
variable {base : Heap} {w : World} {K : PySem.W.Frag} {mg : Str → Option Value} {P : Program}
abbrev N__law_pick : List Str := ["_law_purse_here", "_law_some"]
theorem sc__law_pick : FnScope N__law_pick ["_law_purse_here", "_law_some"] (defScope s__law_pick) := ⟨rfl, rfl, rfl, by decide +kernel, rfl, by decide +kernel, by decide +kernel⟩
def sp__law_pick (K : PySem.W.Frag) : Sp := fun vs H Q _ => ∃ c l xs, vs = [.ref c, .ref l] ∧ Purse H c ∧ H l = some (.lst xs) ∧ l ≠ c ∧ 0 < xs.length ∧ xs.length ≤ 60000 ∧ ∀ x H', x ∈ xs → ExtC c H H' → Purse H' c → Q x H'
theorem fn__law_pick (T : Top w K mg) {fd : FuncData} (F : Fun K "_law_pick" "_law_pick" s__law_pick (He.ga K "_law_pick") fd) : FnOk P w K mg base CX0 2 (He.ga K "_law_pick") fd ["_law_purse_here", "_law_some"] (sp__law_pick K) := by
  obtain ⟨fd__law_roll, G__law_roll, b__law_roll, k__law_roll⟩ := ok__law_roll (P := P) (w := w) (base := base) T
  refine F.ok sc__law_pick (fun vs H Q E h => ?hlen) (fun cdv A outer s H vs Q E hr h => ⟨_, (pss_one (ps_ret (pe_ix ix_list (pv 1) (pe_call G__law_roll (hr.mono (by decide)) (by rfl) T.g__law_roll k__law_roll b__law_roll .nil pass0 (pa_cons (pv 0) (pa_cons (pe_callB call_len_seq (by rfl) T.b_len PySem.boot_len (pa_cons (pv 1) pa_nil)) pa_nil))) (fun _ _ => rfl)))), ?hrd⟩)
  case hlen =>
    obtain ⟨c, l, xs, rfl, _⟩ := h
    rfl
  case hrd =>
    obtain ⟨c, l, xs, rfl, hc, hl, hlc, h0, h1, q⟩ := h
    walk_at "gos"
    refine ⟨_, _, rfl, .inl (SqL.of hl), ?_⟩
    walk_at "gos"
    refine ⟨c, _, rfl, hc, by omega, Int.le_trans (show (xs.length : Int) ≤ 60000 by omega) (by decide +kernel), fun i H' i0 i1 e hc' => ?_⟩
    obtain ⟨n, rfl⟩ : ∃ n : Nat, i = (n : Int) := ⟨i.toNat, by omega⟩
    have hn : n < xs.length := by omega
    refine go_rIxL (v := xs[n]) (SqL.of (e _ _ hlc hl)) (atI_nat (j := n) (List.getElem?_eq_getElem hn)) ?_
    exact q _ H' (List.getElem_mem hn) e hc'
theorem ok__law_pick (T : Top w K mg) : OkD P w K mg base 2 (He.ga K "_law_pick") ["_law_purse_here", "_law_some"] (sp__law_pick K) := by
  obtain ⟨fd, F⟩ := T.f__law_pick
  exact ⟨fd, fn__law_pick T F, F.binds (ps := ["_law_purse_here", "_law_some"]) fun _ _ _ _ _ _ us hl => match us, hl with | [_, _], _ => rfl, F.kp⟩
end
end At

namespace At
open L2 PyProof.Rows PySem.Spec PySem
section
variable {base : Heap} {w : World} {K : PySem.W.Frag} {mg : Str → Option Value} {P : Program}
abbrev N__law_pushed : List Str := ["_law_come", "_law_go", "_law_third"]
theorem sc__law_pushed : FnScope N__law_pushed ["_law_come", "_law_go", "_law_third"] (defScope s__law_pushed) := ⟨rfl, rfl, rfl, by decide +kernel, rfl, by decide +kernel, by decide +kernel⟩
def sp__law_pushed (K : PySem.W.Frag) : Sp := fun vs H Q _ => ∃ x y z : Int, vs = [.int x, .int y, .int z] ∧ nat x ≤ HUGE ∧ nat y ≤ HUGE ∧ Q (.int (push x y z)) H
theorem fn__law_pushed (T : Top w K mg) {fd : FuncData} (F : Fun K "_law_pushed" "_law_pushed" s__law_pushed (He.ga K "_law_pushed") fd) : FnOk P w K mg base CX0 1 (He.ga K "_law_pushed") fd ["_law_come", "_law_go", "_law_third"] (sp__law_pushed K) := by
  refine F.ok sc__law_pushed (fun vs H Q E h => ?hlen) (fun cdv A outer s H vs Q E hr h => ⟨_, (pss_cons (ps_if (PW.pt (pw_and (pt_cmpR op_gt (pv 0) pe_int (nomark _)) (pw_and1 (pt_cmpR op_gt (pv 1) pe_int (nomark _))))) (pss_one (ps_ret (pe_op op_sub (pv 2) (pe_op op_mulW (pv 0) (pv 1))))) pss_nil)
    (pss_one (ps_ret (pe_ifExp (PW.pt (pw_and (pt_cmpR op_lt (pv 0) pe_int (nomark _)) (pw_and1 (pt_cmpR op_lt (pv 1) pe_int (nomark _))))) (pe_op op_add (pv 2) (pe_op op_mulW (pv 0) (pv 1))) (pv 2))))), ?hrd⟩)
  case hlen =>
    obtain ⟨x, y, z, rfl, _⟩ := h
    rfl
  case hrd =>
    obtain ⟨x, y, z, rfl, hx, hy, q⟩ := h
    have hm : CMulW x y := mul_ok (Int.le_refl _) hx hy
    walk_at "gos"
    refine go_ite (fun h1 => ?_) (fun h1 => ?_)
    · walk_at "gos"
      refine go_ite (fun h2 => ?_) (fun h2 => ?_)
      · walk_at "gos"
        rw [push_pos h1 h2] at q
        exact q
      · walk_at "gos"
        refine go_ite (fun h3 => absurd h1 (by omega)) (fun h3 => ?_)
        walk_at "gos"
        unfold push at q
        rw [if_neg (by omega), if_neg (by omega)] at q
        exact q
    · walk_at "gos"
      refine go_ite (fun h3 => ?_) (fun h3 => ?_)
      · walk_at "gos"
        refine go_ite (fun h4 => ?_) (fun h4 => ?_)
        · walk_at "gos"
          rw [push_neg h3 h4] at q
          exact q
        · walk_at "gos"
          unfold push at q
          rw [if_neg (by omega), if_neg (by omega)] at q
          exact q
      · walk_at "gos"
        unfold push at q
        rw [if_neg (by omega), if_neg (by omega)] at q
        exact q
theorem ok__law_pushed (T : Top w K mg) : OkD P w K mg base 1 (He.ga K "_law_pushed") ["_law_come", "_law_go", "_law_third"] (sp__law_pushed K) := by
  obtain ⟨fd, F⟩ := T.f__law_pushed
  exact ⟨fd, fn__law_pushed T F, F.binds (ps := ["_law_come", "_law_go", "_law_third"]) fun _ _ _ _ _ _ us hl => match us, hl with | [_, _, _], _ => rfl, F.kp⟩
end
end At

namespace At
open L2 PyProof.Rows PySem.Spec PySem
section
variable {base : Heap} {w : World} {K : PySem.W.Frag} {mg : Str → Option Value} {P : Program}
abbrev N__law_turn : List Str := ["_law_trio_here", "_law_spot", "_law_p", "_law_q", "_law_r"]
theorem sc__law_turn : FnScope N__law_turn ["_law_trio_here", "_law_spot"] (defScope s__law_turn) := ⟨rfl, rfl, rfl, by decide +kernel, rfl, by decide +kernel, by decide +kernel⟩
def sp__law_turn (K : PySem.W.Frag) : Sp := fun vs H Q _ => ∃ a t p, vs = [.ref a, .int (P3.i p)] ∧ H a = some (.tup (tv t)) ∧ big t ≤ HUGE ∧ ∀ b H', H b = none → Ext H H' → H' b = some (.tup (tv (turn p t))) → Q (.ref b) H'
theorem fn__law_turn (T : Top w K mg) {fd : FuncData} (F : Fun K "_law_turn" "_law_turn" s__law_turn (He.ga K "_law_turn") fd) : FnOk P w K mg base CX0 2 (He.ga K "_law_turn") fd ["_law_trio_here", "_law_spot"] (sp__law_turn K) := by
  obtain ⟨fd__law_pushed, G__law_pushed, b__law_pushed, k__law_pushed⟩ := ok__law_pushed (P := P) (w := w) (base := base) T
  refine F.ok sc__law_turn (fun vs H Q E h => ?hlen) (fun cdv A outer s H vs Q E hr h => ⟨_, (pss_cons (ps_asg (pv 0) (pg_tup (by rfl) (pgs_cons (pg_name (i := 2) sc__law_turn.nd rfl (Or.inl rfl)) (pgs_cons (pg_name (i := 3) sc__law_turn.nd rfl (Or.inl rfl)) (pgs_cons (pg_name (i := 4) sc__law_turn.nd rfl (Or.inl rfl)) pgs_nil)))))
    (pss_cons (ps_if (pt_cmpR op_eq (pv 1) pe_int (nomark _)) (pss_one (ps_ret (pe_tup (pa_cons (pe_un un_neg (pv 2)) (pa_cons (pe_call G__law_pushed (hr.mono (by decide)) (by rfl) T.g__law_pushed k__law_pushed b__law_pushed .nil pass0 (pa_cons (pv 4) (pa_cons (pv 2) (pa_cons (pv 3) pa_nil)))) (pa_cons (pe_un un_neg (pv 4)) pa_nil)))))) pss_nil)
    (pss_cons (ps_if (pt_cmpR op_eq (pv 1) pe_int (nomark _)) (pss_one (ps_ret (pe_tup (pa_cons (pe_un un_neg (pv 2)) (pa_cons (pe_un un_neg (pv 3)) (pa_cons (pe_call G__law_pushed (hr.mono (by decide)) (by rfl) T.g__law_pushed k__law_pushed b__law_pushed .nil pass0 (pa_cons (pv 2) (pa_cons (pv 3) (pa_cons (pv 4) pa_nil)))) pa_nil)))))) pss_nil)
    (pss_one (ps_ret (pe_tup (pa_cons (pe_call G__law_pushed (hr.mono (by decide)) (by rfl) T.g__law_pushed k__law_pushed b__law_pushed .nil pass0 (pa_cons (pv 3) (pa_cons (pv 4) (pa_cons (pv 2) pa_nil)))) (pa_cons (pe_un un_neg (pv 3)) (pa_cons (pe_un un_neg (pv 4)) pa_nil))))))))), ?hrd⟩)
  case hlen =>
    obtain ⟨a, t, p, rfl, _⟩ := h
    rfl
  case hrd =>
    obtain ⟨a, ⟨x, y, z⟩, p, rfl, ha, hb, q⟩ := h
    obtain ⟨b1, b2, b3⟩ := big_le.mp hb
    have ha' : H a = some (.tup [.int x, .int y, .int z]) := ha
    walk_at "gos"
    refine go_gTup (SqT.of ha') rfl ?_
    walk_at "gos"
    cases p with
    | a =>
      refine go_ite (fun _ => ?_) (fun z => absurd rfl z)
      walk_at "gos"
      refine ⟨_, _, _, rfl, b3, b1, ?_⟩
      walk_at "gos"
      intro b nb
      exact q b _ nb (Evl.Ex.new nb) upd_same
    | b =>
      refine go_ite (fun z => absurd z (by decide)) (fun _ => ?_)
      walk_at "gos"
      refine go_ite (fun _ => ?_) (fun z => absurd rfl z)
      walk_at "gos"
      refine ⟨_, _, _, rfl, b1, b2, ?_⟩
      walk_at "gos"
      intro b nb
      exact q b _ nb (Evl.Ex.new nb) upd_same
    | c =>
      refine go_ite (fun z => absurd z (by decide)) (fun _ => ?_)
      walk_at "gos"
      refine go_ite (fun z => absurd z (by decide)) (fun _ => ?_)
      walk_at "gos"
      refine ⟨_, _, _, rfl, b2, b3, ?_⟩
      walk_at "gos"
      intro b nb
      exact q b _ nb (Evl.Ex.new nb) upd_same
theorem ok__law_turn (T : Top w K mg) : OkD P w K mg base 2 (He.ga K "_law_turn") ["_law_trio_here", "_law_spot"] (sp__law_turn K) := by
  obtain ⟨fd, F⟩ := T.f__law_turn
  exact ⟨fd, fn__law_turn T F, F.binds (ps := ["_law_trio_here", "_law_spot"]) fun _ _ _ _ _ _ us hl => match us, hl with | [_, _], _ => rfl, F.kp⟩
end
end At

namespace At
open L2 PyProof.Rows PySem.Spec PySem
section
variable {base : Heap} {w : World} {K : PySem.W.Frag} {mg : Str → Option Value} {P : Program}
abbrev N__law_led : List Str := ["_law_purse_here", "_law_trio_here", "_law_most_here", "_law_top", "_law_k", "_law_fresh", "_law_part"]
theorem sc__law_led : FnScope N__law_led ["_law_purse_here", "_law_trio_here", "_law_most_here", "_law_top"] (defScope s__law_led) := ⟨rfl, rfl, rfl, by decide +kernel, rfl, by decide +kernel, by decide +kernel⟩
def sp__law_led (K : PySem.W.Frag) : Sp := fun vs H Q _ => ∃ c a t m tp, vs = [.ref c, .ref a, .int m, .int tp] ∧ Purse H c ∧ H a = some (.tup (tv t)) ∧ big t ≤ tp ∧ 40 ≤ tp ∧ tp ≤ 60 ∧ 0 ≤ m ∧ m ≤ 4 ∧ ∀ b u H', big u ≤ tp → Lnk t u → ExtC c H H' → Purse H' c → H' b = some (.tup (tv u)) → Q (.ref b) H'
theorem fn__law_led (T : Top w K mg) {fd : FuncData} (F : Fun K "_law_led" "_law_led" s__law_led (He.ga K "_law_led") fd) : FnOk P w K mg base CX0 3 (He.ga K "_law_led") fd ["_law_purse_here", "_law_trio_here", "_law_most_here", "_law_top"] (sp__law_led K) := by
  obtain ⟨fd__law_roll, G__law_roll, b__law_roll, k__law_roll⟩ := ok__law_roll (P := P) (w := w) (base := base) T
  obtain ⟨fd__law_turn, G__law_turn, b__law_turn, k__law_turn⟩ := ok__law_turn (P := P) (w := w) (base := base) T
  refine F.ok sc__law_led (fun vs H Q E h => ?hlen) (fun cdv A outer s H vs Q E hr h => ⟨_, (pss_cons (ps_for PassesOwn.never rfl (pi_range1 (by rfl) T.b_range (pa_cons (pe_call G__law_roll (hr.mono (by decide)) (by rfl) T.g__law_roll k__law_roll b__law_roll .nil pass0 (pa_cons (pv 0) (pa_cons (pe_op op_add (pv 2) pe_int) pa_nil))) pa_nil)) (pg_name (i := 4) sc__law_led.nd rfl (Or.inl rfl)) (pss_cons (ps_set (i := 5) sc__law_led.nd rfl (Or.inl rfl) (pe_call G__law_turn (hr.mono (by decide)) (by rfl) T.g__law_turn k__law_turn b__law_turn .nil pass0 (pa_cons (pv 1) (pa_cons (pe_call G__law_roll (hr.mono (by decide)) (by rfl) T.g__law_roll k__law_roll b__law_roll .nil pass0 (pa_cons (pv 0) (pa_cons pe_int pa_nil))) pa_nil))))
    (pss_one (ps_set (i := 1) sc__law_led.nd rfl (Or.inl rfl) (pe_ifExp (pt_cmpR op_le (pe_callB (cr_max rfl) (by rfl) T.b_max (by decide +kernel) (pa_cons (pe_lc (own := [("_law_part", 6)]) (g := gName 6) (tt := tYes) (by rfl) sc__law_led.nd (pi_tup (pv 5)) (blkOk_by (own := [("_law_part", 6)]) (N := N__law_led) (sc := defScope s__law_led) (by decide +kernel)) (fun _ _ _ _ _ => pg_name (i := 6) sc__law_led.nd rfl (by first | exact Or.inl rfl | exact Or.inr rfl)) (fun _ _ _ _ _ => pts_nil) (fun _ _ _ _ _ => (pe_callB call_abs (by rfl) T.b_abs (by decide +kernel) (pa_cons (pv 6) pa_nil)))) pa_nil)) (pv 3) (nomark _)) (pv 5) (pv 1))))))
    (pss_one (ps_ret (pv 1)))), ?hrd⟩)
  case hlen =>
    obtain ⟨c, a, t, m, tp, rfl, _⟩ := h
    rfl
  case hrd =>
    obtain ⟨c, a, t, m, tp, rfl, hc, ha, hb, tp0, tp1, m0, m1, q⟩ := h
    have h40 : tp ≤ HUGE := Int.le_trans tp1 (by decide +kernel)
    walk_at "gos"
    refine ⟨c, m + 1, rfl, hc, by omega, Int.le_trans (show m + 1 ≤ 5 by omega) (by decide +kernel), fun k H1 k0 k1 e1 hc1 => ?_⟩
    walk_at "gos"
    (refine ⟨by omega, by omega, ?_⟩)
    refine loop_range (fun i σ' H' => ∃ b u y4 y5 y6, σ' = [some (.ref c), some (.ref b), some (.int m), some (.int tp), y4, y5, y6] ∧ big u ≤ tp ∧ Lnk t u ∧ ExtC c H H' ∧ Purse H' c ∧ H' b = some (.tup (tv u))) ⟨a, t, _, _, _, rfl, hb, ⟨[], rfl⟩, e1, hc1, e1.tupP hc ha⟩ ?_ ?_
    · rintro i σ' H' hi ⟨b, u, y4, y5, y6, rfl, bu, lk, e, hc2, hu⟩
      walk_at "gos"
      refine ⟨c, 3, rfl, hc2, by decide, by decide +kernel, fun s H2 s0 s1 e2 hc3 => ?_⟩
      obtain ⟨p, hp⟩ := p3_of (j := s.toNat) (by omega)
      have hu2 := e2.tupP hc2 hu
      walk_at "gos"
      refine ⟨b, u, p, by rw [hp, Int.toNat_of_nonneg s0], hu2, Int.le_trans bu h40, fun f H3 _ e3 hf => ?_⟩
      have hu3 := e3 _ _ hu2
      have hc4 := hc3.ext e3
      have x3 := (e.trans e2).trans (ExtC.of e3)
      obtain ⟨⟨x, y, z⟩, hv⟩ : ∃ v, turn p u = v := ⟨_, rfl⟩
      rw [hv] at hf
      walk_at "gos"
      refine go_lc ?_
      walk_at "gos"
      refine ⟨⟨tv (x, y, z), SqT.of hf⟩, lc_tupP hf (Nat.le_of_ble_eq_true rfl) natV (fun D nD v H' hv2 e QE hq => ?_) fun D nD H4 e4 hD => ?_⟩
      · obtain ⟨i, rfl⟩ : ∃ i, v = .int i := by
          simp only [tv, List.mem_cons, List.not_mem_nil, or_false] at hv2
          rcases hv2 with rfl | rfl | rfl <;> exact ⟨_, rfl⟩
        walk_at "gos"
        refine ⟨rfl, ?_⟩
        walk_at "gos"
        exact hq H' (Evl.Ex.refl _)
      walk_at "gos"
      refine ⟨D, [nat x, nat y, nat z], rfl, SqL.of hD, Nat.succ_pos _, fun mx hmx hall => ?_⟩
      rw [abs_max hmx hall]
      walk_at "gos"
      have x4 := x3.trans (ExtC.of e4)
      have hc5 := hc4.ext e4
      by_cases c1 : big (x, y, z) ≤ tp
      · rw [decide_eq_true c1]
        walk_at "gos"
        exact ⟨f, (x, y, z), _, _, _, rfl, c1, lnk_trans lk ⟨[p], hv⟩, x4, hc5, e4 _ _ hf⟩
      · rw [decide_eq_false c1]
        walk_at "gos"
        exact ⟨b, u, _, _, _, rfl, bu, lk, x4, hc5, e4 _ _ hu3⟩
    · rintro σ' H' ⟨b, u, y4, y5, y6, rfl, bu, lk, e, hc2, hu⟩
      walk_at "gos"
      exact q b u H' bu lk e hc2 hu
theorem ok__law_led (T : Top w K mg) : OkD P w K mg base 3 (He.ga K "_law_led") ["_law_purse_here", "_law_trio_here", "_law_most_here", "_law_top"] (sp__law_led K) := by
  obtain ⟨fd, F⟩ := T.f__law_led
  exact ⟨fd, fn__law_led T F, F.binds (ps := ["_law_purse_here", "_law_trio_here", "_law_most_here", "_law_top"]) fun _ _ _ _ _ _ us hl => match us, hl with | [_, _, _, _], _ => rfl, F.kp⟩
end
end At

namespace At
open L2 PyProof.Rows PySem.Spec PySem
section
variable {base : Heap} {w : World} {K : PySem.W.Frag} {mg : Str → Option Value} {P : Program}
abbrev N__law_trio : List Str := ["_law_purse_here", "_law_some", "_law_trio_here", "_law_turn_here", "_law_part"]
theorem sc__law_trio : FnScope N__law_trio ["_law_purse_here"] (defScope s__law_trio) := ⟨rfl, rfl, rfl, by decide +kernel, rfl, by decide +kernel, by decide +kernel⟩
def sp__law_trio (K : PySem.W.Frag) : Sp := fun vs H Q _ => ∃ c, vs = [.ref c] ∧ Purse H c ∧ ∀ b u H', big u ≤ 40 → ExtC c H H' → Purse H' c → H' b = some (.tup (tv u)) → Q (.ref b) H'
def negV : V → V
  | .int i => .int (-i)
  | v => v
theorem fn__law_trio (T : Top w K mg) {fd : FuncData} (F : Fun K "_law_trio" "_law_trio" s__law_trio (He.ga K "_law_trio") fd) : FnOk P w K mg base CX0 4 (He.ga K "_law_trio") fd ["_law_purse_here"] (sp__law_trio K) := by
  obtain ⟨fd__law_pick, G__law_pick, b__law_pick, k__law_pick⟩ := ok__law_pick (P := P) (w := w) (base := base) T
  obtain ⟨fd__law_roll, G__law_roll, b__law_roll, k__law_roll⟩ := ok__law_roll (P := P) (w := w) (base := base) T
  obtain ⟨fd__law_led, G__law_led, b__law_led, k__law_led⟩ := ok__law_led (P := P) (w := w) (base := base) T
  refine F.ok sc__law_trio (fun vs H Q E h => ?hlen) (fun cdv A outer s H vs Q E hr h => ⟨_, (pss_cons (ps_set (i := 1) sc__law_trio.nd rfl (Or.inl rfl) (pe_lst (pa_cons (pe_tup (pa_cons pe_int (pa_cons pe_int (pa_cons pe_int pa_nil)))) (pa_cons (pe_tup (pa_cons pe_int (pa_cons pe_int (pa_cons pe_int pa_nil)))) (pa_cons (pe_tup (pa_cons pe_int (pa_cons pe_int (pa_cons pe_int pa_nil)))) (pa_cons (pe_tup (pa_cons pe_int (pa_cons pe_int (pa_cons pe_int pa_nil)))) (pa_cons (pe_tup (pa_cons pe_int (pa_cons pe_int (pa_cons pe_int pa_nil)))) (pa_cons (pe_tup (pa_cons pe_int (pa_cons pe_int (pa_cons pe_int pa_nil)))) (pa_cons (pe_tup (pa_cons pe_int (pa_cons pe_int (pa_cons (pe_un un_neg pe_int) pa_nil)))) (pa_cons (pe_tup (pa_cons pe_int (pa_cons pe_int (pa_cons pe_int pa_nil)))) (pa_cons (pe_tup (pa_cons pe_int (pa_cons (pe_un un_neg pe_int) (pa_cons pe_int pa_nil)))) (pa_cons (pe_tup (pa_cons pe_int (pa_cons pe_int (pa_cons pe_int pa_nil)))) pa_nil))))))))))))
    (pss_cons (ps_set (i := 1) sc__law_trio.nd rfl (Or.inl rfl) (pe_op op_cat (pv 1) (pe_lst (pa_cons (pe_tup (pa_cons pe_int (pa_cons pe_int (pa_cons pe_int pa_nil)))) (pa_cons (pe_tup (pa_cons pe_int (pa_cons pe_int (pa_cons pe_int pa_nil)))) (pa_cons (pe_tup (pa_cons pe_int (pa_cons pe_int (pa_cons (pe_un un_neg pe_int) pa_nil)))) (pa_cons (pe_tup (pa_cons pe_int (pa_cons pe_int (pa_cons pe_int pa_nil)))) (pa_cons (pe_tup (pa_cons pe_int (pa_cons pe_int (pa_cons pe_int pa_nil)))) (pa_cons (pe_tup (pa_cons pe_int (pa_cons (pe_un un_neg pe_int) (pa_cons pe_int pa_nil)))) (pa_cons (pe_tup (pa_cons pe_int (pa_cons pe_int (pa_cons pe_int pa_nil)))) (pa_cons (pe_tup (pa_cons pe_int (pa_cons pe_int (pa_cons pe_int pa_nil)))) (pa_cons (pe_tup (pa_cons pe_int (pa_cons pe_int (pa_cons pe_int pa_nil)))) pa_nil))))))))))))
    (pss_cons (ps_set (i := 2) sc__law_trio.nd rfl (Or.inl rfl) (pe_call G__law_pick (hr.mono (by decide)) (by rfl) T.g__law_pick k__law_pick b__law_pick .nil pass0 (pa_cons (pv 0) (pa_cons (pv 1) pa_nil))))
    (Evl.pss_cut (ps_if (pt_cmpR op_eq (pe_call G__law_roll (hr.mono (by decide)) (by rfl) T.g__law_roll k__law_roll b__law_roll .nil pass0 (pa_cons (pv 0) (pa_cons pe_int pa_nil))) pe_int (nomark _)) (pss_one (ps_set (i := 2) sc__law_trio.nd rfl (Or.inl rfl) (pe_tup (pa_cons (pe_op op_sub (pe_call G__law_roll (hr.mono (by decide)) (by rfl) T.g__law_roll k__law_roll b__law_roll .nil pass0 (pa_cons (pv 0) (pa_cons pe_int pa_nil))) pe_int) (pa_cons (pe_op op_sub (pe_call G__law_roll (hr.mono (by decide)) (by rfl) T.g__law_roll k__law_roll b__law_roll .nil pass0 (pa_cons (pv 0) (pa_cons pe_int pa_nil))) pe_int) (pa_cons (pe_op op_sub (pe_call G__law_roll (hr.mono (by decide)) (by rfl) T.g__law_roll k__law_roll b__law_roll .nil pass0 (pa_cons (pv 0) (pa_cons pe_int pa_nil))) pe_int) pa_nil)))))) pss_nil)
    (Evl.pss_cut (ps_set (i := 2) sc__law_trio.nd rfl (Or.inl rfl) (pe_ifExp (pt_cmpR op_eq (pe_call G__law_roll (hr.mono (by decide)) (by rfl) T.g__law_roll k__law_roll b__law_roll .nil pass0 (pa_cons (pv 0) (pa_cons pe_int pa_nil))) pe_int (nomark _)) (pe_callTy call_tuple_of (by rfl) T.b_tuple (by decide +kernel) (pa_cons (pe_lc (own := [("_law_part", 4)]) (g := gName 4) (tt := tYes) (by rfl) sc__law_trio.nd (pi_tup (pv 2)) (blkOk_by (own := [("_law_part", 4)]) (N := N__law_trio) (sc := defScope s__law_trio) (by decide +kernel)) (fun _ _ _ _ _ => pg_name (i := 4) sc__law_trio.nd rfl (by first | exact Or.inl rfl | exact Or.inr rfl)) (fun _ _ _ _ _ => pts_nil) (fun _ _ _ _ _ => (pe_un un_neg (pv 4)))) pa_nil)) (pv 2)))
    (pss_cons (ps_set (i := 3) sc__law_trio.nd rfl (Or.inl rfl) (pe_call G__law_roll (hr.mono (by decide)) (by rfl) T.g__law_roll k__law_roll b__law_roll .nil pass0 (pa_cons (pv 0) (pa_cons pe_int pa_nil))))
    (pss_one (ps_ret (pe_call G__law_led (hr.mono (by decide)) (by rfl) T.g__law_led k__law_led b__law_led .nil pass0 (pa_cons (pv 0) (pa_cons (pe_op op_catA (pe_slice sl_tupA (pv 2) (po_some (pv 3)) po_none) (pe_slice sl_tupA (pv 2) po_none (po_some (pv 3)))) (pa_cons pe_int (pa_cons pe_int pa_nil))))))))))))), ?hrd⟩)
  case hlen =>
    obtain ⟨c, rfl, _⟩ := h
    rfl
  case hrd =>
    obtain ⟨c, rfl, hc, q⟩ := h
    have inv : Trips H [] := fun x hx => absurd hx List.not_mem_nil
    have e : Ext H H := Evl.Ex.refl H
    refine go_seq_asg ?_
    refine go_lst ?_
    refine go_lit3 inv e (by first | exact fun _ _ q => q | exact fun _ _ q => ⟨_, rfl, q⟩) (by first | exact fun _ _ q => q | exact fun _ _ q => ⟨_, rfl, q⟩) (by first | exact fun _ _ q => q | exact fun _ _ q => ⟨_, rfl, q⟩) (by decide +kernel) fun p H1 e inv => ?_
    refine go_lit3 inv e (by first | exact fun _ _ q => q | exact fun _ _ q => ⟨_, rfl, q⟩) (by first | exact fun _ _ q => q | exact fun _ _ q => ⟨_, rfl, q⟩) (by first | exact fun _ _ q => q | exact fun _ _ q => ⟨_, rfl, q⟩) (by decide +kernel) fun p H1 e inv => ?_
    refine go_lit3 inv e (by first | exact fun _ _ q => q | exact fun _ _ q => ⟨_, rfl, q⟩) (by first | exact fun _ _ q => q | exact fun _ _ q => ⟨_, rfl, q⟩) (by first | exact fun _ _ q => q | exact fun _ _ q => ⟨_, rfl, q⟩) (by decide +kernel) fun p H1 e inv => ?_
    refine go_lit3 inv e (by first | exact fun _ _ q => q | exact fun _ _ q => ⟨_, rfl, q⟩) (by first | exact fun _ _ q => q | exact fun _ _ q => ⟨_, rfl, q⟩) (by first | exact fun _ _ q => q | exact fun _ _ q => ⟨_, rfl, q⟩) (by decide +kernel) fun p H1 e inv => ?_
    refine go_lit3 inv e (by first | exact fun _ _ q => q | exact fun _ _ q => ⟨_, rfl, q⟩) (by first | exact fun _ _ q => q | exact fun _ _ q => ⟨_, rfl, q⟩) (by first | exact fun _ _ q => q | exact fun _ _ q => ⟨_, rfl, q⟩) (by decide +kernel) fun p H1 e inv => ?_
    refine go_lit3 inv e (by first | exact fun _ _ q => q | exact fun _ _ q => ⟨_, rfl, q⟩) (by first | exact fun _ _ q => q | exact fun _ _ q => ⟨_, rfl, q⟩) (by first | exact fun _ _ q => q | exact fun _ _ q => ⟨_, rfl, q⟩) (by decide +kernel) fun p H1 e inv => ?_
    refine go_lit3 inv e (by first | exact fun _ _ q => q | exact fun _ _ q => ⟨_, rfl, q⟩) (by first | exact fun _ _ q => q | exact fun _ _ q => ⟨_, rfl, q⟩) (by first | exact fun _ _ q => q | exact fun _ _ q => ⟨_, rfl, q⟩) (by decide +kernel) fun p H1 e inv => ?_
    refine go_lit3 inv e (by first | exact fun _ _ q => q | exact fun _ _ q => ⟨_, rfl, q⟩) (by first | exact fun _ _ q => q | exact fun _ _ q => ⟨_, rfl, q⟩) (by first | exact fun _ _ q => q | exact fun _ _ q => ⟨_, rfl, q⟩) (by decide +kernel) fun p H1 e inv => ?_
    refine go_lit3 inv e (by first | exact fun _ _ q => q | exact fun _ _ q => ⟨_, rfl, q⟩) (by first | exact fun _ _ q => q | exact fun _ _ q => ⟨_, rfl, q⟩) (by first | exact fun _ _ q => q | exact fun _ _ q => ⟨_, rfl, q⟩) (by decide +kernel) fun p H1 e inv => ?_
    refine go_lit3 inv e (by first | exact fun _ _ q => q | exact fun _ _ q => ⟨_, rfl, q⟩) (by first | exact fun _ _ q => q | exact fun _ _ q => ⟨_, rfl, q⟩) (by first | exact fun _ _ q => q | exact fun _ _ q => ⟨_, rfl, q⟩) (by decide +kernel) fun p H1 e inv => ?_
    walk_at "gos"
    refine go_lits (C := fun l H' => gName 1 (V.ref l) _ H' _) inv e fun l1 ls1 H1 n1 e1 nl1 hL1 inv1 => ?_
    have inv : Trips H1 [] := fun x hx => absurd hx List.not_mem_nil
    have e : Ext H1 H1 := Evl.Ex.refl H1
    refine go_gName ?_
    refine go_seq_asg ?_
    refine go_op ?_
    refine' go_var ?hvar ?_
    case hvar => rfl
    refine go_lst ?_
    refine go_lit3 inv e (by first | exact fun _ _ q => q | exact fun _ _ q => ⟨_, rfl, q⟩) (by first | exact fun _ _ q => q | exact fun _ _ q => ⟨_, rfl, q⟩) (by first | exact fun _ _ q => q | exact fun _ _ q => ⟨_, rfl, q⟩) (by decide +kernel) fun p H1 e inv => ?_
    refine go_lit3 inv e (by first | exact fun _ _ q => q | exact fun _ _ q => ⟨_, rfl, q⟩) (by first | exact fun _ _ q => q | exact fun _ _ q => ⟨_, rfl, q⟩) (by first | exact fun _ _ q => q | exact fun _ _ q => ⟨_, rfl, q⟩) (by decide +kernel) fun p H1 e inv => ?_
    refine go_lit3 inv e (by first | exact fun _ _ q => q | exact fun _ _ q => ⟨_, rfl, q⟩) (by first | exact fun _ _ q => q | exact fun _ _ q => ⟨_, rfl, q⟩) (by first | exact fun _ _ q => q | exact fun _ _ q => ⟨_, rfl, q⟩) (by decide +kernel) fun p H1 e inv => ?_
    refine go_lit3 inv e (by first | exact fun _ _ q => q | exact fun _ _ q => ⟨_, rfl, q⟩) (by first | exact fun _ _ q => q | exact fun _ _ q => ⟨_, rfl, q⟩) (by first | exact fun _ _ q => q | exact fun _ _ q => ⟨_, rfl, q⟩) (by decide +kernel) fun p H1 e inv => ?_
    refine go_lit3 inv e (by first | exact fun _ _ q => q | exact fun _ _ q => ⟨_, rfl, q⟩) (by first | exact fun _ _ q => q | exact fun _ _ q => ⟨_, rfl, q⟩) (by first | exact fun _ _ q => q | exact fun _ _ q => ⟨_, rfl, q⟩) (by decide +kernel) fun p H1 e inv => ?_
    refine go_lit3 inv e (by first | exact fun _ _ q => q | exact fun _ _ q => ⟨_, rfl, q⟩) (by first | exact fun _ _ q => q | exact fun _ _ q => ⟨_, rfl, q⟩) (by first | exact fun _ _ q => q | exact fun _ _ q => ⟨_, rfl, q⟩) (by decide +kernel) fun p H1 e inv => ?_
    refine go_lit3 inv e (by first | exact fun _ _ q => q | exact fun _ _ q => ⟨_, rfl, q⟩) (by first | exact fun _ _ q => q | exact fun _ _ q => ⟨_, rfl, q⟩) (by first | exact fun _ _ q => q | exact fun _ _ q => ⟨_, rfl, q⟩) (by decide +kernel) fun p H1 e inv => ?_
    refine go_lit3 inv e (by first | exact fun _ _ q => q | exact fun _ _ q => ⟨_, rfl, q⟩) (by first | exact fun _ _ q => q | exact fun _ _ q => ⟨_, rfl, q⟩) (by first | exact fun _ _ q => q | exact fun _ _ q => ⟨_, rfl, q⟩) (by decide +kernel) fun p H1 e inv => ?_
    refine go_lit3 inv e (by first | exact fun _ _ q => q | exact fun _ _ q => ⟨_, rfl, q⟩) (by first | exact fun _ _ q => q | exact fun _ _ q => ⟨_, rfl, q⟩) (by first | exact fun _ _ q => q | exact fun _ _ q => ⟨_, rfl, q⟩) (by decide +kernel) fun p H1 e inv => ?_
    walk_at "gos"
    refine go_lits (C := fun l H' => rCat (V.ref l1) (V.ref l) H' _) inv e fun l2 ls2 H2 n2 e2 nl2 hL2 inv2 => ?_
    have n1 : ls1.length = 10 := n1
    have n2 : ls2.length = 9 := n2
    refine ⟨l1, l2, ls1, ls2, rfl, rfl, e2 _ _ hL1, hL2, by rw [n1, n2]; exact Nat.le_of_ble_eq_true rfl, fun l3 nl3 => ?_⟩
    have e3 := ext_new (o := .lst (ls1 ++ ls2)) (e1.trans e2) nl3
    have inv3 : Trips (upd H2 l3 (.lst (ls1 ++ ls2))) (ls1 ++ ls2) := fun x hx => by
      rcases List.mem_append.mp hx with z | z
      · exact ((inv1.ext e2).ext (Evl.Ex.new nl3)) x z
      · exact (inv2.ext (Evl.Ex.new nl3)) x z
    have hL3 : upd H2 l3 (.lst (ls1 ++ ls2)) l3 = some (.lst (ls1 ++ ls2)) := upd_same
    have hc3 := hc.ext e3
    have l3c : l3 ≠ c := ne_purse hc (Evl.fresh_back (e1.trans e2) nl3)
    generalize upd H2 l3 (.lst (ls1 ++ ls2)) = H3 at e3 inv3 hL3 hc3 ⊢
    walk_at "gos"
    refine ⟨c, l3, _, rfl, hc3, hL3, l3c, by rw [List.length_append, n1]; omega, by rw [List.length_append, n1, n2]; omega, fun x H4 hx e4 hc4 => ?_⟩
    obtain ⟨a, t, rfl, ha, bt⟩ := inv3 x hx
    have ha4 := e4.tupP hc3 ha
    have x4 := (ExtC.of (c := c) e3).trans e4
    walk_at "gos"
    refine go_cut (fun σ' H' => ∃ b u y z, σ' = [some (.ref c), some (.ref l3), some (.ref b), y, z] ∧ big u ≤ 5 ∧ ExtC c H H' ∧ Purse H' c ∧ H' b = some (.tup (tv u))) ?_ ?_
    · walk_at "gos"
      refine ⟨c, 3, rfl, hc4, by decide, by decide +kernel, fun v H5 v0 v1 e5 hc5 => ?_⟩
      have ha5 := e5.tupP hc4 ha4
      walk_at "gos"
      refine go_ite (fun z => ?_) fun z => ?_
      · walk_at "gos"
        refine ⟨c, 10, rfl, hc5, by decide, by decide +kernel, fun d1 H6 d10 d11 e6 hc6 => ?_⟩
        walk_at "gos"
        refine ⟨c, 10, rfl, hc6, by decide, by decide +kernel, fun d2 H7 d20 d21 e7 hc7 => ?_⟩
        walk_at "gos"
        refine ⟨c, 10, rfl, hc7, by decide, by decide +kernel, fun d3 H8 d30 d31 e8 hc8 => ?_⟩
        walk_at "gos"
        intro b nb
        have n5 : ∀ d : Int, 0 ≤ d → d < 10 → nat (d - 4) ≤ 5 := fun d h0 h1 => by rcases nat_two (d - 4) with z | z <;> omega
        exact ⟨b, (d1 - 4, d2 - 4, d3 - 4), _, _, rfl, big_three (n5 _ d10 d11) (n5 _ d20 d21) (n5 _ d30 d31), ((((x4.trans e5).trans e6).trans e7).trans e8).trans (ExtC.new nb), hc8.new nb, upd_same⟩
      · walk_at "gos"
        exact ⟨a, t, _, _, rfl, bt, x4.trans e5, hc5, ha5⟩
    rintro σ2 H5 ⟨b, u, y, z, rfl, bu, x5, hc5, hu⟩
    walk_at "gos"
    refine go_cut (fun σ' H' => ∃ b u y z, σ' = [some (.ref c), some (.ref l3), some (.ref b), y, z] ∧ big u ≤ 5 ∧ ExtC c H H' ∧ Purse H' c ∧ H' b = some (.tup (tv u))) ?_ ?_
    · walk_at "gos"
      refine ⟨c, 2, rfl, hc5, by decide, by decide +kernel, fun v H6 v0 v1 e6 hc6 => ?_⟩
      have hu6 := e6.tupP hc5 hu
      walk_at "gos"
      refine go_ite (fun z => ?_) fun z => ?_
      · walk_at "gos"
        refine go_lc ?_
        walk_at "gos"
        refine ⟨⟨tv u, SqT.of hu6⟩, lc_tupP hu6 (Nat.le_of_ble_eq_true rfl) negV (fun D nD v H' hv e QE hq => ?_) fun D nD H7 e7 hD => ?_⟩
        · obtain ⟨i, rfl⟩ : ∃ i, v = .int i := by
            simp only [tv, List.mem_cons, List.not_mem_nil, or_false] at hv
            rcases hv with rfl | rfl | rfl <;> exact ⟨_, rfl⟩
          walk_at "gos"
          refine ⟨rfl, ?_⟩
          walk_at "gos"
          exact hq H' (Evl.Ex.refl _)
        walk_at "gos"
        refine ⟨D, _, rfl, .inl ⟨SqL.of hD, fun r nr => ?_⟩⟩
        exact ⟨r, (-u.1, -u.2.1, -u.2.2), _, _, rfl, big_three (by rw [nat_neg]; exact (big_le (t := u).mp bu).1) (by rw [nat_neg]; exact (big_le (t := u).mp bu).2.1) (by rw [nat_neg]; exact (big_le (t := u).mp bu).2.2), (x5.trans e6).trans (ExtC.of (ext_new e7 nr)), (hc6.ext e7).new nr, upd_same⟩
      · walk_at "gos"
        exact ⟨b, u, _, _, rfl, bu, x5.trans e6, hc6, hu6⟩
    rintro σ3 H6 ⟨b, ⟨x, y, z⟩, y3, y4, rfl, bu, x6, hc6, hu⟩
    walk_at "gos"
    refine ⟨c, 3, rfl, hc6, by decide, by decide +kernel, fun k H7 k0 k1 e7 hc7 => ?_⟩
    have hu7 : H7 b = some (.tup [.int x, .int y, .int z]) := e7.tupP hc6 hu
    have x7 := x6.trans e7
    obtain ⟨b1, b2, b3⟩ := big_le.mp bu
    walk_at "gos"
    have fin : ∀ (d : Addr) (v : T3) (H8 : Hp), Ext H7 H8 → H8 d = some (.tup (tv v)) → big v ≤ 5 → sp__law_led K [.ref c, .ref d, .int 4, .int 40] H8 Q E0 := fun d v H8 e8 hd bv => by
      refine ⟨c, d, v, 4, 40, rfl, hc7.ext e8, hd, Int.le_trans bv (by decide), by decide, by decide, by decide, by decide, fun b9 u9 H9 bu9 _ x9 hc9 hu9 => ?_⟩
      exact q b9 u9 H9 bu9 ((x7.trans (ExtC.of e8)).trans x9) hc9 hu9
    have hk : k = 0 ∨ k = 1 ∨ k = 2 := by omega
    rcases hk with rfl | rfl | rfl
    · refine ⟨b, _, rfl, SqT.of hu7, fun _ => ?_, fun n => absurd ⟨rfl, rfl⟩ n⟩
      walk_at "gos"
      refine ⟨b, _, rfl, SqT.of hu7, fun n => absurd n.2 (show ¬ HT.sIx 3 3 (some 0) = 3 by decide), fun _ p np => ?_⟩
      refine ⟨b, p, _, [], rfl, rfl, SqT.of (mem_new np hu7), SqT.of upd_same, Nat.le_of_ble_eq_true rfl, (fun n => nomatch n), fun _ _ => ?_, fun _ n => absurd rfl n⟩
      walk_at "gos"
      exact fin b (x, y, z) _ (Evl.Ex.new np) (mem_new np hu7) (big_three b1 b2 b3)
    · refine ⟨b, _, rfl, SqT.of hu7, fun n => absurd n.1 (show ¬ HT.sIx 3 0 (some 1) = 0 by decide), fun _ p np => ?_⟩
      walk_at "gos"
      refine ⟨b, _, rfl, SqT.of (mem_new np hu7), fun n => absurd n.2 (show ¬ HT.sIx 3 3 (some 1) = 3 by decide), fun _ p2 np2 => ?_⟩
      refine ⟨p, p2, [.int y, .int z], [.int x], rfl, rfl, SqT.of (mem_new np2 upd_same), SqT.of upd_same, Nat.le_of_ble_eq_true rfl, fun n => (nomatch n), fun _ n => (nomatch n), fun _ _ p3 np3 => ?_⟩
      walk_at "gos"
      exact fin p3 (y, z, x) _ (ext_new (ext_new (Evl.Ex.new np) np2) np3) upd_same (big_three b2 b3 b1)
    · refine ⟨b, _, rfl, SqT.of hu7, fun n => absurd n.1 (show ¬ HT.sIx 3 0 (some 2) = 0 by decide), fun _ p np => ?_⟩
      walk_at "gos"
      refine ⟨b, _, rfl, SqT.of (mem_new np hu7), fun n => absurd n.2 (show ¬ HT.sIx 3 3 (some 2) = 3 by decide), fun _ p2 np2 => ?_⟩
      refine ⟨p, p2, [.int z], [.int x, .int y], rfl, rfl, SqT.of (mem_new np2 upd_same), SqT.of upd_same, Nat.le_of_ble_eq_true rfl, fun n => (nomatch n), fun _ n => (nomatch n), fun _ _ p3 np3 => ?_⟩
      walk_at "gos"
      exact fin p3 (z, x, y) _ (ext_new (ext_new (Evl.Ex.new np) np2) np3) upd_same (big_three b3 b1 b2)
theorem ok__law_trio (T : Top w K mg) : OkD P w K mg base 4 (He.ga K "_law_trio") ["_law_purse_here"] (sp__law_trio K) := by
  obtain ⟨fd, F⟩ := T.f__law_trio
  exact ⟨fd, fn__law_trio T F, F.binds (ps := ["_law_purse_here"]) fun _ _ _ _ _ _ us hl => match us, hl with | [_], _ => rfl, F.kp⟩
end
end At

namespace At
open L2 PyProof.Rows PySem.Spec PySem
section
variable {base : Heap} {w : World} {K : PySem.W.Frag} {mg : Str → Option Value} {P : Program}
abbrev N__law_renamed : List Str := ["_law_trio_here", "_law_letters", "_law_arrows", "_law_first", "_law_second", "_law_third"]
theorem sc__law_renamed : FnScope N__law_renamed ["_law_trio_here", "_law_letters"] (defScope s__law_renamed) := ⟨rfl, rfl, rfl, by decide +kernel, rfl, by decide +kernel, by decide +kernel⟩
def sp__law_renamed (K : PySem.W.Frag) : Sp := fun vs H Q _ => ∃ a t p q r, vs = [.ref a, .str (wd [p, q, r])] ∧ H a = some (.tup (tv t)) ∧ Nam p q r ∧ ∀ o H', Ext H H' → H o = none → H' o = some (.tup (tv (ren p q r t))) → Q (.ref o) H'
def arrK (x y z : Int) : List (L2.Key × V) := [(.inr "ab", .int x), (.inr "ba", .int (-x)), (.inr "bc", .int y), (.inr "cb", .int (-y)), (.inr "ca", .int z), (.inr "ac", .int (-z))]
theorem arr_get (x y z : Int) {p q : P3} (ne : p ≠ q) : some (V.int (arr (x, y, z) p q)) = valV (arrK x y z) (.inr (lt p ++ lt q)) := by
  cases p <;> cases q <;> first | exact absurd rfl ne | rfl
theorem arr_merge (x y z : Int) : mergeK [] (arrK x y z) = arrK x y z := by rfl
theorem fn__law_renamed (T : Top w K mg) {fd : FuncData} (F : Fun K "_law_renamed" "_law_renamed" s__law_renamed (He.ga K "_law_renamed") fd) : FnOk P w K mg base CX0 1 (He.ga K "_law_renamed") fd ["_law_trio_here", "_law_letters"] (sp__law_renamed K) := by
  refine F.ok sc__law_renamed (fun vs H Q E h => ?hlen) (fun cdv A outer s H vs Q E hr h => ⟨_, (pss_cons (ps_set (i := 2) sc__law_renamed.nd rfl (Or.inl rfl) (pe_disp (pps_cons pe_str (pe_ix ix_tup (pv 0) pe_int (fun _ _ => rfl)) (pps_cons pe_str (pe_un un_neg (pe_ix ix_tup (pv 0) pe_int (fun _ _ => rfl))) (pps_cons pe_str (pe_ix ix_tup (pv 0) pe_int (fun _ _ => rfl)) (pps_cons pe_str (pe_un un_neg (pe_ix ix_tup (pv 0) pe_int (fun _ _ => rfl))) (pps_cons pe_str (pe_ix ix_tup (pv 0) pe_int (fun _ _ => rfl)) (pps_cons pe_str (pe_un un_neg (pe_ix ix_tup (pv 0) pe_int (fun _ _ => rfl))) pps_nil)))))) rfl rfl (by simp) (by decide)))
    (pss_cons (ps_asg (pv 1) (At.pg_un3 rfl (pgs_cons (pg_name (i := 3) sc__law_renamed.nd rfl (Or.inl rfl)) (pgs_cons (pg_name (i := 4) sc__law_renamed.nd rfl (Or.inl rfl)) (pgs_cons (pg_name (i := 5) sc__law_renamed.nd rfl (Or.inl rfl)) pgs_nil)))))
    (pss_one (ps_ret (pe_tup (pa_cons (pe_dget (hu1 hr) (pv 2) (pe_op op_add_str (pv 3) (pv 4)) (fun _ _ => rfl)) (pa_cons (pe_dget (hu1 hr) (pv 2) (pe_op op_add_str (pv 4) (pv 5)) (fun _ _ => rfl)) (pa_cons (pe_dget (hu1 hr) (pv 2) (pe_op op_add_str (pv 5) (pv 3)) (fun _ _ => rfl)) pa_nil)))))))), ?hrd⟩)
  case hlen =>
    obtain ⟨a, t, p, q, r, rfl, _⟩ := h
    rfl
  case hrd =>
    obtain ⟨a, ⟨x, y, z⟩, p, q, r, rfl, ha, nm, qq⟩ := h
    walk_at "gos"
    intro d nd
    have ha1 : upd H d (.dK []) a = some (.tup (tv (x, y, z))) := mem_new nd ha
    unfold tPairs
    walk_at "gos"
    refine go_rIxT (j := 0) (v := .int x) (SqT.of ha1) rfl ?_
    unfold tPairs
    walk_at "gos"
    refine go_rIxT (j := 0) (v := .int x) (SqT.of ha1) rfl ?_
    unfold tPairs
    walk_at "gos"
    refine go_rIxT (j := 1) (v := .int y) (SqT.of ha1) rfl ?_
    unfold tPairs
    walk_at "gos"
    refine go_rIxT (j := 1) (v := .int y) (SqT.of ha1) rfl ?_
    unfold tPairs
    walk_at "gos"
    refine go_rIxT (j := 2) (v := .int z) (SqT.of ha1) rfl ?_
    unfold tPairs
    walk_at "gos"
    refine go_rIxT (j := 2) (v := .int z) (SqT.of ha1) rfl ?_
    unfold tPairs
    walk_at "gos"
    refine ⟨upd_same, arrK x y z, rfl, Nat.le_of_ble_eq_true rfl, ?_⟩
    rw [arr_merge]
    have hd : upd (upd H d (.dK [])) d (.dK (arrK x y z)) d = some (.dK (arrK x y z)) := upd_same
    have e1 : Ext H (upd (upd H d (.dK [])) d (.dK (arrK x y z))) := (Evl.Ex.new nd).mut nd
    generalize upd (upd H d (.dK [])) d (.dK (arrK x y z)) = H1 at hd e1 ⊢
    walk_at "gos"
    refine ⟨p.ch, q.ch, r.ch, rfl, by cases p <;> cases q <;> cases r <;> decide +kernel, ?_⟩
    walk_at "gos"
    refine ⟨d, .int (arr (x, y, z) p q), rfl, .inl ⟨arrK x y z, .inr (lt p ++ lt q), .inl hd, rfl, arr_get x y z nm.1⟩, ?_⟩
    walk_at "gos"
    refine ⟨d, .int (arr (x, y, z) q r), rfl, .inl ⟨arrK x y z, .inr (lt q ++ lt r), .inl hd, rfl, arr_get x y z nm.2.1⟩, ?_⟩
    walk_at "gos"
    refine ⟨d, .int (arr (x, y, z) r p), rfl, .inl ⟨arrK x y z, .inr (lt r ++ lt p), .inl hd, rfl, arr_get x y z (Ne.symm nm.2.2)⟩, ?_⟩
    walk_at "gos"
    intro o no
    exact qq o _ (ext_new e1 no) (Evl.fresh_back e1 no) upd_same
theorem ok__law_renamed (T : Top w K mg) : OkD P w K mg base 1 (He.ga K "_law_renamed") ["_law_trio_here", "_law_letters"] (sp__law_renamed K) := by
  obtain ⟨fd, F⟩ := T.f__law_renamed
  exact ⟨fd, fn__law_renamed T F, F.binds (ps := ["_law_trio_here", "_law_letters"]) fun _ _ _ _ _ _ us hl => match us, hl with | [_, _], _ => rfl, F.kp⟩
end
end At

namespace At
open L2 PyProof.Rows PySem.Spec PySem
section
variable {base : Heap} {w : World} {K : PySem.W.Frag} {mg : Str → Option Value} {P : Program}
abbrev N_is_integer : List Str := ["value"]
theorem sc_is_integer : FnScope N_is_integer ["value"] (defScope s_is_integer) := ⟨rfl, rfl, rfl, by decide +kernel, rfl, by decide +kernel, by decide +kernel⟩
def sp_is_integer (K : PySem.W.Frag) : Sp := fun vs H Q _ => ∃ i : Int, vs = [.int i] ∧ Q (.bl true) H
theorem fn_is_integer (T : Top w K mg) {fd : FuncData} (F : Fun K "is_integer" "is_integer" s_is_integer (He.ga K "is_integer") fd) : FnOk P w K mg base CX0 1 (He.ga K "is_integer") fd ["value"] (sp_is_integer K) := by
  refine F.ok sc_is_integer (fun vs H Q E h => ?hlen) (fun cdv A outer s H vs Q E hr h => ⟨_, (pss_one (ps_ret (pe_and (pe_callB call_isi (by rfl) T.b_isinstance (by decide +kernel) (pa_cons (pv 0) (pa_cons (pe_bltn (v := .ty "int") (by rfl) T.b_int (by decide +kernel) rfl) pa_nil))) (pe_one (pe_not (pe_callB call_isi (by rfl) T.b_isinstance (by decide +kernel) (pa_cons (pv 0) (pa_cons (pe_bltn (v := .ty "bool") (by rfl) T.b_bool (by decide +kernel) rfl) pa_nil)))))))), ?hrd⟩)
  case hlen =>
    obtain ⟨i, rfl, _⟩ := h
    rfl
  case hrd =>
    obtain ⟨i, rfl, q⟩ := h
    walk_at "gos"
    refine go_isi (.int i) (kit_ii _) ?_
    walk_at "gos"
    refine go_isi (.int i) (kit_ib _) ?_
    walk_at "gos"
    exact q
theorem ok_is_integer (T : Top w K mg) : OkD P w K mg base 1 (He.ga K "is_integer") ["value"] (sp_is_integer K) := by
  obtain ⟨fd, F⟩ := T.f_is_integer
  exact ⟨fd, fn_is_integer T F, F.binds (ps := ["value"]) fun _ _ _ _ _ _ us hl => match us, hl with | [_], _ => rfl, F.kp⟩
end
end At

namespace At
open L2 PyProof.Rows PySem.Spec PySem
section
variable {base : Heap} {w : World} {K : PySem.W.Frag} {mg : Str → Option Value} {P : Program}
abbrev N_check_standing : List Str := ["value"]
theorem sc_check_standing : FnScope N_check_standing ["value"] (defScope s_check_standing) := ⟨rfl, rfl, rfl, by decide +kernel, rfl, by decide +kernel, by decide +kernel⟩
def sp_check_standing (K : PySem.W.Frag) : Sp := fun vs H Q _ => ∃ s t, vs = [.ref s] ∧ StAt K H s t ∧ Q .non H
theorem fn_check_standing (T : Top w K mg) {fd : FuncData} (F : Fun K "check_standing" "check_standing" s_check_standing (He.ga K "check_standing") fd) : FnOk P w K mg base CX0 1 (He.ga K "check_standing") fd ["value"] (sp_check_standing K) := by
  refine F.ok sc_check_standing (fun vs H Q E h => ?hlen) (fun cdv A outer s H vs Q E hr h => ⟨_, (pss_one (ps_if (pt_not (pt_val (pe_callB call_isi (by rfl) T.b_isinstance (by decide +kernel) (pa_cons (pv 0) (pa_cons (pe_glob (v := .ref _) rfl T.g_Standing rfl) pa_nil))))) (pss_one ps_never) pss_nil)), ?hrd⟩)
  case hlen =>
    obtain ⟨s, t, rfl, _⟩ := h
    rfl
  case hrd =>
    obtain ⟨s, t, rfl, ⟨dx, n, hs, hn⟩, q⟩ := h
    walk_at "gos"
    refine go_isO T.x_is_Standing T.c_Standing hs ?_
    walk_at "gos"
    exact q
theorem ok_check_standing (T : Top w K mg) : OkD P w K mg base 1 (He.ga K "check_standing") ["value"] (sp_check_standing K) := by
  obtain ⟨fd, F⟩ := T.f_check_standing
  exact ⟨fd, fn_check_standing T F, F.binds (ps := ["value"]) fun _ _ _ _ _ _ us hl => match us, hl with | [_], _ => rfl, F.kp⟩
end
end At

namespace At
open L2 PyProof.Rows PySem.Spec PySem
section
variable {base : Heap} {w : World} {K : PySem.W.Frag} {mg : Str → Option Value} {P : Program}
abbrev N_place_before : List Str := ["place"]
theorem sc_place_before : FnScope N_place_before ["place"] (defScope s_place_before) := ⟨rfl, rfl, rfl, by decide +kernel, rfl, by decide +kernel, by decide +kernel⟩
def sp_place_before (K : PySem.W.Frag) : Sp := fun vs H Q _ => ∃ p : P3, vs = [.int p.i] ∧ Q (.int (prv p).i) H
theorem fn_place_before (T : Top w K mg) {fd : FuncData} (F : Fun K "place_before" "place_before" s_place_before (He.ga K "place_before") fd) : FnOk P w K mg base CX0 1 (He.ga K "place_before") fd ["place"] (sp_place_before K) := by
  refine F.ok sc_place_before (fun vs H Q E h => ?hlen) (fun cdv A outer s H vs Q E hr h => ⟨_, (pss_one (ps_ret (pe_op op_modN (pe_op op_add (pv 0) pe_int) pe_int))), ?hrd⟩)
  case hlen =>
    obtain ⟨p, rfl, _⟩ := h
    rfl
  case hrd =>
    obtain ⟨p, rfl, q⟩ := h
    walk_at "gos"
    have e : (p.i + 2).fmod 3 = (prv p).i := by cases p <;> rfl
    show Q (.int ((p.i + 2).fmod 3)) H
    rw [e]
    exact q
theorem ok_place_before (T : Top w K mg) : OkD P w K mg base 1 (He.ga K "place_before") ["place"] (sp_place_before K) := by
  obtain ⟨fd, F⟩ := T.f_place_before
  exact ⟨fd, fn_place_before T F, F.binds (ps := ["place"]) fun _ _ _ _ _ _ us hl => match us, hl with | [_], _ => rfl, F.kp⟩
end
end At

namespace At
open L2 PyProof.Rows PySem.Spec PySem
section
variable {base : Heap} {w : World} {K : PySem.W.Frag} {mg : Str → Option Value} {P : Program}
abbrev N_place_behind : List Str := ["place"]
theorem sc_place_behind : FnScope N_place_behind ["place"] (defScope s_place_behind) := ⟨rfl, rfl, rfl, by decide +kernel, rfl, by decide +kernel, by decide +kernel⟩
def sp_place_behind (K : PySem.W.Frag) : Sp := fun vs H Q _ => ∃ p : P3, vs = [.int p.i] ∧ Q (.int (nxt p).i) H
theorem fn_place_behind (T : Top w K mg) {fd : FuncData} (F : Fun K "place_behind" "place_behind" s_place_behind (He.ga K "place_behind") fd) : FnOk P w K mg base CX0 1 (He.ga K "place_behind") fd ["place"] (sp_place_behind K) := by
  refine F.ok sc_place_behind (fun vs H Q E h => ?hlen) (fun cdv A outer s H vs Q E hr h => ⟨_, (pss_one (ps_ret (pe_op op_modN (pe_op op_add (pv 0) pe_int) pe_int))), ?hrd⟩)
  case hlen =>
    obtain ⟨p, rfl, _⟩ := h
    rfl
  case hrd =>
    obtain ⟨p, rfl, q⟩ := h
    walk_at "gos"
    have e : (p.i + 1).fmod 3 = (nxt p).i := by cases p <;> rfl
    show Q (.int ((p.i + 1).fmod 3)) H
    rw [e]
    exact q
theorem ok_place_behind (T : Top w K mg) : OkD P w K mg base 1 (He.ga K "place_behind") ["place"] (sp_place_behind K) := by
  obtain ⟨fd, F⟩ := T.f_place_behind
  exact ⟨fd, fn_place_behind T F, F.binds (ps := ["place"]) fun _ _ _ _ _ _ us hl => match us, hl with | [_], _ => rfl, F.kp⟩
end
end At

namespace At
open L2 PyProof.Rows PySem.Spec PySem
section
variable {base : Heap} {w : World} {K : PySem.W.Frag} {mg : Str → Option Value} {P : Program}
abbrev N_turned_at : List Str := ["numbers", "place", "before", "opposite", "coming", "going", "across", "behind"]
theorem sc_turned_at : FnScope N_turned_at ["numbers", "place"] (defScope s_turned_at) := ⟨rfl, rfl, rfl, by decide +kernel, rfl, by decide +kernel, by decide +kernel⟩
def sp_turned_at (K : PySem.W.Frag) : Sp := fun vs H Q _ => ∃ a t p, vs = [.ref a, .int (P3.i p)] ∧ H a = some (.tup (tv t)) ∧ big t ≤ HUGE ∧ ∀ p' H', H p' = none → Ext H H' → H' p' = some (.tup (tv (turn p t))) → Q (.ref p') H'
theorem fn_turned_at (T : Top w K mg) {fd : FuncData} (F : Fun K "turned_at" "turned_at" s_turned_at (He.ga K "turned_at") fd) : FnOk P w K mg base CX0 2 (He.ga K "turned_at") fd ["numbers", "place"] (sp_turned_at K) := by
  obtain ⟨fd_place_before, G_place_before, b_place_before, k_place_before⟩ := ok_place_before (P := P) (w := w) (base := base) T
  obtain ⟨fd_place_behind, G_place_behind, b_place_behind, k_place_behind⟩ := ok_place_behind (P := P) (w := w) (base := base) T
  refine F.ok sc_turned_at (fun vs H Q E h => ?hlen) (fun cdv A outer s H vs Q E hr h => ⟨_, (pss_cons (ps_set (i := 2) sc_turned_at.nd rfl (Or.inl rfl) (pe_call G_place_before (hr.mono (by decide)) (by rfl) T.g_place_before k_place_before b_place_before .nil pass0 (pa_cons (pv 1) pa_nil)))
    (pss_cons (ps_set (i := 3) sc_turned_at.nd rfl (Or.inl rfl) (pe_call G_place_behind (hr.mono (by decide)) (by rfl) T.g_place_behind k_place_behind b_place_behind .nil pass0 (pa_cons (pv 1) pa_nil)))
    (pss_cons (ps_par3 (i := 4) (j := 5) (l := 6) (by rfl) sc_turned_at.nd rfl rfl rfl (by decide) (by decide) (by decide) rfl rfl rfl (pa_cons (pe_ix ix_tup (pv 0) (pv 2) (fun _ _ => rfl)) (pa_cons (pe_ix ix_tup (pv 0) (pv 1) (fun _ _ => rfl)) (pa_cons (pe_ix ix_tup (pv 0) (pv 3) (fun _ _ => rfl)) pa_nil))) (by rfl))
    (Evl.pss_cut (ps_if (PW.pt (pw_and (pt_cmpR op_gt (pv 4) pe_int (nomark _)) (pw_and1 (pt_cmpR op_gt (pv 5) pe_int (nomark _))))) (pss_one (ps_set (i := 6) sc_turned_at.nd rfl (Or.inl rfl) (pe_op op_sub (pv 6) (pe_op op_mulW (pv 4) (pv 5))))) (pss_one (ps_if (PW.pt (pw_and (pt_cmpR op_lt (pv 4) pe_int (nomark _)) (pw_and1 (pt_cmpR op_lt (pv 5) pe_int (nomark _))))) (pss_one (ps_set (i := 6) sc_turned_at.nd rfl (Or.inl rfl) (pe_op op_add (pv 6) (pe_op op_mulW (pv 4) (pv 5))))) pss_nil)))
    (pss_cons (ps_set (i := 7) sc_turned_at.nd rfl (Or.inl rfl) (pe_lst (pa_cons (pv 6) (pa_cons (pv 6) (pa_cons (pv 6) pa_nil)))))
    (pss_cons (ps_asg (pe_un un_neg (pv 4)) (pg_sub (pv 7) (pv 2) set_list))
    (pss_cons (ps_asg (pe_un un_neg (pv 5)) (pg_sub (pv 7) (pv 1) set_list))
    (pss_one (ps_ret (pe_callTy call_tuple_of (by rfl) T.b_tuple (by decide +kernel) (pa_cons (pv 7) pa_nil))))))))))), ?hrd⟩)
  case hlen =>
    obtain ⟨a, t, p, rfl, _⟩ := h
    rfl
  case hrd =>
    obtain ⟨a, t, p, rfl, ha, hb, q⟩ := h
    walk_at "gos"
    refine ⟨p, rfl, ?_⟩
    walk_at "gos"
    refine ⟨p, rfl, ?_⟩
    walk_at "gos"
    refine go_rIxT (SqT.of ha) (at_co p t) ?_
    walk_at "gos"
    refine go_rIxT (SqT.of ha) (at_go p t) ?_
    walk_at "gos"
    refine go_rIxT (SqT.of ha) (at_opp p t) ?_
    walk_at "gos"
    have hm : CMulW (co p t) (go p t) := by
      have := big_tri.mp (by rw [← tri_of p t]; exact hb : big (tri p (co p t) (go p t) (opp p t)) ≤ HUGE)
      exact mul_ok (Int.le_refl _) this.1 this.2.1
    refine go_cut (fun σ' H' => H' = H ∧ σ' = [some (.ref a), some (.int p.i), some (.int (prv p).i), some (.int (nxt p).i), some (.int (co p t)), some (.int (go p t)), some (.int (push (co p t) (go p t) (opp p t))), none]) ?_ ?_
    · walk_at "gos"
      refine go_ite (fun h1 => ?_) (fun h1 => ?_)
      · walk_at "gos"
        refine go_ite (fun h2 => ?_) (fun h2 => ?_)
        · walk_at "gos"
          refine ⟨rfl, ?_⟩
          rw [push_pos h1 h2]
          rfl
        · walk_at "gos"
          refine go_ite (fun h3 => absurd h1 (by omega)) (fun h3 => ?_)
          walk_at "gos"
          refine ⟨rfl, ?_⟩
          unfold push
          (rw [if_neg (by omega), if_neg (by omega)])
          rfl
      · walk_at "gos"
        refine go_ite (fun h3 => ?_) (fun h3 => ?_)
        · walk_at "gos"
          refine go_ite (fun h4 => ?_) (fun h4 => ?_)
          · walk_at "gos"
            refine ⟨rfl, ?_⟩
            rw [push_neg h3 h4]
            rfl
          · walk_at "gos"
            refine ⟨rfl, ?_⟩
            unfold push
            (rw [if_neg (by omega), if_neg (by omega)])
            rfl
        · walk_at "gos"
          refine ⟨rfl, ?_⟩
          unfold push
          (rw [if_neg (by omega), if_neg (by omega)])
          rfl
    · rintro σ' H' ⟨rfl, rfl⟩
      walk_at "gos"
      intro b nb
      walk_at "gos"
      refine go_rSetL upd_same (at_set1 p) ?_
      rw [upd_upd]
      walk_at "gos"
      refine go_rSetL upd_same (at_set2 p) ?_
      rw [upd_upd]
      walk_at "gos"
      refine ⟨_, _, rfl, .inl ⟨SqL.of upd_same, fun l nl => q l _ (none_back nl).1 (ext_new (Evl.Ex.new nb) nl) ?_⟩⟩
      rw [upd_same, at_set3]
theorem ok_turned_at (T : Top w K mg) : OkD P w K mg base 2 (He.ga K "turned_at") ["numbers", "place"] (sp_turned_at K) := by
  obtain ⟨fd, F⟩ := T.f_turned_at
  exact ⟨fd, fn_turned_at T F, F.binds (ps := ["numbers", "place"]) fun _ _ _ _ _ _ us hl => match us, hl with | [_, _], _ => rfl, F.kp⟩
end
end At

namespace At
open L2 PyProof.Rows PySem.Spec PySem
section
variable {base : Heap} {w : World} {K : PySem.W.Frag} {mg : Str → Option Value} {P : Program}
abbrev N_sizes_of : List Str := ["numbers", "number"]
theorem sc_sizes_of : FnScope N_sizes_of ["numbers"] (defScope s_sizes_of) := ⟨rfl, rfl, rfl, by decide +kernel, rfl, by decide +kernel, by decide +kernel⟩
def sp_sizes_of (K : PySem.W.Frag) : Sp := fun vs H Q _ => ∃ a t, vs = [.ref a] ∧ H a = some (.tup (tv t)) ∧ ((∀ p H', H p = none → Ext H H' → H' p = some (.tup (tv (szs t))) → Q (.ref p) H') ∨ ∀ p H', H p = none → Ext H H' → Frt H' p (tv (szs t)) → Q (.ref p) H')
theorem fn_sizes_of (T : Top w K mg) {fd : FuncData} (F : Fun K "sizes_of" "sizes_of" s_sizes_of (He.ga K "sizes_of") fd) : FnOk P w K mg base CX0 1 (He.ga K "sizes_of") fd ["numbers"] (sp_sizes_of K) := by
  refine F.ok sc_sizes_of (fun vs H Q E h => ?hlen) (fun cdv A outer s H vs Q E hr h => ⟨_, (pss_one (ps_ret (pe_callTy call_tupF (by rfl) T.b_tuple (by decide +kernel) (pa_cons (pe_lc (own := [("number", 1)]) (g := gName 1) (tt := tYes) (by rfl) sc_sizes_of.nd (pi_tup (pv 0)) (blkOk_by (own := [("number", 1)]) (N := N_sizes_of) (sc := defScope s_sizes_of) (by decide +kernel)) (fun _ _ _ _ _ => pg_name (i := 1) sc_sizes_of.nd rfl (by first | exact Or.inl rfl | exact Or.inr rfl)) (fun _ _ _ _ _ => pts_nil) (fun _ _ _ _ _ => (pe_callB call_abs (by rfl) T.b_abs (by decide +kernel) (pa_cons (pv 1) pa_nil)))) pa_nil)))), ?hrd⟩)
  case hlen =>
    obtain ⟨a, t, rfl, _⟩ := h
    rfl
  case hrd =>
    obtain ⟨a, t, rfl, ha, q⟩ := h
    walk_at "gos"
    refine go_lc ?_
    walk_at "gos"
    refine ⟨⟨tv t, SqT.of ha⟩, lc_tupP ha (Nat.le_of_ble_eq_true rfl) (fun x => match x with
      | .int i => .int (nat i)
      | v => v) (fun D nD x H' hx e QE hq => ?_) fun D nD H' e hD => ?_⟩
    · obtain ⟨i, rfl⟩ : ∃ i, x = .int i := by
        simp only [tv, List.mem_cons, List.not_mem_nil, or_false] at hx
        rcases hx with rfl | rfl | rfl <;> exact ⟨_, rfl⟩
      walk_at "gos"
      refine ⟨rfl, ?_⟩
      walk_at "gos"
      exact hq H' (Evl.Ex.refl _)
    · walk_at "gos"
      refine ⟨_, _, rfl, SqL.of hD, ?_⟩
      rcases q with q | q
      · exact .inl fun l nl => q l _ (Evl.fresh_back e nl) (ext_new e nl) upd_same
      · exact .inr fun l o nl no => q l _ (Evl.fresh_back e nl) (ext_new e nl) ⟨o, upd_same, no⟩
theorem ok_sizes_of (T : Top w K mg) : OkD P w K mg base 1 (He.ga K "sizes_of") ["numbers"] (sp_sizes_of K) := by
  obtain ⟨fd, F⟩ := T.f_sizes_of
  exact ⟨fd, fn_sizes_of T F, F.binds (ps := ["numbers"]) fun _ _ _ _ _ _ us hl => match us, hl with | [_], _ => rfl, F.kp⟩
end
end At

namespace At
open L2 PyProof.Rows PySem.Spec PySem
section
variable {base : Heap} {w : World} {K : PySem.W.Frag} {mg : Str → Option Value} {P : Program}
abbrev N_opposite_greatest : List Str := ["numbers", "sizes"]
theorem sc_opposite_greatest : FnScope N_opposite_greatest ["numbers"] (defScope s_opposite_greatest) := ⟨rfl, rfl, rfl, by decide +kernel, rfl, by decide +kernel, by decide +kernel⟩
def sp_opposite_greatest (K : PySem.W.Frag) : Sp := fun vs H Q _ => ∃ a t, vs = [.ref a] ∧ H a = some (.tup (tv t)) ∧ ∀ (p : P3) H', Ext H H' → (∀ q, nat (opp q t) ≤ nat (opp p t)) → Q (.int p.i) H'
theorem most_at (x y z : Int) : ∃ r : P3, (([x, y, z].idxOf (max (max x y) z) : Nat) : Int) = r.i ∧ opp (prv r) (x, y, z) = max (max x y) z := by
  rw [List.idxOf_cons, List.idxOf_cons, List.idxOf_cons]
  by_cases h1 : x = max (max x y) z
  · exact ⟨.a, by rw [beq_iff_eq.mpr h1]; rfl, h1⟩
  · by_cases h2 : y = max (max x y) z
    · exact ⟨.b, by rw [beq_eq_false_iff_ne.mpr h1, beq_iff_eq.mpr h2]; rfl, h2⟩
    · have h3 : z = max (max x y) z := by omega
      exact ⟨.c, by rw [beq_eq_false_iff_ne.mpr h1, beq_eq_false_iff_ne.mpr h2, beq_iff_eq.mpr h3]; rfl, h3⟩
theorem fn_opposite_greatest (T : Top w K mg) {fd : FuncData} (F : Fun K "opposite_greatest" "opposite_greatest" s_opposite_greatest (He.ga K "opposite_greatest") fd) : FnOk P w K mg base CX0 2 (He.ga K "opposite_greatest") fd ["numbers"] (sp_opposite_greatest K) := by
  obtain ⟨fd_sizes_of, G_sizes_of, b_sizes_of, k_sizes_of⟩ := ok_sizes_of (P := P) (w := w) (base := base) T
  obtain ⟨fd_place_before, G_place_before, b_place_before, k_place_before⟩ := ok_place_before (P := P) (w := w) (base := base) T
  refine F.ok sc_opposite_greatest (fun vs H Q E h => ?hlen) (fun cdv A outer s H vs Q E hr h => ⟨_, (pss_cons (ps_set (i := 1) sc_opposite_greatest.nd rfl (Or.inl rfl) (pe_call G_sizes_of (hr.mono (by decide)) (by rfl) T.g_sizes_of k_sizes_of b_sizes_of .nil pass0 (pa_cons (pv 0) pa_nil)))
    (pss_one (ps_ret (pe_call G_place_before (hr.mono (by decide)) (by rfl) T.g_place_before k_place_before b_place_before .nil pass0 (pa_cons (pe_tidx (pv 1) (pe_callB (cr_mostF rfl hr) (by rfl) T.b_max (by decide +kernel) (pa_cons (pv 1) pa_nil))) pa_nil))))), ?hrd⟩)
  case hlen =>
    obtain ⟨a, t, rfl, _⟩ := h
    rfl
  case hrd =>
    obtain ⟨a, ⟨x, y, z⟩, rfl, ha, q⟩ := h
    walk_at "gos"
    refine ⟨a, _, rfl, ha, .inr fun p H' np e h => ?_⟩
    have h' : Frt H' p (.int (nat x) :: [nat y, nat z].map .int) := h
    have h3 : Frt H' p ([nat x, nat y, nat z].map .int) := h
    walk_at "gos"
    refine ⟨p, _, rfl, h3, ?_⟩
    walk_at "gos"
    refine ⟨p, _, _, rfl, h', ?_⟩
    have e1 : [nat y, nat z].foldl max (nat x) = max (max (nat x) (nat y)) (nat z) := rfl
    rw [e1]
    obtain ⟨r, er, eo⟩ := most_at (nat x) (nat y) (nat z)
    refine ⟨_, rfl, ?_, h3, ?_⟩
    · simp only [List.mem_cons, List.not_mem_nil, or_false]
      omega
    walk_at "gos"
    refine ⟨r, by rw [er], ?_⟩
    walk_at "gos"
    refine q (prv r) H' e fun s => ?_
    have eo' : nat (opp (prv r) (x, y, z)) = max (max (nat x) (nat y)) (nat z) := by
      rw [← eo]
      cases r <;> rfl
    rw [eo']
    cases s
    · show nat y ≤ _; omega
    · show nat z ≤ _; omega
    · show nat x ≤ _; omega
theorem ok_opposite_greatest (T : Top w K mg) : OkD P w K mg base 2 (He.ga K "opposite_greatest") ["numbers"] (sp_opposite_greatest K) := by
  obtain ⟨fd, F⟩ := T.f_opposite_greatest
  exact ⟨fd, fn_opposite_greatest T F, F.binds (ps := ["numbers"]) fun _ _ _ _ _ _ us hl => match us, hl with | [_], _ => rfl, F.kp⟩
end
end At

namespace At
open L2 PyProof.Rows PySem.Spec PySem
section
variable {base : Heap} {w : World} {K : PySem.W.Frag} {mg : Str → Option Value} {P : Program}
abbrev N_goes_round : List Str := ["numbers"]
theorem sc_goes_round : FnScope N_goes_round ["numbers"] (defScope s_goes_round) := ⟨rfl, rfl, rfl, by decide +kernel, rfl, by decide +kernel, by decide +kernel⟩
def sp_goes_round (K : PySem.W.Frag) : Sp := fun vs H Q _ => ∃ a t, vs = [.ref a] ∧ H a = some (.tup (tv t)) ∧ ∀ b, (b = true ↔ ring t) → Q (.bl b) H
theorem fn_goes_round (T : Top w K mg) {fd : FuncData} (F : Fun K "goes_round" "goes_round" s_goes_round (He.ga K "goes_round") fd) : FnOk P w K mg base CX0 1 (He.ga K "goes_round") fd ["numbers"] (sp_goes_round K) := by
  refine F.ok sc_goes_round (fun vs H Q E h => ?hlen) (fun cdv A outer s H vs Q E hr h => ⟨_, (pss_one (ps_ret (pe_or (pe_cmpR op_gt (pe_callB (cr_leastT rfl hr) (by rfl) T.b_min (by decide +kernel) (pa_cons (pv 0) pa_nil)) pe_int (nomark _)) (pe_one (pe_cmpR op_lt (pe_callB (cr_mostT rfl hr) (by rfl) T.b_max (by decide +kernel) (pa_cons (pv 0) pa_nil)) pe_int (nomark _)))))), ?hrd⟩)
  case hlen =>
    obtain ⟨a, t, rfl, _⟩ := h
    rfl
  case hrd =>
    obtain ⟨a, ⟨x, y, z⟩, rfl, ha, q⟩ := h
    walk_at "gos"
    refine go_leastT (n := x) (ns := [y, z]) (SqT.of ha) ?_
    have e1 : [y, z].foldl min x = min (min x y) z := rfl
    have e2 : [y, z].foldl max x = max (max x y) z := rfl
    rw [e1]
    walk_at "gos"
    refine go_ite (fun h0 => ?_) (fun h0 => ?_)
    · exact q true ⟨fun _ => .inl ⟨by omega, by omega, by omega⟩, fun _ => rfl⟩
    · walk_at "gos"
      refine go_leastT (n := x) (ns := [y, z]) (SqT.of ha) ?_
      rw [e2]
      walk_at "gos"
      refine q _ ⟨fun hd => ?_, fun hr => decide_eq_true ?_⟩
      · have hd := of_decide_eq_true hd
        exact .inr ⟨by omega, by omega, by omega⟩
      · rcases hr with ⟨h1, h2, h3⟩ | ⟨h1, h2, h3⟩ <;> omega
theorem ok_goes_round (T : Top w K mg) : OkD P w K mg base 1 (He.ga K "goes_round") ["numbers"] (sp_goes_round K) := by
  obtain ⟨fd, F⟩ := T.f_goes_round
  exact ⟨fd, fn_goes_round T F, F.binds (ps := ["numbers"]) fun _ _ _ _ _ _ us hl => match us, hl with | [_], _ => rfl, F.kp⟩
end
end At

namespace At
open L2 PyProof.Rows PySem.Spec PySem
section
variable {base : Heap} {w : World} {K : PySem.W.Frag} {mg : Str → Option Value} {P : Program}
abbrev N_place_down : List Str := ["numbers", "place", "greatest"]
theorem sc_place_down : FnScope N_place_down ["numbers"] (defScope s_place_down) := ⟨rfl, rfl, rfl, by decide +kernel, rfl, by decide +kernel, by decide +kernel⟩
def sp_place_down (K : PySem.W.Frag) : Sp := fun vs H Q _ => ∃ a t, vs = [.ref a] ∧ H a = some (.tup (tv t)) ∧ big t ≤ HUGE ∧ ∀ r H', Ext H H' → ((r = .non ∧ ∀ p, ¬ Down p t) ∨ ∃ p : P3, r = .int p.i ∧ Down p t ∧ ∀ q, Down q t → q = p) → Q r H'
theorem fn_place_down (T : Top w K mg) {fd : FuncData} (F : Fun K "place_down" "place_down" s_place_down (He.ga K "place_down") fd) : FnOk P w K mg base CX0 3 (He.ga K "place_down") fd ["numbers"] (sp_place_down K) := by
  obtain ⟨fd_sizes_of, G_sizes_of, b_sizes_of, k_sizes_of⟩ := ok_sizes_of (P := P) (w := w) (base := base) T
  obtain ⟨fd_goes_round, G_goes_round, b_goes_round, k_goes_round⟩ := ok_goes_round (P := P) (w := w) (base := base) T
  obtain ⟨fd_opposite_greatest, G_opposite_greatest, b_opposite_greatest, k_opposite_greatest⟩ := ok_opposite_greatest (P := P) (w := w) (base := base) T
  obtain ⟨fd_place_behind, G_place_behind, b_place_behind, k_place_behind⟩ := ok_place_behind (P := P) (w := w) (base := base) T
  obtain ⟨fd_place_before, G_place_before, b_place_before, k_place_before⟩ := ok_place_before (P := P) (w := w) (base := base) T
  refine F.ok sc_place_down (fun vs H Q E h => ?hlen) (fun cdv A outer s H vs Q E hr h => ⟨_, (pss_cons (ps_if (PW.pt (pw_or (pt_not (pt_val (pe_call G_goes_round (hr.mono (by decide)) (by rfl) T.g_goes_round k_goes_round b_goes_round .nil pass0 (pa_cons (pv 0) pa_nil)))) (pw_or1 (pt_cmpR op_lt (pe_callB (cr_leastT rfl hr) (by rfl) T.b_min (by decide +kernel) (pa_cons (pe_call G_sizes_of (hr.mono (by decide)) (by rfl) T.g_sizes_of k_sizes_of b_sizes_of .nil pass0 (pa_cons (pv 0) pa_nil)) pa_nil)) pe_int (nomark _))))) (pss_one (ps_ret pe_non)) pss_nil)
    (pss_cons (ps_set (i := 1) sc_place_down.nd rfl (Or.inl rfl) (pe_call G_opposite_greatest (hr.mono (by decide)) (by rfl) T.g_opposite_greatest k_opposite_greatest b_opposite_greatest .nil pass0 (pa_cons (pv 0) pa_nil)))
    (pss_cons (ps_set (i := 2) sc_place_down.nd rfl (Or.inl rfl) (pe_callB call_abs (by rfl) T.b_abs (by decide +kernel) (pa_cons (pe_ix ix_tup (pv 0) (pe_call G_place_behind (hr.mono (by decide)) (by rfl) T.g_place_behind k_place_behind b_place_behind .nil pass0 (pa_cons (pv 1) pa_nil)) (fun _ _ => rfl)) pa_nil)))
    (pss_cons (ps_if (pt_cmpR op_le (pe_op op_mul pe_int (pv 2)) (pe_op op_mulW (pe_ix ix_tup (pv 0) (pv 1) (fun _ _ => rfl)) (pe_ix ix_tup (pv 0) (pe_call G_place_before (hr.mono (by decide)) (by rfl) T.g_place_before k_place_before b_place_before .nil pass0 (pa_cons (pv 1) pa_nil)) (fun _ _ => rfl))) (nomark _)) (pss_one (ps_ret pe_non)) pss_nil)
    (pss_one (ps_ret (pv 1))))))), ?hrd⟩)
  case hlen =>
    obtain ⟨a, t, rfl, _⟩ := h
    rfl
  case hrd =>
    obtain ⟨a, t, rfl, ha, hb, q⟩ := h
    walk_at "gos"
    refine ⟨a, t, rfl, ha, fun r hr => ?_⟩
    walk_at "gos"
    cases r with
    | false =>
      walk_at "gos"
      exact q _ H (Evl.Ex.refl _) (.inl ⟨rfl, fun p d => by have := hr.mpr d.1; cases this⟩)
    | true =>
      have hring := hr.mp rfl
      walk_at "gos"
      refine ⟨a, t, rfl, ha, .inl fun p1 H1 np1 e1 h1 => ?_⟩
      walk_at "gos"
      obtain ⟨x, y, z⟩ := t
      refine go_leastT (n := nat x) (ns := [nat y, nat z]) (SqT.of h1) ?_
      have e2 : [nat y, nat z].foldl min (nat x) = min (min (nat x) (nat y)) (nat z) := rfl
      rw [e2]
      walk_at "gos"
      refine go_ite (fun c1 => ?_) (fun c1 => ?_)
      · walk_at "gos"
        exact q _ H1 e1 (.inl ⟨rfl, fun p d => absurd c1 (by
          have := d.least
          omega)⟩)
      · walk_at "gos"
        refine ⟨a, _, rfl, e1 _ _ ha, fun p H2 e3 hp => ?_⟩
        walk_at "gos"
        refine ⟨p, rfl, ?_⟩
        have ha2 := e3 _ _ (e1 _ _ ha)
        walk_at "gos"
        refine go_rIxT (SqT.of ha2) (at_opp p _) ?_
        walk_at "gos"
        refine go_rIxT (SqT.of ha2) (at_go p _) ?_
        walk_at "gos"
        refine ⟨p, rfl, ?_⟩
        walk_at "gos"
        refine go_rIxT (SqT.of ha2) (at_co p _) ?_
        walk_at "gos"
        obtain ⟨b1, b2, b3⟩ := big_at (p := p) hb
        refine go_rI (mul_ok (B := HUGE) (Int.le_refl _) b2 b1) ?_
        walk_at "gos"
        have least : ∀ s : P3, 2 ≤ nat (opp s (x, y, z)) := fun s => by
          cases s
          · show 2 ≤ nat y; omega
          · show 2 ≤ nat z; omega
          · show 2 ≤ nat x; omega
        have prod := ring_prod p hring
        refine go_ite (fun c2 => ?_) (fun c2 => ?_)
        · walk_at "gos"
          exact q _ H2 (e1.trans e3) (.inl ⟨rfl, fun s d => top_down hp c2 prod d⟩)
        · walk_at "gos"
          exact q _ H2 (e1.trans e3) (.inr ⟨p, rfl, down_of hring least c2 prod, fun s d => top_only hp d⟩)
theorem ok_place_down (T : Top w K mg) : OkD P w K mg base 3 (He.ga K "place_down") ["numbers"] (sp_place_down K) := by
  obtain ⟨fd, F⟩ := T.f_place_down
  exact ⟨fd, fn_place_down T F, F.binds (ps := ["numbers"]) fun _ _ _ _ _ _ us hl => match us, hl with | [_], _ => rfl, F.kp⟩
end
end At

namespace At
open L2 PyProof.Rows PySem.Spec PySem
section
variable {base : Heap} {w : World} {K : PySem.W.Frag} {mg : Str → Option Value} {P : Program}
abbrev N_ways_from : List Str := ["entry", "ways", "latest", "further", "numbers", "place", "behind"]
theorem sc_ways_from : FnScope N_ways_from ["entry"] (defScope s_ways_from) := ⟨rfl, rfl, rfl, by decide +kernel, rfl, by decide +kernel, by decide +kernel⟩
def sp_ways_from (K : PySem.W.Frag) : Sp := fun vs H Q _ => ∃ a e, vs = [.ref a] ∧ H a = some (.tup (tv e)) ∧ Foot e ∧ (∀ u, FR e u → big u ≤ MID) ∧ ∀ d (ms : List Mem) H', Ext H H' → H' d = some (.dT (ms.map entW)) → (ms.map fun m => m.1).Nodup → (∀ u, u ∈ ms.map (fun m => m.1) ↔ FR e u) → (∀ m ∈ ms, FW e m.2.2 m.1 ∧ m.2.2.length ≤ 36 ∧ H' m.2.1 = some (.lst (pl m.2.2))) → (∀ m ∈ ms, ∀ ps, FW e ps m.1 → m.2.2.length ≤ ps.length) → Q (.ref d) H'
theorem fn_ways_from (T : Top w K mg) {fd : FuncData} (F : Fun K "ways_from" "ways_from" s_ways_from (He.ga K "ways_from") fd) : FnOk P w K mg base CX0 4 (He.ga K "ways_from") fd ["entry"] (sp_ways_from K) := by
  obtain ⟨fd_turned_at, G_turned_at, b_turned_at, k_turned_at⟩ := ok_turned_at (P := P) (w := w) (base := base) T
  obtain ⟨fd_place_down, G_place_down, b_place_down, k_place_down⟩ := ok_place_down (P := P) (w := w) (base := base) T
  refine F.ok sc_ways_from (fun vs H Q E h => ?hlen) (fun cdv A outer s H vs Q E hr h => ⟨_, (pss_cons (ps_set (i := 1) sc_ways_from.nd rfl (Or.inl rfl) (At.pe_dict1 (hu64 hr) (pv 0) (pe_lst pa_nil)))
    (pss_cons (ps_set (i := 2) sc_ways_from.nd rfl (Or.inl rfl) (pe_lst (pa_cons (pv 0) pa_nil)))
    (pss_cons (ps_while PassesOwn.never (pt_truth (pv 2) (by intro _; rfl)) (pss_cons (ps_set (i := 3) sc_ways_from.nd rfl (Or.inl rfl) (pe_lst pa_nil))
    (pss_cons (ps_for PassesOwn.never rfl (pi_list (pv 2)) (pg_name (i := 4) sc_ways_from.nd rfl (Or.inl rfl)) (pss_one (ps_for PassesOwn.never rfl (pi_range1 (by rfl) T.b_range (pa_cons pe_int pa_nil)) (pg_name (i := 5) sc_ways_from.nd rfl (Or.inl rfl)) (pss_cons (ps_set (i := 6) sc_ways_from.nd rfl (Or.inl rfl) (pe_call G_turned_at (hr.mono (by decide)) (by rfl) T.g_turned_at k_turned_at b_turned_at .nil pass0 (pa_cons (pv 4) (pa_cons (pv 5) pa_nil))))
    (pss_one (ps_if (PW.pt (pw_and (pt_cmp (pc_dnotin (hu1 hr) (pv 6) (pv 1)) (by with_unfolding_all rfl)) (pw_and1 (pt_cmpR op_isN (pe_call G_place_down (hr.mono (by decide)) (by rfl) T.g_place_down k_place_down b_place_down .nil pass0 (pa_cons (pv 6) pa_nil)) pe_non (nomark _))))) (pss_cons (ps_dput (hu1 hr) (pv 1) (pv 6) (pe_op op_cat (pe_dget (hu1 hr) (pv 1) (pv 4) (fun _ _ => rfl)) (pe_lst (pa_cons (pv 5) pa_nil))) rfl)
    (pss_one (ps_expr (pe_bm PySem.F.plainAttrs_list PySem.F.slot_list_append PySem.F.type_list_append mt_append (pv 3) (pa_cons (pv 6) pa_nil))))) pss_nil))))))
    (pss_one (ps_set (i := 2) sc_ways_from.nd rfl (Or.inl rfl) (pv 3))))))
    (pss_one (ps_ret (pv 1)))))), ?hrd⟩)
  case hlen =>
    obtain ⟨a, e, rfl, _⟩ := h
    rfl
  case hrd =>
    obtain ⟨a, e, rfl, ha, fe, bnd, q⟩ := h
    have midh : MID ≤ HUGE := Int.le_trans mid_half half_huge
    walk_at "gos"
    intro d nd
    walk_at "gos"
    intro l0 nl0
    have d1 : upd (upd H d (.dT [])) l0 (.lst []) d = some (.dT []) := mem_new nl0 upd_same
    have a1 : upd (upd H d (.dT [])) l0 (.lst []) a = some (.tup (tv e)) := mem_new nl0 (mem_new nd ha)
    refine ⟨a, tk e, rfl, a1, d1, ?_⟩
    have ld : l0 ≠ d := (none_back nl0).2
    have l0n : H l0 = none := (none_back nl0).1
    walk_at "gos"
    intro la nla
    obtain ⟨H1, eq1⟩ : ∃ H1, upd (upd (upd (upd H d (.dT [])) l0 (.lst [])) d (.dT [(tk e, .ref l0)])) la (.lst [.ref a]) = H1 := ⟨_, rfl⟩
    have nla1 := none_back nla
    have ad : a ≠ d := fun z => by rw [z, nd] at ha; cases ha
    have lal : la ≠ l0 := (none_back nla1.1).2
    have b1 : BI H H1 d la e [(e, l0, [])] := by
      rw [← eq1]
      refine ⟨((((Evl.Ex.refl H).mut nd).mut l0n).mut nd).mut (none_back (none_back nla1.1).1).1, nd, nla1.2, by rw [upd_ne (Ne.symm nla1.2)]; exact upd_same, by simp, by simp, fun m hm => ?_⟩
      rw [List.mem_singleton.mp hm]
      exact ⟨⟨rfl, fun i h0 hi => absurd hi (by simp; omega)⟩, by simp, Ne.symm lal, by rw [upd_ne (Ne.symm lal), upd_ne ld]; exact upd_same⟩
    have t1 : TL H1 la [e] := ⟨[a], by rw [← eq1]; exact upd_same, rfl, fun i r hr => by
      match i, hr with
      | 0, hr =>
        cases Option.some.inj hr
        refine ⟨e, rfl, ?_⟩
        rw [← eq1, upd_ne (fun z => by rw [← z, upd_ne ad] at nla; rw [nla] at a1; cases a1), upd_ne ad]
        exact a1⟩
    rw [eq1]
    walk_at "gos"
    refine go_while (fun (k : Nat) (σ' : L2.St) (H' : Hp) => ∃ (la : Addr) (ms : List Mem) (xs : List T3) (y3 y4 y5 y6 : Option V), σ' = [some (.ref a), some (.ref d), some (.ref la), y3, y4, y5, y6] ∧ BI H H' d la e ms ∧ H la = none ∧ TL H' la xs ∧ (∀ x ∈ xs, x ∈ ms.map fun m => m.1) ∧ (∀ u ∈ ms.map (fun m => m.1), u ∉ xs → ∀ p, Foot (turn p u) → turn p u ∈ ms.map fun m => m.1) ∧ k = 2 * (37 - ms.length) + (if xs = [] then 0 else 1) ∧ ∃ kk, LayW e kk xs [] ms) 73 ⟨la, [(e, l0, [])], [e], _, _, _, _, rfl, b1, (none_back (none_back nla1.1).1).1, t1, (fun x hx => by rw [List.mem_singleton.mp hx]; simp), (fun u hu n => absurd hu (by simpa using n)), rfl, 0, LayW.first e l0⟩ ?_
    rintro k σ' H2 ⟨la, ms, xs, y3, y4, y5, y6, rfl, b2, la0, t2, sub, clo, rfl, kk, lay2⟩
    walk_at "gos"
    obtain ⟨rs, hla, rsl, rsx⟩ := id t2
    refine ⟨_, .inl ⟨_, SqL.of hla, rfl⟩, ?_⟩
    cases xs with
    | nil =>
      have e0 : rs = [] := List.length_eq_zero_iff.mp rsl
      rw [e0]
      refine go_iteNo rfl ?_
      walk_at "gos"
      refine q d ms H2 b2.ex b2.at_ b2.nd (fun u => ⟨fun hu => ?_, fun r => all_of b2.me (fun u hu p f => clo u hu (by simp) p f) r⟩) (fun m hm => ?_) lay2.min
      · obtain ⟨m, hm, rfl⟩ := List.mem_map.mp hu
        exact (b2.ok m hm).1.fr
      · obtain ⟨h1, h2, h3, h4⟩ := b2.ok m hm
        have := b2.few fe
        exact ⟨h1, by omega, h4⟩
    | cons x0 xs0 =>
      obtain ⟨r0, rs0, e0⟩ : ∃ r0 rs0, rs = r0 :: rs0 := by
        cases rs with
        | nil => cases rsl
        | cons r0 rs0 => exact ⟨_, _, rfl⟩
      refine go_iteYes (by rw [e0]; rfl) ?_
      obtain ⟨ys, eys⟩ : ∃ ys, x0 :: xs0 = ys := ⟨_, rfl⟩
      have yne : ys ≠ [] := by rw [← eys]; exact List.cons_ne_nil _ _
      rw [eys] at t2 sub clo rsl rsx lay2 ⊢
      have few2 := b2.few fe
      refine ⟨fun σ' H' => ∃ (fl : Addr) (ms' : List Mem) (zs : List T3) (y3 y4 y5 y6 : Option V), σ' = [some (.ref a), some (.ref d), some (.ref fl), y3, y4, y5, y6] ∧ BI H H' d fl e ms' ∧ H fl = none ∧ TL H' fl zs ∧ (∀ x ∈ zs, x ∈ ms'.map fun m => m.1) ∧ (∀ u ∈ ms'.map (fun m => m.1), u ∉ zs → ∀ p, Foot (turn p u) → turn p u ∈ ms'.map fun m => m.1) ∧ ms'.length = ms.length + zs.length ∧ LayW e (kk + 1) zs [] ms', fun σ' H' ⟨fl, ms', zs, y3, y4, y5, y6, z1, z2, z3, z4, z5, z6, z7, z8⟩ => ⟨2 * (37 - ms'.length) + (if zs = [] then 0 else 1), ?_, fl, ms', zs, y3, y4, y5, y6, z1, z2, z3, z4, z5, z6, rfl, kk + 1, z8⟩, ?_⟩
      · have few3 := z2.few fe
        rw [if_neg yne]
        cases zs with
        | nil => rw [if_pos rfl, z7]; simp
        | cons z zs => rw [if_neg (List.cons_ne_nil _ _), z7, List.length_cons]; rw [z7, List.length_cons] at few3; omega
      walk_at "gos"
      intro fl nfl
      have fl0 : H fl = none := Evl.fresh_back b2.ex nfl
      have lafl : la ≠ fl := fun z => by rw [← z, hla] at nfl; cases nfl
      have b3 : BI H (upd H2 fl (.lst [])) d fl e ms := (b2.swap nfl).ext (Evl.Ex.new nfl)
      have t3 : TL (upd H2 fl (.lst [])) la ys := t2.ext (Evl.Ex.new nfl)
      have hla3 : upd H2 fl (.lst []) la = some (.lst (rs.map .ref)) := mem_new nfl hla
      have f3 : TL (upd H2 fl (.lst [])) fl [] := TL.nil
      generalize upd H2 fl (.lst []) = H3 at b3 t3 hla3 f3 ⊢
      walk_at "gos"
      refine ⟨⟨_, SqL.of hla3⟩, ?_⟩
      refine loop_list (xs := rs.map V.ref) (fun i σ' H' => ∃ (ms' : List Mem) (zs : List T3) (y4 y5 y6 : Option V), σ' = [some (.ref a), some (.ref d), some (.ref la), some (.ref fl), y4, y5, y6] ∧ BI H H' d fl e ms' ∧ TL H' la ys ∧ H' la = some (.lst (rs.map .ref)) ∧ TL H' fl zs ∧ (∀ x ∈ ys, x ∈ ms'.map fun m => m.1) ∧ (∀ x ∈ zs, x ∈ ms'.map fun m => m.1) ∧ ms'.length = ms.length + zs.length ∧ (∀ u ∈ ms'.map (fun m => m.1), u ∉ ys.drop i → u ∉ zs → ∀ p, Foot (turn p u) → turn p u ∈ ms'.map fun m => m.1) ∧ LayW e kk ys zs ms') ⟨ms, [], _, _, _, rfl, b3, t3, hla3, f3, sub, (fun x hx => by cases hx), rfl, (fun u hu n _ p f => clo u hu n p f), lay2⟩ (fun i σ' H' _ pv => by
        obtain ⟨_, _, _, _, _, _, _, _, h, _⟩ := pv
        exact SqL.of h) (fun i x σ' H4 hx pv => ?_) ?_
      · obtain ⟨ms4, zs4, y4, y5, y6, rfl, b4, t4, hla4, f4, s4, s5, len4, clo4, lay4⟩ := pv
        rw [List.getElem?_map] at hx
        obtain ⟨r, hr, rfl⟩ := Option.map_eq_some_iff.mp hx
        obtain ⟨u, hu, hur⟩ : ∃ u, ys[i]? = some u ∧ H4 r = some (.tup (tv u)) := by
          obtain ⟨rs', h1, h2, h3⟩ := t4
          have h4 : rs'.map V.ref = rs.map V.ref := HO.lst.inj (Option.some.inj (h1.symm.trans hla4))
          have h5 : rs' = rs := by
            have inj : ∀ (l1 l2 : List Addr), l1.map V.ref = l2.map V.ref → l1 = l2 := by
              intro l1
              induction l1 with
              | nil => intro l2 h; cases l2 with
                | nil => rfl
                | cons _ _ => cases h
              | cons x l1 ih => intro l2 h; cases l2 with
                | nil => cases h
                | cons y l2 =>
                  simp only [List.map_cons, List.cons.injEq, V.ref.injEq] at h
                  rw [h.1, ih l2 h.2]
            exact inj _ _ h4
          exact h3 i r (by rw [h5]; exact hr)
        have uy : u ∈ ys := List.mem_of_getElem? hu
        walk_at "gos"
        refine And.intro (by decide) (And.intro (by decide) ?_)
        refine loop_range (fun j σ' H' => ∃ (ms' : List Mem) (zs : List T3) (y5 y6 : Option V), σ' = [some (.ref a), some (.ref d), some (.ref la), some (.ref fl), some (.ref r), y5, y6] ∧ BI H H' d fl e ms' ∧ TL H' la ys ∧ H' la = some (.lst (rs.map .ref)) ∧ TL H' fl zs ∧ H' r = some (.tup (tv u)) ∧ (∀ x ∈ ys, x ∈ ms'.map fun m => m.1) ∧ (∀ x ∈ zs, x ∈ ms'.map fun m => m.1) ∧ ms'.length = ms.length + zs.length ∧ (∀ u ∈ ms'.map (fun m => m.1), u ∉ ys.drop i → u ∉ zs → ∀ p, Foot (turn p u) → turn p u ∈ ms'.map fun m => m.1) ∧ (∀ p : P3, p.i < (j : Int) → Foot (turn p u) → turn p u ∈ ms'.map fun m => m.1) ∧ LayW e kk ys zs ms') ⟨ms4, zs4, y5, y6, rfl, b4, t4, hla4, f4, hur, s4, s5, len4, clo4, (fun p hp => absurd hp (by have := p3_ge p; omega)), lay4⟩ ?_ ?_
        · rintro j σ' H5 hj ⟨ms5, zs5, y5, y6, rfl, b5, t5, hla5, f5, hr5, s5a, s5b, len5, clo5, own5, lay5⟩
          obtain ⟨p, hp⟩ := p3_of hj
          have fru : FR e u := by
            obtain ⟨m, hm, em⟩ := List.mem_map.mp (s5a u uy)
            rw [← em]
            exact (b5.ok m hm).1.fr
          have bu := bnd u fru
          walk_at "gos"
          rw [Int.zero_add, ← hp]
          refine ⟨r, u, p, rfl, hr5, Int.le_trans bu midh, fun b H6 nb e6 hb => ?_⟩
          obtain ⟨v, ev⟩ : ∃ v, turn p u = v := ⟨_, rfl⟩
          rw [ev] at hb
          have b6 := b5.ext e6
          have next : ∀ (ms' : List Mem) (zs' : List T3), (∀ x ∈ ms5.map (fun m => m.1), x ∈ ms'.map fun m => m.1) → (Foot v → v ∈ ms'.map fun m => m.1) → ∀ q : P3, q.i < ((j + 1 : Nat) : Int) → Foot (turn q u) → turn q u ∈ ms'.map fun m => m.1 := fun ms' zs' h1 h2 q hq f => by
            by_cases z : q.i < (j : Int)
            · exact h1 _ (own5 q z f)
            · have : q = p := p3_inj (by omega)
              subst this
              rw [ev] at f ⊢
              exact h2 f
          walk_at "gos"
          refine ⟨d, _, rfl, DGet.t (k := tk v) b6.at_ hb, ?_⟩
          rw [val_is b6.nd]
          walk_at "gos"
          refine go_iteN (fun c => ?_) (fun c => ?_)
          · walk_at "gos"
            refine ⟨b, v, rfl, hb, ?_, fun r2 H7 e7 hr2 => ?_⟩
            · rw [← ev]
              exact Int.le_trans (turn_big bu) (by decide +kernel)
            have b7 := b6.ext e7
            have e67 := e6.trans e7
            walk_at "gos"
            refine ⟨rfl, ?_⟩
            rcases hr2 with ⟨rfl, fv⟩ | ⟨p2, rfl, dv, _⟩
            · rw [decide_eq_true (rfl : V.non = V.non)]
              obtain ⟨m, hm, em⟩ := List.mem_map.mp (s5a u uy)
              obtain ⟨m1, m2, m3, m4⟩ := b7.ok m hm
              have few7 := b7.few fe
              walk_at "gos"
              refine ⟨d, .ref m.2.1, rfl, .inr ⟨_, tk u, r, .inl b7.at_, rfl, e67 _ _ hr5, by rw [← em]; exact (val_some b7.nd hm).symm⟩, ?_⟩
              walk_at "gos"
              intro l1 nl1
              refine ⟨m.2.1, l1, _, _, rfl, rfl, mem_new nl1 m4, upd_same, by rw [sizeLine_eq]; simp [pl]; omega, fun l2 nl2 => ?_⟩
              walk_at "gos"
              have e78 : Ext H7 (upd (upd H7 l1 (.lst [.int p.i])) l2 (.lst (pl m.2.2 ++ [.int p.i]))) := ext_new (Evl.Ex.new nl1) nl2
              have hl2 : upd (upd H7 l1 (.lst [.int p.i])) l2 (.lst (pl m.2.2 ++ [.int p.i])) l2 = some (.lst (pl (m.2.2 ++ [p]))) := by rw [upd_same]; simp [pl]
              have fl7 : ∃ o, H7 fl = some o := by
                obtain ⟨rs', h1, _⟩ := f5.ext e67
                exact ⟨_, h1⟩
              have l2fl : l2 ≠ fl := fun z => by
                obtain ⟨o, h1⟩ := fl7
                rw [z, Evl.Ex.new nl1 _ _ h1] at nl2
                cases nl2
              obtain ⟨H8, eq8⟩ : ∃ H8, upd (upd H7 l1 (.lst [.int p.i])) l2 (.lst (pl m.2.2 ++ [.int p.i])) = H8 := ⟨_, rfl⟩
              rw [eq8] at e78 hl2
              have b8 := b7.ext e78
              have e58 := e67.trans e78
              have fw : FW e (m.2.2 ++ [p]) v := by
                rw [← ev, ← em]
                refine m1.step ?_
                rw [em, ev]
                exact fv
              have b9 := b8.put c fw (by rw [List.length_append]; exact m2) l2fl hl2
              have lad : la ≠ d := fun z => by rw [z, b5.at_] at hla5; cases hla5
              have t9 := (t5.ext e58).past (o' := .dT ((ms5 ++ [(v, l2, m.2.2 ++ [p])]).map entW)) b8.at_ (fun _ z => by cases z) lad
              have f9 := (f5.ext e58).past (o' := .dT ((ms5 ++ [(v, l2, m.2.2 ++ [p])]).map entW)) b8.at_ (fun _ z => by cases z) b8.ne
              have past9 : ∀ {x : Addr} {o : HO}, H5 x = some o → x ≠ d → upd H8 d (.dT ((ms5 ++ [(v, l2, m.2.2 ++ [p])]).map entW)) x = some o := fun {x o} h n => by
                rw [upd_ne n]
                exact e58 _ _ h
              have hb9 : upd H8 d (.dT ((ms5 ++ [(v, l2, m.2.2 ++ [p])]).map entW)) b = some (.tup (tv v)) := by
                have hb8 := e78 _ _ (e7 _ _ hb)
                rw [upd_ne (fun z => by rw [z, b8.at_] at hb8; cases hb8)]
                exact hb8
              have hla9 := past9 hla5 lad
              have rd : r ≠ d := fun z => by rw [z, b5.at_] at hr5; cases hr5
              have hr9 := past9 hr5 rd
              rw [eq8]
              refine ⟨d, _, rfl, .inr ⟨_, tk v, b, b8.at_, rfl, e78 _ _ (e7 _ _ hb), by rw [List.length_map, sizeLine_eq]; omega, rfl⟩, ?_⟩
              rw [put_new (ps := m.2.2 ++ [p]) c]
              generalize upd H8 d (.dT ((ms5 ++ [(v, l2, m.2.2 ++ [p])]).map entW)) = H9 at b9 t9 f9 hb9 hla9 hr9 ⊢
              obtain ⟨zl, hfl, zlen, f10⟩ := f9.push hb9
              walk_at "gos"
              refine go_app rfl hfl ?_
              walk_at "gos"
              refine appk hfl (by omega) ?_
              have mem10 : ∀ x ∈ ms5.map (fun m => m.1), x ∈ (ms5 ++ [(v, l2, m.2.2 ++ [p])]).map fun m => m.1 := fun x hx => by
                rw [List.map_append]
                exact List.mem_append_left _ hx
              have memv : v ∈ (ms5 ++ [(v, l2, m.2.2 ++ [p])]).map fun m => m.1 := by rw [List.map_append]; exact List.mem_append_right _ (List.mem_singleton.mpr rfl)
              refine ⟨ms5 ++ [(v, l2, m.2.2 ++ [p])], zs5 ++ [v], _, _, rfl, b9.mut fl0, t9.past hfl (fun _ z => by cases z) lafl, by rw [upd_ne lafl]; exact hla9, f10, by rw [upd_ne (fun z => by rw [z, hfl] at hr9; cases hr9)]; exact hr9, fun x hx => mem10 x (s5a x hx), fun x hx => ?_, by rw [List.length_append, List.length_append, len5, Nat.add_assoc]; rfl, fun x hx n1 n2 q f => ?_, next _ (zs5 ++ [v]) mem10 (fun _ => memv), lay5.put c s5a (by rw [List.length_append, lay5.now m hm (by rw [em]; exact uy)]; rfl)⟩
              · rcases List.mem_append.mp hx with h | h
                · exact mem10 x (s5b x h)
                · rw [List.mem_singleton.mp h]
                  exact memv
              · rw [List.map_append] at hx
                rcases List.mem_append.mp hx with h | h
                · exact mem10 _ (clo5 x h n1 (fun z => n2 (List.mem_append_left _ z)) q f)
                · exact absurd (List.mem_append_right _ (by simpa using h)) n2
            · rw [decide_eq_false (show ¬ V.int p2.i = V.non from fun z => by cases z)]
              walk_at "gos"
              exact ⟨ms5, zs5, _, _, rfl, b7, t5.ext e67, e67 _ _ hla5, f5.ext e67, e67 _ _ hr5, s5a, s5b, len5, clo5, next ms5 zs5 (fun _ h => h) (fun f => absurd dv (f p2)), lay5⟩
          · walk_at "gos"
            exact ⟨ms5, zs5, _, _, rfl, b6, t5.ext e6, e6 _ _ hla5, f5.ext e6, e6 _ _ hr5, s5a, s5b, len5, clo5, next ms5 zs5 (fun _ h => h) (fun _ => c), lay5⟩
        · rintro σ' H5 ⟨ms5, zs5, y5, y6, rfl, b5, t5, hla5, f5, hr5, s5a, s5b, len5, clo5, own5, lay5⟩
          refine ⟨ms5, zs5, _, _, _, rfl, b5, t5, hla5, f5, s5a, s5b, len5, (fun x hx n1 n2 p f => ?_), lay5⟩
          by_cases z : x = u
          · subst z
            exact own5 p (p3_lt p) f
          · refine clo5 x hx (fun h => ?_) n2 p f
            have hlt : i < ys.length := (List.getElem?_eq_some_iff.mp hu).1
            rw [List.drop_eq_getElem_cons hlt, List.mem_cons] at h
            rcases h with h | h
            · exact z (by rw [h]; exact (List.getElem?_eq_some_iff.mp hu).2)
            · exact n1 h
      · rintro σ' H4 ⟨ms4, zs4, y4, y5, y6, rfl, b4, t4, hla4, f4, s4, s5, len4, clo4, lay4⟩
        rw [List.length_map, rsl, List.drop_length] at clo4
        walk_at "gos"
        exact ⟨fl, ms4, zs4, _, _, _, _, rfl, b4, fl0, f4, s5, (fun u hu n p f => clo4 u hu (by simp) n p f), len4, lay4.round fun u hu n p f => clo4 u hu (by simp) n p f⟩
theorem ok_ways_from (T : Top w K mg) : OkD P w K mg base 4 (He.ga K "ways_from") ["entry"] (sp_ways_from K) := by
  obtain ⟨fd, F⟩ := T.f_ways_from
  exact ⟨fd, fn_ways_from T F, F.binds (ps := ["entry"]) fun _ _ _ _ _ _ us hl => match us, hl with | [_], _ => rfl, F.kp⟩
end
end At

namespace At
open L2 PyProof.Rows PySem.Spec PySem
section
variable {base : Heap} {w : World} {K : PySem.W.Frag} {mg : Str → Option Value} {P : Program}
abbrev N_partner_of : List Str := ["numbers", "place"]
theorem sc_partner_of : FnScope N_partner_of ["numbers", "place"] (defScope s_partner_of) := ⟨rfl, rfl, rfl, by decide +kernel, rfl, by decide +kernel, by decide +kernel⟩
def sp_partner_of (K : PySem.W.Frag) : Sp := fun vs H Q _ => ∃ a t p, vs = [.ref a, .int (P3.i p)] ∧ H a = some (.tup (tv t)) ∧ Q (.int (if nat (go p t) = 2 then nxt p else prv p).i) H
theorem fn_partner_of (T : Top w K mg) {fd : FuncData} (F : Fun K "partner_of" "partner_of" s_partner_of (He.ga K "partner_of") fd) : FnOk P w K mg base CX0 2 (He.ga K "partner_of") fd ["numbers", "place"] (sp_partner_of K) := by
  obtain ⟨fd_place_behind, G_place_behind, b_place_behind, k_place_behind⟩ := ok_place_behind (P := P) (w := w) (base := base) T
  obtain ⟨fd_place_before, G_place_before, b_place_before, k_place_before⟩ := ok_place_before (P := P) (w := w) (base := base) T
  refine F.ok sc_partner_of (fun vs H Q E h => ?hlen) (fun cdv A outer s H vs Q E hr h => ⟨_, (pss_cons (ps_if (pt_cmpR op_eq (pe_callB call_abs (by rfl) T.b_abs (by decide +kernel) (pa_cons (pe_ix ix_tup (pv 0) (pv 1) (fun _ _ => rfl)) pa_nil)) pe_int (nomark _)) (pss_one (ps_ret (pe_call G_place_behind (hr.mono (by decide)) (by rfl) T.g_place_behind k_place_behind b_place_behind .nil pass0 (pa_cons (pv 1) pa_nil)))) pss_nil)
    (pss_one (ps_ret (pe_call G_place_before (hr.mono (by decide)) (by rfl) T.g_place_before k_place_before b_place_before .nil pass0 (pa_cons (pv 1) pa_nil))))), ?hrd⟩)
  case hlen =>
    obtain ⟨a, t, p, rfl, _⟩ := h
    rfl
  case hrd =>
    obtain ⟨a, t, p, rfl, ha, q⟩ := h
    walk_at "gos"
    refine go_rIxT (SqT.of ha) (at_go p t) ?_
    walk_at "gos"
    refine go_ite (fun c => ?_) (fun c => ?_)
    · rw [if_pos (show nat (go p t) = 2 from c)] at q
      walk_at "gos"
      exact ⟨p, rfl, q⟩
    · rw [if_neg (show ¬ nat (go p t) = 2 from c)] at q
      walk_at "gos"
      exact ⟨p, rfl, q⟩
theorem ok_partner_of (T : Top w K mg) : OkD P w K mg base 2 (He.ga K "partner_of") ["numbers", "place"] (sp_partner_of K) := by
  obtain ⟨fd, F⟩ := T.f_partner_of
  exact ⟨fd, fn_partner_of T F, F.binds (ps := ["numbers", "place"]) fun _ _ _ _ _ _ us hl => match us, hl with | [_, _], _ => rfl, F.kp⟩
end
end At

namespace At
open L2 PyProof.Rows PySem.Spec PySem
section
variable {base : Heap} {w : World} {K : PySem.W.Frag} {mg : Str → Option Value} {P : Program}
abbrev N_even_turns : List Str := ["numbers", "place", "partner", "greatest", "difference"]
theorem sc_even_turns : FnScope N_even_turns ["numbers", "place", "partner"] (defScope s_even_turns) := ⟨rfl, rfl, rfl, by decide +kernel, rfl, by decide +kernel, by decide +kernel⟩
def sp_even_turns (K : PySem.W.Frag) : Sp := fun vs H Q _ => ∃ a t p s, vs = [.ref a, .int (P3.i p), .int (P3.i s)] ∧ H a = some (.tup (tv t)) ∧ nat (opp s t) < nat (opp p t) ∧ big t ≤ MID ∧ Q (.int ((nat (opp p t) - 2) / (nat (opp p t) - nat (opp s t)))) H
theorem fn_even_turns (T : Top w K mg) {fd : FuncData} (F : Fun K "even_turns" "even_turns" s_even_turns (He.ga K "even_turns") fd) : FnOk P w K mg base CX0 2 (He.ga K "even_turns") fd ["numbers", "place", "partner"] (sp_even_turns K) := by
  obtain ⟨fd_place_behind, G_place_behind, b_place_behind, k_place_behind⟩ := ok_place_behind (P := P) (w := w) (base := base) T
  refine F.ok sc_even_turns (fun vs H Q E h => ?hlen) (fun cdv A outer s H vs Q E hr h => ⟨_, (pss_cons (ps_set (i := 3) sc_even_turns.nd rfl (Or.inl rfl) (pe_callB call_abs (by rfl) T.b_abs (by decide +kernel) (pa_cons (pe_ix ix_tup (pv 0) (pe_call G_place_behind (hr.mono (by decide)) (by rfl) T.g_place_behind k_place_behind b_place_behind .nil pass0 (pa_cons (pv 1) pa_nil)) (fun _ _ => rfl)) pa_nil)))
    (pss_cons (ps_set (i := 4) sc_even_turns.nd rfl (Or.inl rfl) (pe_op op_sub (pv 3) (pe_callB call_abs (by rfl) T.b_abs (by decide +kernel) (pa_cons (pe_ix ix_tup (pv 0) (pe_call G_place_behind (hr.mono (by decide)) (by rfl) T.g_place_behind k_place_behind b_place_behind .nil pass0 (pa_cons (pv 2) pa_nil)) (fun _ _ => rfl)) pa_nil))))
    (pss_one (ps_ret (pe_op op_fdivW (pe_op op_sub (pv 3) pe_int) (pv 4)))))), ?hrd⟩)
  case hlen =>
    obtain ⟨a, t, p, s, rfl, _⟩ := h
    rfl
  case hrd =>
    obtain ⟨a, t, p, s, rfl, ha, lt, hb, q⟩ := h
    walk_at "gos"
    refine ⟨p, rfl, ?_⟩
    walk_at "gos"
    refine go_rIxT (SqT.of ha) (at_opp p t) ?_
    walk_at "gos"
    refine ⟨s, rfl, ?_⟩
    walk_at "gos"
    refine go_rIxT (SqT.of ha) (at_opp s t) ?_
    walk_at "gos"
    rw [show (if opp p t < 0 then -opp p t else opp p t) = nat (opp p t) from rfl, show (if opp s t < 0 then -opp s t else opp s t) = nat (opp s t) from rfl]
    have b1 := (big_at (p := p) hb).2.2
    have s0 := nat_nonneg (opp s t)
    have b2 : (nat (opp p t) - nat (opp s t)).natAbs < 2 ^ 8001 := by
      have h2 : ((nat (opp p t) - nat (opp s t)).natAbs : Int) ≤ 2 ^ 8000 := by
        have : nat (opp p t) ≤ 2 ^ 8000 := b1
        omega
      have h3 : (nat (opp p t) - nat (opp s t)).natAbs ≤ 2 ^ 8000 := by exact_mod_cast h2
      exact Nat.lt_of_le_of_lt h3 (Nat.pow_lt_pow_right (by decide) (by decide))
    exact go_rI (wide_div (by omega) b2 (by decide) (by decide)) q
theorem ok_even_turns (T : Top w K mg) : OkD P w K mg base 2 (He.ga K "even_turns") ["numbers", "place", "partner"] (sp_even_turns K) := by
  obtain ⟨fd, F⟩ := T.f_even_turns
  exact ⟨fd, fn_even_turns T F, F.binds (ps := ["numbers", "place", "partner"]) fun _ _ _ _ _ _ us hl => match us, hl with | [_, _, _], _ => rfl, F.kp⟩
end
end At

namespace At
open L2 PyProof.Rows PySem.Spec PySem
section
variable {base : Heap} {w : World} {K : PySem.W.Frag} {mg : Str → Option Value} {P : Program}
abbrev N_behind_even : List Str := ["numbers", "core", "many", "opposite_first", "opposite_second", "change", "behind", "place"]
theorem sc_behind_even : FnScope N_behind_even ["numbers", "core", "many"] (defScope s_behind_even) := ⟨rfl, rfl, rfl, by decide +kernel, rfl, by decide +kernel, by decide +kernel⟩
def sp_behind_even (K : PySem.W.Frag) : Sp := fun vs H Q _ => ∃ a l t ps m, vs = [.ref a, .ref l, .int m] ∧ H a = some (.tup (tv t)) ∧ H l = some (.lst (pl ps)) ∧ 0 < m ∧ m ≤ MID ∧ big t ≤ MID ∧ EvenOk t ps m.toNat ∧ ∀ p' H', H p' = none → Ext H H' → H' p' = some (.tup (tv (many m.toNat ps t))) → Q (.ref p') H'
theorem fn_behind_even (T : Top w K mg) {fd : FuncData} (F : Fun K "behind_even" "behind_even" s_behind_even (He.ga K "behind_even") fd) : FnOk P w K mg base CX0 2 (He.ga K "behind_even") fd ["numbers", "core", "many"] (sp_behind_even K) := by
  obtain ⟨fd_place_behind, G_place_behind, b_place_behind, k_place_behind⟩ := ok_place_behind (P := P) (w := w) (base := base) T
  refine F.ok sc_behind_even (fun vs H Q E h => ?hlen) (fun cdv A outer s H vs Q E hr h => ⟨_, (pss_cons (ps_asg (pe_lc (own := [("place", 7)]) (g := gName 7) (tt := tYes) (by rfl) sc_behind_even.nd (pi_list (pv 1)) (blkOk_by (own := [("place", 7)]) (N := N_behind_even) (sc := defScope s_behind_even) (by decide +kernel)) (fun _ _ _ _ _ => pg_name (i := 7) sc_behind_even.nd rfl (by first | exact Or.inl rfl | exact Or.inr rfl)) (fun _ _ _ _ _ => pts_nil) (fun _ _ _ _ _ => (pe_call G_place_behind (hr.mono (by decide)) (by rfl) T.g_place_behind k_place_behind b_place_behind .nil pass0 (pa_cons (pv 7) pa_nil)))) (pg_unl rfl (pgs_cons (pg_name (i := 3) sc_behind_even.nd rfl (Or.inl rfl)) (pgs_cons (pg_name (i := 4) sc_behind_even.nd rfl (Or.inl rfl)) pgs_nil))))
    (pss_cons (ps_set (i := 5) sc_behind_even.nd rfl (Or.inl rfl) (pe_op op_mulW (pe_op op_mul pe_int (pv 2)) (pe_op op_sub (pe_ix ix_tup (pv 0) (pv 4) (fun _ _ => rfl)) (pe_ix ix_tup (pv 0) (pv 3) (fun _ _ => rfl)))))
    (pss_cons (ps_set (i := 6) sc_behind_even.nd rfl (Or.inl rfl) (pe_callTy call_list_of (by rfl) T.b_list (by decide +kernel) (pa_cons (pv 0) pa_nil)))
    (pss_cons (ps_augS (pv 6) (pv 3) get_list (pv 5) ip_add set_list)
    (pss_cons (ps_augS (pv 6) (pv 4) get_list (pv 5) ip_add set_list)
    (pss_one (ps_ret (pe_callTy call_tuple_of (by rfl) T.b_tuple (by decide +kernel) (pa_cons (pv 6) pa_nil))))))))), ?hrd⟩)
  case hlen =>
    obtain ⟨a, l, t, ps, m, rfl, _⟩ := h
    rfl
  case hrd =>
    obtain ⟨a, l, t, ps, m, rfl, ha, hl, hm, hm2, hb, hev, k⟩ := h
    obtain ⟨p, q, r, rfl, n1, n2, n3, e1, e2, e3⟩ := even_end hev
    have em : ((m.toNat : Nat) : Int) = m := by omega
    rw [em] at e1 e2
    walk_at "gos"
    refine go_lc ?_
    walk_at "gos"
    refine ⟨⟨_, SqL.of hl⟩, lc_lstP hl (Nat.le_of_ble_eq_true rfl) (fun x => match x with
      | .int 0 => .int 1
      | .int 1 => .int 2
      | _ => .int 0) (fun D nD x H' hx e QE hq => ?_) fun D nD H' e hD => ?_⟩
    · obtain ⟨z, rfl⟩ : ∃ z : P3, x = .int z.i := by
        simp only [pl, List.map_cons, List.map_nil, List.mem_cons, List.not_mem_nil, or_false] at hx
        rcases hx with rfl | rfl <;> exact ⟨_, rfl⟩
      walk_at "gos"
      refine ⟨rfl, ?_⟩
      walk_at "gos"
      refine ⟨z, rfl, ?_⟩
      have := hq H' (Evl.Ex.refl _)
      cases z <;> exact this
    · have hD' : H' D = some (.lst [.int (nxt p).i, .int (nxt q).i]) := by
        rw [hD]
        cases p <;> cases q <;> rfl
      have ha' := e a _ ha
      walk_at "gos"
      refine go_gUnl (SqL.of hD') rfl ?_
      walk_at "gos"
      refine go_rIxT (SqT.of ha') (at_opp q t) ?_
      walk_at "gos"
      refine go_rIxT (SqT.of ha') (at_opp p t) ?_
      walk_at "gos"
      have b1 := (big_at (p := p) hb).2.2
      have b2 := (big_at (p := q) hb).2.2
      refine go_rI (mul_ok (B := HALF) half_huge ?_ ?_) ?_
      · have e5 : nat (2 * m) = 2 * m := by unfold nat; rw [if_neg (by omega)]
        rw [e5]
        exact Int.le_trans (show 2 * m ≤ 2 * MID by omega) (by decide +kernel)
      · have e6 := nat_add_le (opp q t) (-opp p t)
        rw [nat_neg] at e6
        rw [Int.sub_eq_add_neg]
        exact Int.le_trans (show nat (opp q t + -opp p t) ≤ 2 * MID by omega) (by decide +kernel)
      walk_at "gos"
      refine ⟨a, tv t, rfl, .inr (SqT.of ha'), fun b nb => ?_⟩
      walk_at "gos"
      refine go_rGetL (nxt_lo p) (nxt_hi p) (SqL.of upd_same) (at_opp2 p t) ?_
      walk_at "gos"
      refine go_rSetL upd_same (at_ix p t) ?_
      rw [upd_upd]
      walk_at "gos"
      refine go_rGetL (nxt_lo q) (nxt_hi q) (SqL.of upd_same) (at_opp3 n1 t _) ?_
      walk_at "gos"
      refine go_rSetL upd_same (at_ix2 q t _ _) ?_
      rw [upd_upd]
      walk_at "gos"
      rw [at_set5 n1 n2 n3 t (many m.toNat [p, q] t) e1 e2 e3]
      refine ⟨b, _, rfl, .inl ⟨SqL.of upd_same, fun l' nl => k l' _ ?_ ?_ upd_same⟩⟩
      · exact Evl.fresh_back (e.trans (Evl.Ex.new nb)) nl
      · exact ext_new (e.trans (Evl.Ex.new nb)) nl
theorem ok_behind_even (T : Top w K mg) : OkD P w K mg base 2 (He.ga K "behind_even") ["numbers", "core", "many"] (sp_behind_even K) := by
  obtain ⟨fd, F⟩ := T.f_behind_even
  exact ⟨fd, fn_behind_even T F, F.binds (ps := ["numbers", "core", "many"]) fun _ _ _ _ _ _ us hl => match us, hl with | [_, _, _], _ => rfl, F.kp⟩
end
end At

namespace At
open L2 PyProof.Rows PySem.Spec PySem
section
variable {base : Heap} {w : World} {K : PySem.W.Frag} {mg : Str → Option Value} {P : Program}
abbrev N_behind_even_t : List Str := ["numbers", "core", "many", "opposite_first", "opposite_second", "change", "behind", "place"]
theorem sc_behind_even_t : FnScope N_behind_even_t ["numbers", "core", "many"] (defScope s_behind_even) := ⟨rfl, rfl, rfl, by decide +kernel, rfl, by decide +kernel, by decide +kernel⟩
def sp_behind_even_t (K : PySem.W.Frag) : Sp := fun vs H Q _ => ∃ a l t p q m, vs = [.ref a, .ref l, .int m] ∧ H a = some (.tup (tv t)) ∧ H l = some (.tup [.int (P3.i p), .int (P3.i q)]) ∧ 0 ≤ m ∧ m ≤ MID ∧ big t ≤ MID ∧ EvenOk t [p, q] m.toNat ∧ ∀ p' H', H p' = none → Ext H H' → H' p' = some (.tup (tv (many m.toNat [p, q] t))) → Q (.ref p') H'
theorem fn_behind_even_t (T : Top w K mg) {fd : FuncData} (F : Fun K "behind_even" "behind_even" s_behind_even (He.ga K "behind_even") fd) : FnOk P w K mg base CX0 2 (He.ga K "behind_even") fd ["numbers", "core", "many"] (sp_behind_even_t K) := by
  obtain ⟨fd_place_behind, G_place_behind, b_place_behind, k_place_behind⟩ := ok_place_behind (P := P) (w := w) (base := base) T
  refine F.ok sc_behind_even_t (fun vs H Q E h => ?hlen) (fun cdv A outer s H vs Q E hr h => ⟨_, (pss_cons (ps_asg (pe_lc (own := [("place", 7)]) (g := gName 7) (tt := tYes) (by rfl) sc_behind_even_t.nd (pi_tup (pv 1)) (blkOk_by (own := [("place", 7)]) (N := N_behind_even_t) (sc := defScope s_behind_even) (by decide +kernel)) (fun _ _ _ _ _ => pg_name (i := 7) sc_behind_even_t.nd rfl (by first | exact Or.inl rfl | exact Or.inr rfl)) (fun _ _ _ _ _ => pts_nil) (fun _ _ _ _ _ => (pe_call G_place_behind (hr.mono (by decide)) (by rfl) T.g_place_behind k_place_behind b_place_behind .nil pass0 (pa_cons (pv 7) pa_nil)))) (pg_unl rfl (pgs_cons (pg_name (i := 3) sc_behind_even_t.nd rfl (Or.inl rfl)) (pgs_cons (pg_name (i := 4) sc_behind_even_t.nd rfl (Or.inl rfl)) pgs_nil))))
    (pss_cons (ps_set (i := 5) sc_behind_even_t.nd rfl (Or.inl rfl) (pe_op op_mulW (pe_op op_mul pe_int (pv 2)) (pe_op op_sub (pe_ix ix_tup (pv 0) (pv 4) (fun _ _ => rfl)) (pe_ix ix_tup (pv 0) (pv 3) (fun _ _ => rfl)))))
    (pss_cons (ps_set (i := 6) sc_behind_even_t.nd rfl (Or.inl rfl) (pe_callTy call_list_of (by rfl) T.b_list (by decide +kernel) (pa_cons (pv 0) pa_nil)))
    (pss_cons (ps_augS (pv 6) (pv 3) get_list (pv 5) ip_add set_list)
    (pss_cons (ps_augS (pv 6) (pv 4) get_list (pv 5) ip_add set_list)
    (pss_one (ps_ret (pe_callTy call_tuple_of (by rfl) T.b_tuple (by decide +kernel) (pa_cons (pv 6) pa_nil))))))))), ?hrd⟩)
  case hlen =>
    obtain ⟨a, l, t, p, q, m, rfl, _⟩ := h
    rfl
  case hrd =>
    obtain ⟨a, l, t, p0, q0, m, rfl, ha, hl, hm, hm2, hb, hev, k⟩ := h
    obtain ⟨p, q, r, ee, n1, n2, n3, e1, e2, e3⟩ := even_end hev
    simp only [List.cons.injEq, and_true] at ee
    obtain ⟨rfl, rfl⟩ := ee
    have em : ((m.toNat : Nat) : Int) = m := by omega
    rw [em] at e1 e2
    walk_at "gos"
    refine go_lc ?_
    walk_at "gos"
    refine ⟨⟨_, SqT.of hl⟩, lc_tupP hl (Nat.le_of_ble_eq_true rfl) (fun x => match x with
      | .int 0 => .int 1
      | .int 1 => .int 2
      | _ => .int 0) (fun D nD x H' hx e QE hq => ?_) fun D nD H' e hD => ?_⟩
    · obtain ⟨z, rfl⟩ : ∃ z : P3, x = .int z.i := by
        (simp only [List.mem_cons, List.not_mem_nil, or_false] at hx)
        rcases hx with rfl | rfl <;> exact ⟨_, rfl⟩
      walk_at "gos"
      refine ⟨rfl, ?_⟩
      walk_at "gos"
      refine ⟨z, rfl, ?_⟩
      have := hq H' (Evl.Ex.refl _)
      cases z <;> exact this
    · have hD' : H' D = some (.lst [.int (nxt p0).i, .int (nxt q0).i]) := by
        rw [hD]
        cases p0 <;> cases q0 <;> rfl
      have ha' := e a _ ha
      walk_at "gos"
      refine go_gUnl (SqL.of hD') rfl ?_
      walk_at "gos"
      refine go_rIxT (SqT.of ha') (at_opp q0 t) ?_
      walk_at "gos"
      refine go_rIxT (SqT.of ha') (at_opp p0 t) ?_
      walk_at "gos"
      have b1 := (big_at (p := p0) hb).2.2
      have b2 := (big_at (p := q0) hb).2.2
      refine go_rI (mul_ok (B := HALF) half_huge ?_ ?_) ?_
      · have e5 : nat (2 * m) = 2 * m := by unfold nat; rw [if_neg (by omega)]
        rw [e5]
        exact Int.le_trans (show 2 * m ≤ 2 * MID by omega) (by decide +kernel)
      · have e6 := nat_add_le (opp q0 t) (-opp p0 t)
        rw [nat_neg] at e6
        rw [Int.sub_eq_add_neg]
        exact Int.le_trans (show nat (opp q0 t + -opp p0 t) ≤ 2 * MID by omega) (by decide +kernel)
      walk_at "gos"
      refine ⟨a, tv t, rfl, .inr (SqT.of ha'), fun b nb => ?_⟩
      walk_at "gos"
      refine go_rGetL (nxt_lo p0) (nxt_hi p0) (SqL.of upd_same) (at_opp2 p0 t) ?_
      walk_at "gos"
      refine go_rSetL upd_same (at_ix p0 t) ?_
      rw [upd_upd]
      walk_at "gos"
      refine go_rGetL (nxt_lo q0) (nxt_hi q0) (SqL.of upd_same) (at_opp3 n1 t _) ?_
      walk_at "gos"
      refine go_rSetL upd_same (at_ix2 q0 t _ _) ?_
      rw [upd_upd]
      walk_at "gos"
      rw [at_set5 n1 n2 n3 t (many m.toNat [p0, q0] t) e1 e2 e3]
      refine ⟨b, _, rfl, .inl ⟨SqL.of upd_same, fun l' nl => k l' _ ?_ ?_ upd_same⟩⟩
      · exact Evl.fresh_back (e.trans (Evl.Ex.new nb)) nl
      · exact ext_new (e.trans (Evl.Ex.new nb)) nl
theorem ok_behind_even_t (T : Top w K mg) : OkD P w K mg base 2 (He.ga K "behind_even") ["numbers", "core", "many"] (sp_behind_even_t K) := by
  obtain ⟨fd, F⟩ := T.f_behind_even
  exact ⟨fd, fn_behind_even_t T F, F.binds (ps := ["numbers", "core", "many"]) fun _ _ _ _ _ _ us hl => match us, hl with | [_, _, _], _ => rfl, F.kp⟩
end
end At

namespace At
open L2 PyProof.Rows PySem.Spec PySem
section
variable {base : Heap} {w : World} {K : PySem.W.Frag} {mg : Str → Option Value} {P : Program}
abbrev N_Way___init__ : List Str := ["self", "entry", "pair", "many", "above"]
theorem sc_Way___init__ : FnScope N_Way___init__ ["self", "entry", "pair", "many", "above"] (defScope s_Way___init__) := ⟨rfl, rfl, rfl, by decide +kernel, rfl, by decide +kernel, by decide +kernel⟩
def sp_Way___init__ (K : PySem.W.Frag) : Sp := fun vs H Q _ => ∃ s dx v1 v2 v3 v4 H1, vs = [.ref s, v1, v2, v3, v4] ∧ H s = some (.ins (He.ga K "Way") dx []) ∧ Ext H1 H ∧ H1 s = none ∧ ∀ H', Ext H1 H' → H' s = some (.ins (He.ga K "Way") dx [("entry", v1), ("pair", v2), ("many", v3), ("above", v4)]) → Q .non H'
theorem fn_Way___init__ (T : Top w K mg) {fd : FuncData} (F : Fun K "__init__" "Way.__init__" s_Way___init__ (method K "Way" "__init__") fd) : FnOk P w K mg base CX0 1 (method K "Way" "__init__") fd ["self", "entry", "pair", "many", "above"] (sp_Way___init__ K) := by
  refine F.ok sc_Way___init__ (fun vs H Q E h => ?hlen) (fun cdv A outer s H vs Q E hr h => ⟨_, (pss_cons (ps_fld (pv 0) (pv 1) rfl)
    (pss_cons (ps_fld (pv 0) (pv 2) rfl)
    (pss_cons (ps_fld (pv 0) (pv 3) rfl)
    (pss_one (ps_fld (pv 0) (pv 4) rfl))))), ?hrd⟩)
  case hlen =>
    obtain ⟨s, dx, v1, v2, v3, v4, H1, rfl, _⟩ := h
    rfl
  case hrd =>
    obtain ⟨s, dx, v1, v2, v3, v4, H1, rfl, hs, e1, n1, q⟩ := h
    walk_at "gos"
    refine ⟨s, _, dx, _, rfl, hs, T.c_Way, T.na_Wayentry, by decide, ?_⟩
    walk_at "gos"
    refine ⟨s, _, dx, _, rfl, upd_same, T.c_Way, T.na_Waypair, Nat.le_of_ble_eq_true rfl, ?_⟩
    walk_at "gos"
    refine ⟨s, _, dx, _, rfl, upd_same, T.c_Way, T.na_Waymany, Nat.le_of_ble_eq_true rfl, ?_⟩
    walk_at "gos"
    refine ⟨s, _, dx, _, rfl, upd_same, T.c_Way, T.na_Wayabove, Nat.le_of_ble_eq_true rfl, ?_⟩
    refine q _ ((((e1.mut n1).mut n1).mut n1).mut n1) ?_
    rw [upd_same]
    rfl
theorem ok_Way___init__ (T : Top w K mg) : OkD P w K mg base 1 (method K "Way" "__init__") ["self", "entry", "pair", "many", "above"] (sp_Way___init__ K) := by
  obtain ⟨fd, F⟩ := T.f_Way___init__
  exact ⟨fd, fn_Way___init__ T F, F.binds (ps := ["self", "entry", "pair", "many", "above"]) fun _ _ _ _ _ _ us hl => match us, hl with | [_, _, _, _, _], _ => rfl, F.kp⟩
end
end At

namespace At
open L2 PyProof.Rows PySem.Spec PySem
section
variable {base : Heap} {w : World} {K : PySem.W.Frag} {mg : Str → Option Value} {P : Program}
abbrev N_way_to : List Str := ["numbers", "above", "place", "partner", "many", "entry"]
theorem sc_way_to : FnScope N_way_to ["numbers"] (defScope s_way_to) := ⟨rfl, rfl, rfl, by decide +kernel, rfl, by decide +kernel, by decide +kernel⟩
def sp_way_to (K : PySem.W.Frag) : Sp := fun vs H Q _ => ∃ a t, vs = [.ref a] ∧ H a = some (.tup (tv t)) ∧ big t ≤ GR ∧ ∀ w dx en pr ab us m p s b H', Ext H H' → H' w = some (.ins (He.ga K "Way") dx [("entry", .ref en), ("pair", .ref pr), ("many", .int (m : Nat)), ("above", .ref ab)]) → H' en = some (.tup (tv b)) → H' pr = some (.tup (if m = 0 then [] else pairW m p s)) → H' ab = some (.lst (pl us.reverse)) → us.length ≤ 2000 → (m : Int) ≤ MID → p ≠ s → Dw (us ++ alt m p s) t b → Foot b → Hi us t → Q (.ref w) H'
theorem fn_way_to (T : Top w K mg) {fd : FuncData} (F : Fun K "way_to" "way_to" s_way_to (He.ga K "way_to") fd) : FnOk P w K mg base CX0 4 (He.ga K "way_to") fd ["numbers"] (sp_way_to K) := by
  obtain ⟨fd_place_down, G_place_down, b_place_down, k_place_down⟩ := ok_place_down (P := P) (w := w) (base := base) T
  obtain ⟨fd_sizes_of, G_sizes_of, b_sizes_of, k_sizes_of⟩ := ok_sizes_of (P := P) (w := w) (base := base) T
  obtain ⟨fd_turned_at, G_turned_at, b_turned_at, k_turned_at⟩ := ok_turned_at (P := P) (w := w) (base := base) T
  obtain ⟨fd_Way___init__, G_Way___init__, b_Way___init__, k_Way___init__⟩ := ok_Way___init__ (P := P) (w := w) (base := base) T
  obtain ⟨fd_partner_of, G_partner_of, b_partner_of, k_partner_of⟩ := ok_partner_of (P := P) (w := w) (base := base) T
  obtain ⟨fd_even_turns, G_even_turns, b_even_turns, k_even_turns⟩ := ok_even_turns (P := P) (w := w) (base := base) T
  obtain ⟨fd_behind_even_t, G_behind_even_t, b_behind_even_t, k_behind_even_t⟩ := ok_behind_even_t (P := P) (w := w) (base := base) T
  refine F.ok sc_way_to (fun vs H Q E h => ?hlen) (fun cdv A outer s H vs Q E hr h => ⟨_, (pss_cons (ps_set (i := 1) sc_way_to.nd rfl (Or.inl rfl) (pe_lst pa_nil))
    (pss_cons (ps_set (i := 2) sc_way_to.nd rfl (Or.inl rfl) (pe_call G_place_down (hr.mono (by decide)) (by rfl) T.g_place_down k_place_down b_place_down .nil pass0 (pa_cons (pv 0) pa_nil)))
    (pss_cons (ps_while PassesOwn.never (PW.pt (pw_and (pt_cmpR op_notN (pv 2) pe_non (nomark _)) (pw_and1 (pt_cmpR op_gt (pe_callB (cr_leastT rfl hr) (by rfl) T.b_min (by decide +kernel) (pa_cons (pe_call G_sizes_of (hr.mono (by decide)) (by rfl) T.g_sizes_of k_sizes_of b_sizes_of .nil pass0 (pa_cons (pv 0) pa_nil)) pa_nil)) pe_int (nomark _))))) (pss_cons (ps_expr (pe_bm PySem.F.plainAttrs_list PySem.F.slot_list_append PySem.F.type_list_append mt_append (pv 1) (pa_cons (pv 2) pa_nil)))
    (pss_cons (ps_set (i := 0) sc_way_to.nd rfl (Or.inl rfl) (pe_call G_turned_at (hr.mono (by decide)) (by rfl) T.g_turned_at k_turned_at b_turned_at .nil pass0 (pa_cons (pv 0) (pa_cons (pv 2) pa_nil))))
    (pss_one (ps_set (i := 2) sc_way_to.nd rfl (Or.inl rfl) (pe_call G_place_down (hr.mono (by decide)) (by rfl) T.g_place_down k_place_down b_place_down .nil pass0 (pa_cons (pv 0) pa_nil)))))))
    (pss_cons (ps_set (i := 1) sc_way_to.nd rfl (Or.inl rfl) (pe_revL (pv 1)))
    (pss_cons (ps_if (pt_cmpR op_isN (pv 2) pe_non (nomark _)) (pss_one (ps_ret (pe_make T.m_Way G_Way___init__ (hr.mono (by decide)) (by rfl) T.g_Way b_Way___init__ .nil pass0 (pa_cons (pv 0) (pa_cons (pe_tup pa_nil) (pa_cons pe_int (pa_cons (pv 1) pa_nil))))))) pss_nil)
    (pss_cons (ps_set (i := 3) sc_way_to.nd rfl (Or.inl rfl) (pe_call G_partner_of (hr.mono (by decide)) (by rfl) T.g_partner_of k_partner_of b_partner_of .nil pass0 (pa_cons (pv 0) (pa_cons (pv 2) pa_nil))))
    (pss_cons (ps_set (i := 4) sc_way_to.nd rfl (Or.inl rfl) (pe_call G_even_turns (hr.mono (by decide)) (by rfl) T.g_even_turns k_even_turns b_even_turns .nil pass0 (pa_cons (pv 0) (pa_cons (pv 2) (pa_cons (pv 3) pa_nil)))))
    (pss_cons (ps_set (i := 5) sc_way_to.nd rfl (Or.inl rfl) (pe_call G_behind_even_t (hr.mono (by decide)) (by rfl) T.g_behind_even k_behind_even_t b_behind_even_t .nil pass0 (pa_cons (pv 0) (pa_cons (pe_tup (pa_cons (pv 2) (pa_cons (pv 3) pa_nil))) (pa_cons (pe_op op_fdivN (pv 4) pe_int) pa_nil)))))
    (pss_cons (ps_if (pt_cmpR op_eq (pe_op op_modN (pv 4) pe_int) pe_int (nomark _)) (pss_one (ps_ret (pe_make T.m_Way G_Way___init__ (hr.mono (by decide)) (by rfl) T.g_Way b_Way___init__ .nil pass0 (pa_cons (pe_call G_turned_at (hr.mono (by decide)) (by rfl) T.g_turned_at k_turned_at b_turned_at .nil pass0 (pa_cons (pv 5) (pa_cons (pv 2) pa_nil))) (pa_cons (pe_tup (pa_cons (pv 2) (pa_cons (pv 3) pa_nil))) (pa_cons (pv 4) (pa_cons (pv 1) pa_nil))))))) pss_nil)
    (pss_one (ps_ret (pe_make T.m_Way G_Way___init__ (hr.mono (by decide)) (by rfl) T.g_Way b_Way___init__ .nil pass0 (pa_cons (pv 5) (pa_cons (pe_tup (pa_cons (pv 3) (pa_cons (pv 2) pa_nil))) (pa_cons (pv 4) (pa_cons (pv 1) pa_nil)))))))))))))))), ?hrd⟩)
  case hlen =>
    obtain ⟨a, t, rfl, _⟩ := h
    rfl
  case hrd =>
    obtain ⟨a, t, rfl, ha, hb, q⟩ := h
    have grh : GR ≤ HUGE := by decide +kernel
    have grm : GR ≤ MID := by decide +kernel
    walk_at "gos"
    intro ab nab
    walk_at "gos"
    refine ⟨a, t, rfl, mem_new nab ha, Int.le_trans hb grh, fun r H1 e1 hr => ?_⟩
    have hab1 := e1 _ _ (upd_same (H := H) (a := ab) (o := .lst []))
    have eH1 : Ext H H1 := (Evl.Ex.new nab).trans e1
    walk_at "gos"
    refine go_while (fun (k : Nat) (σ' : L2.St) (H' : Hp) => ∃ a' t' r y3 y4 y5 us, σ' = [some (.ref a'), some (.ref ab), some r, y3, y4, y5] ∧ Ext H H' ∧ H' ab = some (.lst (pl us)) ∧ H' a' = some (.tup (tv t')) ∧ Dw us t t' ∧ ((r = .non ∧ Foot t') ∨ ∃ p : P3, r = .int p.i ∧ Down p t') ∧ (∀ p, Down p t' → (3 : Int) ^ us.length * nat (opp p t') ≤ 2 ^ us.length * GR) ∧ (us.length ≤ 2000 ∧ Hi us t) ∧ k = (szsum t').toNat) (szsum t).toNat ⟨a, t, r, _, _, _, [], rfl, eH1, hab1, e1 _ _ (mem_new nab ha), rfl, by
      rcases hr with ⟨h1, h2⟩ | ⟨p, h1, h2, _⟩
      · exact .inl ⟨h1, h2⟩
      · exact .inr ⟨p, h1, h2⟩, fun p d => by
      have := (big_at (p := p) hb).2.2
      simp only [List.length_nil, Int.pow_zero, Int.one_mul]
      exact this, ⟨Nat.zero_le _, fun i hi => absurd hi (Nat.not_lt_zero _)⟩, rfl⟩ ?_
    rintro k σ' H2 ⟨a', t', r', y3, y4, y5, us, rfl, e2, hab, ha', dw, hr', far, ⟨len, hi⟩, rfl⟩
    have bt' : big t' ≤ GR := Int.le_trans dw.big hb
    have fin : ∀ (ab2 : Addr) (w dx en pr : Addr) (m : Nat) (p s : P3) (b : T3) (H' : Hp), Ext H H' → H' w = some (.ins (He.ga K "Way") dx [("entry", .ref en), ("pair", .ref pr), ("many", .int (m : Nat)), ("above", .ref ab2)]) → H' en = some (.tup (tv b)) → H' pr = some (.tup (if m = 0 then [] else pairW m p s)) → H' ab2 = some (.lst (pl us.reverse)) → (m : Int) ≤ MID → p ≠ s → Dw (alt m p s) t' b → Foot b → Q (.ref w) H' := fun ab2 w dx en pr m p s b H' h1 h2 h3 h4 h5 h6 h7 h8 h9 => q w dx en pr ab2 us m p s b H' h1 h2 h3 h4 h5 len h6 h7 (dw.append h8) h9 hi
    walk_at "gos"
    rcases hr' with ⟨rfl, ft⟩ | ⟨p, rfl, d⟩
    · -- of the foot
      refine ⟨rfl, ?_⟩
      rw [decide_eq_true (rfl : V.non = V.non)]
      walk_at "gos"
      refine ⟨ab, _, rfl, SqL.of hab, fun ab2 nab2 => ?_⟩
      walk_at "gos"
      refine ⟨rfl, ?_⟩
      rw [decide_eq_true (rfl : V.non = V.non)]
      walk_at "gos"
      intro pr npr
      walk_at "gos"
      intro x dx nx nd hne
      refine ⟨x, dx, .ref a', .ref pr, .int 0, .ref ab2, _, rfl, upd_same, (Evl.Ex.new nd).mut nx, nx, fun H' e' h' => ⟨rfl, ?_⟩⟩
      have e3 := ext_new (o := .tup []) (ext_new (o := .lst (pl us).reverse) e2 nab2) npr
      exact fin ab2 x dx a' pr 0 .a .b t' H' (e3.trans e') h' (e' _ _ (mem_new npr (mem_new nab2 ha'))) (e' _ _ upd_same) (by rw [← pl_rev]; exact e' _ _ (mem_new npr upd_same)) (by decide +kernel) (by decide) rfl ft
    · refine ⟨rfl, ?_⟩
      rw [decide_eq_false (show ¬ V.int p.i = V.non from fun z => by cases z)]
      walk_at "gos"
      refine ⟨a', t', rfl, ha', .inl fun p1 H3 np e3 h1 => ?_⟩
      walk_at "gos"
      refine go_leastT (n := nat t'.1) (ns := [nat t'.2.1, nat t'.2.2]) (SqT.of h1) ?_
      rw [show [nat t'.2.1, nat t'.2.2].foldl min (nat t'.1) = min (min (nat t'.1) (nat t'.2.1)) (nat t'.2.2) from rfl]
      walk_at "gos"
      have ha3 := e3 _ _ ha'
      have hab3 := e3 _ _ hab
      have e23 := e2.trans e3
      refine go_ite (fun c => ?_) (fun c => ?_)
      · -- one more turn
        have c3 := min_three.mp c
        have k1 : 3 ≤ nat (co p t') := by rw [co_opp]; exact c3 _
        have k2 : 3 ≤ nat (go p t') := by rw [go_opp]; exact c3 _
        have k3 : 3 ≤ nat (opp p t') := c3 p
        have len1 := far_bound len k3 (far p d)
        have less := down_less d
        have sz0 : ∀ t : T3, 0 ≤ szsum t := fun t => by
          unfold szsum
          have := nat_nonneg t.1
          have := nat_nonneg t.2.1
          have := nat_nonneg t.2.2
          omega
        have sz1 := sz0 (turn p t')
        refine ⟨fun σ' H' => ∃ a' t'' r y3 y4 y5 us', σ' = [some (.ref a'), some (.ref ab), some r, y3, y4, y5] ∧ Ext H H' ∧ H' ab = some (.lst (pl us')) ∧ H' a' = some (.tup (tv t'')) ∧ Dw us' t t'' ∧ ((r = .non ∧ Foot t'') ∨ ∃ p : P3, r = .int p.i ∧ Down p t'') ∧ (∀ p, Down p t'' → (3 : Int) ^ us'.length * nat (opp p t'') ≤ 2 ^ us'.length * GR) ∧ (us'.length ≤ 2000 ∧ Hi us' t) ∧ t'' = turn p t', fun σ' H' ⟨a', t'', r, y3, y4, y5, us', z1, z2, z3, z4, z5, z6, z7, z8, z9⟩ => ⟨(szsum t'').toNat, by rw [z9]; omega, a', t'', r, y3, y4, y5, us', z1, z2, z3, z4, z5, z6, z7, z8, rfl⟩, ?_⟩
        walk_at "gos"
        refine go_app rfl hab3 ?_
        walk_at "gos"
        refine appk hab3 (by simp [pl]; omega) ?_
        have n_ab : H ab = none := nab
        have h4 : (upd H3 ab (.lst (pl us ++ [.int p.i]))) a' = some (.tup (tv t')) := by
          rw [upd_ne (fun z => by rw [z, hab3] at ha3; cases ha3)]
          exact ha3
        walk_at "gos"
        refine ⟨a', t', p, rfl, h4, Int.le_trans bt' grh, fun p2 H5 np2 e5 hp2 => ?_⟩
        walk_at "gos"
        refine ⟨p2, turn p t', rfl, hp2, Int.le_trans (Int.le_trans (down_big d) bt') grh, fun r H6 e6 hr6 => ?_⟩
        have dw' : Dw (us ++ [p]) t (turn p t') := dw.append ⟨d, rfl⟩
        refine ⟨p2, turn p t', r, _, _, _, us ++ [p], rfl, ((e23.mut nab).trans e5).trans e6, e6 _ _ (e5 _ _ (by rw [upd_same]; simp [pl])), e6 _ _ hp2, dw', ?_, fun q dq => ?_, ⟨by rw [List.length_append]; exact len1, hi.push dw c3 p⟩, rfl⟩
        · rcases hr6 with ⟨h1, h2⟩ | ⟨p', h1, h2, _⟩
          · exact .inl ⟨h1, h2⟩
          · exact .inr ⟨p', h1, h2⟩
        · rw [List.length_append]
          exact far_step d k1 k2 (far p d) dq
      · -- a tie of two arrows
        have m2 : nat (co p t') = 2 ∨ nat (go p t') = 2 := by
          have t1 := d.top
          have t2 := d.2.1
          have t3 := d.2.2.1
          by_cases z : nat (co p t') = 2
          · exact .inl z
          · by_cases y : nat (go p t') = 2
            · exact .inr y
            · refine absurd (min_three.mpr fun s => ?_) c
              rcases three p s with rfl | rfl | rfl
              · omega
              · rw [← co_opp]; omega
              · rw [← go_opp]; omega
        obtain ⟨s, x, es, h1, h2, h3, hx⟩ : ∃ s x, (if nat (go p t') = 2 then nxt p else prv p) = s ∧ p ≠ s ∧ s ≠ x ∧ p ≠ x ∧ nat (opp x t') = 2 := by
          obtain ⟨n1, n2, n3⟩ := alt_ne p
          by_cases y : nat (go p t') = 2
          · exact ⟨nxt p, prv p, if_pos y, n1, n3, n2, by rw [← go_opp]; exact y⟩
          · exact ⟨prv p, nxt p, if_neg y, n2, Ne.symm n3, n1, by rw [← co_opp]; omega⟩
        obtain ⟨m, ev⟩ := even_at d h1 h2 h3 hx
        have mm : (m : Int) ≤ MID := Int.le_trans ev.most (Int.le_trans (Int.le_trans (big_at (p := p) (Int.le_refl _)).2.2 bt') grm)
        have m0 := ev.pos
        walk_at "gos"
        refine ⟨ab, _, rfl, SqL.of hab3, fun ab2 nab2 => ?_⟩
        walk_at "gos"
        refine ⟨rfl, ?_⟩
        rw [decide_eq_false (show ¬ V.int p.i = V.non from fun z => by cases z)]
        have ha4 := mem_new (u := .lst (pl us).reverse) nab2 ha3
        have hab4 : upd H3 ab2 (.lst (pl us).reverse) ab2 = some (.lst (pl us.reverse)) := by rw [upd_same, pl_rev]
        have e4 := ext_new (o := .lst (pl us).reverse) e23 nab2
        generalize upd H3 ab2 (.lst (pl us).reverse) = H4 at ha4 hab4 e4 ⊢
        walk_at "gos"
        refine ⟨a', t', p, rfl, ha4, ?_⟩
        rw [es]
        walk_at "gos"
        refine ⟨a', t', p, s, rfl, ha4, ev.lt, Int.le_trans bt' grm, ?_⟩
        rw [ev.told]
        walk_at "gos"
        intro tp ntp
        walk_at "gos"
        have fm : ((m : Int).fdiv 2) = ((m / 2 : Nat) : Int) := by rw [Int.fdiv_eq_ediv_of_nonneg _ (by decide)]; rfl
        have fr : ((m : Int).fmod 2) = ((m % 2 : Nat) : Int) := by rw [Int.fmod_eq_emod_of_nonneg _ (by decide)]; rfl
        rw [fm]
        have bb : big (At.walk t' (alt m p s)) ≤ GR := Int.le_trans ev.dw.big bt'
        have wa := walk_alt m p s t'
        refine ⟨a', tp, t', p, s, ((m / 2 : Nat) : Int), rfl, mem_new ntp ha4, upd_same, by omega, by omega, Int.le_trans bt' grm, by rw [Int.toNat_natCast]; exact ev.ok, fun en H5 nen e5 hen => ?_⟩
        rw [Int.toNat_natCast] at hen
        have e45 := (ext_new (o := .tup [.int p.i, .int s.i]) e4 ntp).trans e5
        have hab5 := e5 _ _ (mem_new (u := .tup [.int p.i, .int s.i]) ntp hab4)
        walk_at "gos"
        rw [fr]
        refine go_ite (fun c2 => ?_) (fun c2 => ?_)
        · have od : m % 2 = 1 := by omega
          rw [if_pos od] at wa
          walk_at "gos"
          refine ⟨en, _, p, rfl, hen, ?_, fun en2 H6 n6 e6 h6 => ?_⟩
          · have e0 : many (m / 2) [p, s] t' = turn p (At.walk t' (alt m p s)) := by rw [wa, turn_turn]
            rw [e0]
            exact Int.le_trans (turn_big bb) (by decide +kernel)
          · walk_at "gos"
            intro tq ntq
            walk_at "gos"
            intro x dx nx nd hne
            refine ⟨x, dx, .ref en2, .ref tq, .int m, .ref ab2, _, rfl, upd_same, (Evl.Ex.new nd).mut nx, nx, fun H' e' h' => ⟨rfl, ?_⟩⟩
            have e7 := ext_new (o := .tup [.int p.i, .int s.i]) (e45.trans e6) ntq
            exact fin ab2 x dx en2 tq m p s _ H' (e7.trans e') h' (e' _ _ (mem_new ntq (by rw [wa]; exact h6))) (by rw [if_neg (by omega), pairW, if_pos od]; exact e' _ _ upd_same) (e' _ _ (mem_new ntq (e6 _ _ hab5))) mm h1 ev.dw ev.end_
        · have od : ¬ m % 2 = 1 := by omega
          rw [if_neg od] at wa
          walk_at "gos"
          intro tq ntq
          walk_at "gos"
          intro x dx nx nd hne
          refine ⟨x, dx, .ref en, .ref tq, .int m, .ref ab2, _, rfl, upd_same, (Evl.Ex.new nd).mut nx, nx, fun H' e' h' => ⟨rfl, ?_⟩⟩
          have e7 := ext_new (o := .tup [.int s.i, .int p.i]) e45 ntq
          exact fin ab2 x dx en tq m p s _ H' (e7.trans e') h' (e' _ _ (mem_new ntq (by rw [wa]; exact hen))) (by rw [if_neg (by omega), pairW, if_neg od]; exact e' _ _ upd_same) (e' _ _ (mem_new ntq hab5)) mm h1 ev.dw ev.end_
theorem ok_way_to (T : Top w K mg) : OkD P w K mg base 4 (He.ga K "way_to") ["numbers"] (sp_way_to K) := by
  obtain ⟨fd, F⟩ := T.f_way_to
  exact ⟨fd, fn_way_to T F, F.binds (ps := ["numbers"]) fun _ _ _ _ _ _ us hl => match us, hl with | [_], _ => rfl, F.kp⟩
end
end At

namespace At
open L2 PyProof.Rows PySem.Spec PySem
section
variable {base : Heap} {w : World} {K : PySem.W.Frag} {mg : Str → Option Value} {P : Program}
abbrev N_foot_of : List Str := ["numbers"]
theorem sc_foot_of : FnScope N_foot_of ["numbers"] (defScope s_foot_of) := ⟨rfl, rfl, rfl, by decide +kernel, rfl, by decide +kernel, by decide +kernel⟩
def sp_foot_of (K : PySem.W.Frag) : Sp := fun vs H Q _ => ∃ a t, vs = [.ref a] ∧ H a = some (.tup (tv t)) ∧ big t ≤ GR ∧ ∀ l us n b H', Ext H H' → TL H' l us → us.Nodup → Way n t b → (∀ u, u ∈ us ↔ FR b u) → H l = none → Q (.ref l) H'
theorem fn_foot_of (T : Top w K mg) {fd : FuncData} (F : Fun K "foot_of" "foot_of" s_foot_of (He.ga K "foot_of") fd) : FnOk P w K mg base CX0 5 (He.ga K "foot_of") fd ["numbers"] (sp_foot_of K) := by
  obtain ⟨fd_ways_from, G_ways_from, b_ways_from, k_ways_from⟩ := ok_ways_from (P := P) (w := w) (base := base) T
  obtain ⟨fd_way_to, G_way_to, b_way_to, k_way_to⟩ := ok_way_to (P := P) (w := w) (base := base) T
  refine F.ok sc_foot_of (fun vs H Q E h => ?hlen) (fun cdv A outer s H vs Q E hr h => ⟨_, (pss_one (ps_ret (pe_callTy (call_list_dT rfl) (by rfl) T.b_list (by decide +kernel) (pa_cons (pe_call G_ways_from (hr.mono (by decide)) (by rfl) T.g_ways_from k_ways_from b_ways_from .nil pass0 (pa_cons (pe_fld (pe_call G_way_to (hr.mono (by decide)) (by rfl) T.g_way_to k_way_to b_way_to .nil pass0 (pa_cons (pv 0) pa_nil)) rfl) pa_nil)) pa_nil)))), ?hrd⟩)
  case hlen =>
    obtain ⟨a, t, rfl, _⟩ := h
    rfl
  case hrd =>
    obtain ⟨a, t, rfl, ha, hb, q⟩ := h
    walk_at "gos"
    refine ⟨a, t, rfl, ha, hb, fun x dx en pr ab us m p s b H1 e1 hx hen hpr hab _ _ _ dw fb _ => ?_⟩
    refine ⟨x, _, dx, _, _, rfl, hx, T.c_Way, T.na_Wayentry, rfl, ?_⟩
    have bmk : 4 * mk b ≤ 3 * (BB * BB) := by
      have := mk_bb hb
      rw [← dw.walk, mk_walk]
      exact this
    have bb : big b ≤ BB := Int.le_trans dw.big (Int.le_trans hb gr_bb)
    refine ⟨en, b, rfl, hen, fb, fun u r => Int.le_trans (r.big (B := BB) (by decide +kernel) bmk bb) bb_mid, fun d ms H2 e2 hd nd all ok _ => ?_⟩
    refine ⟨d, _, rfl, .inl hd, fun l bs nl keys => ?_⟩
    refine q l (ms.map fun m => m.1) _ b _ (ext_new (e1.trans e2) nl) ?_ nd (dw.way fb) all (Evl.fresh_back (e1.trans e2) nl)
    obtain ⟨h1, h2⟩ := keys_tl keys
    exact ⟨bs, upd_same, by rw [h1, List.length_map], fun i r hr => by
      obtain ⟨u, h3, h4⟩ := h2 i r hr
      exact ⟨u, h3, mem_new nl h4⟩⟩
theorem ok_foot_of (T : Top w K mg) : OkD P w K mg base 5 (He.ga K "foot_of") ["numbers"] (sp_foot_of K) := by
  obtain ⟨fd, F⟩ := T.f_foot_of
  exact ⟨fd, fn_foot_of T F, F.binds (ps := ["numbers"]) fun _ _ _ _ _ _ us hl => match us, hl with | [_], _ => rfl, F.kp⟩
end
end At

namespace At
open L2 PyProof.Rows PySem.Spec PySem
section
variable {base : Heap} {w : World} {K : PySem.W.Frag} {mg : Str → Option Value} {P : Program}
abbrev N_Standing_numbers : List Str := ["self"]
theorem sc_Standing_numbers : FnScope N_Standing_numbers ["self"] (defScope s_Standing_numbers) := ⟨rfl, rfl, rfl, by decide +kernel, rfl, by decide +kernel, by decide +kernel⟩
def sp_Standing_numbers (K : PySem.W.Frag) : Sp := fun vs H Q _ => ∃ s t, vs = [.ref s] ∧ StAt K H s t ∧ ∀ n, H n = some (.tup (tv t)) → Q (.ref n) H
theorem fn_Standing_numbers (T : Top w K mg) {fd : FuncData} (F : Fun K "numbers" "Standing.numbers" s_Standing_numbers (getter K "Standing" "numbers") fd) : FnOk P w K mg base CX0 1 (getter K "Standing" "numbers") fd ["self"] (sp_Standing_numbers K) := by
  refine F.ok sc_Standing_numbers (fun vs H Q E h => ?hlen) (fun cdv A outer s H vs Q E hr h => ⟨_, (pss_one (ps_ret (pe_fld (pv 0) rfl))), ?hrd⟩)
  case hlen =>
    obtain ⟨s, t, rfl, _⟩ := h
    rfl
  case hrd =>
    obtain ⟨s, t, rfl, ⟨dx, n, hs, hn⟩, q⟩ := h
    walk_at "gos"
    exact ⟨s, _, dx, _, _, rfl, hs, T.c_Standing, T.na_Standing_numbers, rfl, q n hn⟩
theorem ok_Standing_numbers (T : Top w K mg) : OkD P w K mg base 1 (getter K "Standing" "numbers") ["self"] (sp_Standing_numbers K) := by
  obtain ⟨fd, F⟩ := T.f_Standing_numbers
  exact ⟨fd, fn_Standing_numbers T F, F.binds (ps := ["self"]) fun _ _ _ _ _ _ us hl => match us, hl with | [_], _ => rfl, F.kp⟩
end
end At

namespace At
open L2 PyProof.Rows PySem.Spec PySem
section
variable {base : Heap} {w : World} {K : PySem.W.Frag} {mg : Str → Option Value} {P : Program}
abbrev N_foot : List Str := ["standing"]
theorem sc_foot : FnScope N_foot ["standing"] (defScope s_foot) := ⟨rfl, rfl, rfl, by decide +kernel, rfl, by decide +kernel, by decide +kernel⟩
def sp_foot (K : PySem.W.Frag) : Sp := fun vs H Q _ => ∃ s t, vs = [.ref s] ∧ StAt K H s t ∧ big t ≤ GR ∧ ∀ r us n b H', Ext H H' → TT H' r us → FootL b us → Way n t b → Q (.ref r) H'
theorem fn_foot (T : Top w K mg) {fd : FuncData} (F : Fun K "foot" "foot" s_foot (He.ga K "foot") fd) : FnOk P w K mg base CX0 6 (He.ga K "foot") fd ["standing"] (sp_foot K) := by
  obtain ⟨fd_check_standing, G_check_standing, b_check_standing, k_check_standing⟩ := ok_check_standing (P := P) (w := w) (base := base) T
  obtain ⟨fd_foot_of, G_foot_of, b_foot_of, k_foot_of⟩ := ok_foot_of (P := P) (w := w) (base := base) T
  obtain ⟨fd_Standing_numbers, G_Standing_numbers, b_Standing_numbers, k_Standing_numbers⟩ := ok_Standing_numbers (P := P) (w := w) (base := base) T
  refine F.ok sc_foot (fun vs H Q E h => ?hlen) (fun cdv A outer s H vs Q E hr h => ⟨_, (pss_cons (ps_expr (pe_call G_check_standing (hr.mono (by decide)) (by rfl) T.g_check_standing k_check_standing b_check_standing .nil pass0 (pa_cons (pv 0) pa_nil)))
    (pss_one (ps_ret (pe_callTy call_tuple_of (by rfl) T.b_tuple (by decide +kernel) (pa_cons (pe_callB At.cr_sorted3 (by rfl) T.b_sorted (by decide +kernel) (pa_cons (pe_call G_foot_of (hr.mono (by decide)) (by rfl) T.g_foot_of k_foot_of b_foot_of .nil pass0 (pa_cons (pe_prop (pv 0) T.c_Standing (propOk.of T.x_prop_Standing_numbers) G_Standing_numbers (hr.mono (by decide)) b_Standing_numbers .nil pass0 rfl) pa_nil)) pa_nil)) pa_nil))))), ?hrd⟩)
  case hlen =>
    obtain ⟨s, t, rfl, _⟩ := h
    rfl
  case hrd =>
    obtain ⟨s, t, rfl, hs, hb, q⟩ := h
    walk_at "gos"
    refine ⟨s, t, rfl, hs, ?_⟩
    walk_at "gos"
    obtain ⟨dx, n0, hi, hn⟩ := id hs
    refine ⟨s, dx, _, rfl, hi, s, t, rfl, hs, fun n hn' => ?_⟩
    refine ⟨n, t, rfl, hn', hb, fun l us k b H1 e1 tl nd way all _ => ?_⟩
    obtain ⟨L, hl, hL, each⟩ := tl.pairs
    walk_at "gos"
    refine ⟨l, L, rfl, hl, each, fun M p perm srt np => ?_⟩
    walk_at "gos"
    refine ⟨p, _, rfl, .inl ⟨SqL.of upd_same, fun r nr => ?_⟩⟩
    have eachM : ∀ q ∈ M, upd H1 p (.lst (M.map fun q => .ref q.1)) q.1 = some (.tup (tv q.2)) := fun z hz => mem_new np (each z (perm.mem_iff.mp hz))
    have tM := TL.of (a := p) upd_same eachM
    have pm : (M.map fun q => q.2).Perm us := by
      have := perm.map fun q => q.2
      rwa [hL] at this
    exact q r (M.map fun q => q.2) k b _ (ext_new (ext_new e1 np) nr) (tM.tup upd_same nr) ⟨pm.nodup_iff.mpr nd, List.pairwise_map.mpr srt, fun u => by rw [pm.mem_iff]; exact all u⟩ way
theorem ok_foot (T : Top w K mg) : OkD P w K mg base 6 (He.ga K "foot") ["standing"] (sp_foot K) := by
  obtain ⟨fd, F⟩ := T.f_foot
  exact ⟨fd, fn_foot T F, F.binds (ps := ["standing"]) fun _ _ _ _ _ _ us hl => match us, hl with | [_], _ => rfl, F.kp⟩
theorem okk_foot (T : Top w K mg) : ∃ fd, FnOk P w K mg base CX0 6 (He.ga K "foot") fd ["standing"] (sp_foot K) ∧ PySem.W.keepIn K (.ref (He.ga K "foot")) = true ∧ KBn K fd ["standing"] 0 ["standing"] (fun us ws => gSame us ws) (fun vs zs => gSame vs zs) := by
  obtain ⟨fd, F⟩ := T.f_foot
  exact ⟨fd, fn_foot T F, F.kp, kbn_of F 0 ["standing"] gSame relSame fun _ _ _ _ _ _ us ws l1 l2 => match us, ws, l1, l2 with | [], [_], _, _ => rfl⟩
end
end At

namespace At
open L2 PyProof.Rows PySem.Spec PySem
section
variable {base : Heap} {w : World} {K : PySem.W.Frag} {mg : Str → Option Value} {P : Program}
abbrev N_free_ones : List Str := ["standing", "numbers"]
theorem sc_free_ones : FnScope N_free_ones ["standing"] (defScope s_free_ones) := ⟨rfl, rfl, rfl, by decide +kernel, rfl, by decide +kernel, by decide +kernel⟩
def sp_free_ones (K : PySem.W.Frag) : Sp := fun vs H Q _ => ∃ s t, vs = [.ref s] ∧ StAt K H s t ∧ big t ≤ GR ∧ ∀ r us n b H', Ext H H' → TT H' r (us.filter fun u => !decide (ring u)) → FootL b us → Way n t b → Q (.ref r) H'
theorem fn_free_ones (T : Top w K mg) {fd : FuncData} (F : Fun K "free_ones" "free_ones" s_free_ones (He.ga K "free_ones") fd) : FnOk P w K mg base CX0 7 (He.ga K "free_ones") fd ["standing"] (sp_free_ones K) := by
  obtain ⟨fd_foot, G_foot, b_foot, k_foot⟩ := ok_foot (P := P) (w := w) (base := base) T
  obtain ⟨fd_goes_round, G_goes_round, b_goes_round, k_goes_round⟩ := ok_goes_round (P := P) (w := w) (base := base) T
  refine F.ok sc_free_ones (fun vs H Q E h => ?hlen) (fun cdv A outer s H vs Q E hr h => ⟨_, (pss_one (ps_ret (pe_callTy call_tuple_of (by rfl) T.b_tuple (by decide +kernel) (pa_cons (pe_lc (own := [("numbers", 1)]) (g := gName 1)  (by rfl) sc_free_ones.nd (pi_tup (pe_call G_foot (hr.mono (by decide)) (by rfl) T.g_foot k_foot b_foot .nil pass0 (pa_cons (pv 0) pa_nil))) (blkOk_by (own := [("numbers", 1)]) (N := N_free_ones) (sc := defScope s_free_ones) (by decide +kernel)) (fun _ _ _ _ _ => pg_name (i := 1) sc_free_ones.nd rfl (by first | exact Or.inl rfl | exact Or.inr rfl)) (fun _ _ _ _ _ => (pts_one (pt_not (pt_val (pe_call G_goes_round (hr.mono (by decide)) (by rfl) T.g_goes_round k_goes_round b_goes_round .nil pass0 (pa_cons (pv 1) pa_nil)))))) (fun _ _ _ _ _ => (pv 1))) pa_nil)))), ?hrd⟩)
  case hlen =>
    obtain ⟨s, t, rfl, _⟩ := h
    rfl
  case hrd =>
    obtain ⟨s, t, rfl, hs, hb, q⟩ := h
    walk_at "gos"
    refine go_lcT ?_
    walk_at "gos"
    refine ⟨s, t, rfl, hs, hb, fun f us k b H1 e1 tt ft way => ?_⟩
    have fw := ft.few (way_foot way)
    obtain ⟨rs, hf, rl, each⟩ := id tt
    refine ⟨f, rfl, ⟨_, SqT.of hf⟩, fun D nD => ?_⟩
    refine lc_it (walk_tup (xs := rs.map V.ref)) (fun i H' => Ext H1 H' ∧ TL H' D ((us.take i).filter fun u => !decide (ring u))) ⟨Evl.Ex.new nD, by rw [List.take_zero]; exact TL.nil⟩ (fun i H' _ pv => SqT.of (pv.1 _ _ hf)) (fun i x H' H'' hi pv y => ?_) fun H' pv => ?_
    · obtain ⟨e, tl⟩ := pv
      obtain ⟨rfl, hx⟩ := y
      rw [List.getElem?_map] at hx
      obtain ⟨r, hr, rfl⟩ := Option.map_eq_some_iff.mp hx
      obtain ⟨u, hu, hur⟩ := each i r hr
      have hur2 := e _ _ hur
      have tk : us.take (i + 1) = us.take i ++ [u] := by rw [List.take_add_one, hu]; rfl
      walk_at "gos"
      refine ⟨rfl, ?_⟩
      walk_at "gos"
      refine ⟨r, u, rfl, hur2, fun c hc => ⟨c, rfl, ?_⟩⟩
      cases c with
      | false =>
        have nr : ¬ ring u := fun z => by have := hc.mpr z; cases this
        walk_at "gos"
        obtain ⟨ys, hD, zlen, tl2⟩ := tl.push hur2
        refine ⟨ys, hD, ?_, e.mut nD, ?_⟩
        · rw [sizeLine_eq, zlen]
          have := List.length_filter_le (fun u => !decide (ring u)) (us.take i)
          rw [List.length_take] at this
          omega
        · rw [tk, List.filter_append, List.filter_cons_of_pos (by simpa using nr), List.filter_nil]
          exact tl2
      | true =>
        have yr : ring u := hc.mp rfl
        walk_at "gos"
        refine ⟨e, ?_⟩
        rw [tk, List.filter_append, List.filter_cons_of_neg (by simpa using yr), List.filter_nil, List.append_nil]
        exact tl
    · obtain ⟨e, tl⟩ := pv
      rw [List.length_map, rl, List.take_length] at tl
      obtain ⟨ds, hD, _⟩ := id tl
      walk_at "gos"
      exact ⟨D, _, rfl, .inl ⟨SqL.of hD, fun r nr => q r us k b _ (ext_new (e1.trans e) nr) (tl.tup hD nr) ft way⟩⟩
theorem ok_free_ones (T : Top w K mg) : OkD P w K mg base 7 (He.ga K "free_ones") ["standing"] (sp_free_ones K) := by
  obtain ⟨fd, F⟩ := T.f_free_ones
  exact ⟨fd, fn_free_ones T F, F.binds (ps := ["standing"]) fun _ _ _ _ _ _ us hl => match us, hl with | [_], _ => rfl, F.kp⟩
theorem okk_free_ones (T : Top w K mg) : ∃ fd, FnOk P w K mg base CX0 7 (He.ga K "free_ones") fd ["standing"] (sp_free_ones K) ∧ PySem.W.keepIn K (.ref (He.ga K "free_ones")) = true ∧ KBn K fd ["standing"] 0 ["standing"] (fun us ws => gSame us ws) (fun vs zs => gSame vs zs) := by
  obtain ⟨fd, F⟩ := T.f_free_ones
  exact ⟨fd, fn_free_ones T F, F.kp, kbn_of F 0 ["standing"] gSame relSame fun _ _ _ _ _ _ us ws l1 l2 => match us, ws, l1, l2 with | [], [_], _, _ => rfl⟩
end
end At

namespace At
open L2 PyProof.Rows PySem.Spec PySem
section
variable {base : Heap} {w : World} {K : PySem.W.Frag} {mg : Str → Option Value} {P : Program}
abbrev N_least : List Str := ["standing", "free"]
theorem sc_least : FnScope N_least ["standing"] (defScope s_least) := ⟨rfl, rfl, rfl, by decide +kernel, rfl, by decide +kernel, by decide +kernel⟩
def sp_least (K : PySem.W.Frag) : Sp := fun vs H Q _ => ∃ s t, vs = [.ref s] ∧ StAt K H s t ∧ big t ≤ GR ∧ ∀ r us n b H', Ext H H' → LeastAt H' r (leastL us) → FootL b us → Way n t b → Q (.ref r) H'
theorem fn_least (T : Top w K mg) {fd : FuncData} (F : Fun K "least" "least" s_least (He.ga K "least") fd) : FnOk P w K mg base CX0 8 (He.ga K "least") fd ["standing"] (sp_least K) := by
  obtain ⟨fd_free_ones, G_free_ones, b_free_ones, k_free_ones⟩ := ok_free_ones (P := P) (w := w) (base := base) T
  obtain ⟨fd_foot, G_foot, b_foot, k_foot⟩ := ok_foot (P := P) (w := w) (base := base) T
  refine F.ok sc_least (fun vs H Q E h => ?hlen) (fun cdv A outer s H vs Q E hr h => ⟨_, (pss_cons (ps_set (i := 1) sc_least.nd rfl (Or.inl rfl) (pe_call G_free_ones (hr.mono (by decide)) (by rfl) T.g_free_ones k_free_ones b_free_ones .nil pass0 (pa_cons (pv 0) pa_nil)))
    (pss_cons (ps_if (pt_truth (pv 1) (by intro _; rfl)) (pss_one (ps_ret (pe_tup (pa_cons pe_str (pa_cons (pe_ix ix_tup (pv 1) pe_int (fun _ _ => rfl)) pa_nil))))) pss_nil)
    (pss_one (ps_ret (pe_tup (pa_cons pe_str (pa_cons (pe_ix ix_tup (pe_call G_foot (hr.mono (by decide)) (by rfl) T.g_foot k_foot b_foot .nil pass0 (pa_cons (pv 0) pa_nil)) pe_int (fun _ _ => rfl)) pa_nil))))))), ?hrd⟩)
  case hlen =>
    obtain ⟨s, t, rfl, _⟩ := h
    rfl
  case hrd =>
    obtain ⟨s, t, rfl, hs, hb, q⟩ := h
    walk_at "gos"
    refine ⟨s, t, rfl, hs, hb, fun f us k b H1 e1 tt ft way => ?_⟩
    walk_at "gos"
    obtain ⟨rs, hf, rl, each⟩ := id tt
    refine ⟨_, .inr (.inl ⟨_, SqT.of hf, rfl⟩), ?_⟩
    cases hfl : us.filter fun u => !decide (ring u) with
    | nil =>
      rw [hfl] at rl
      have e0 : rs = [] := List.length_eq_zero_iff.mp rl
      rw [e0]
      refine go_iteNo rfl ?_
      walk_at "gos"
      refine ⟨s, t, rfl, hs.ext e1, hb, fun g vs k2 b2 H2 e2 tt2 ft2 way2 => ?_⟩
      obtain ⟨_, rfl⟩ := way_one way way2
      have same := ft.one ft2 (way_foot way) .here
      subst same
      obtain ⟨rs2, hg, rl2, each2⟩ := id tt2
      obtain ⟨u0, us0, eus⟩ : ∃ u0 us0, us = u0 :: us0 := by
        cases us with
        | nil => exact absurd rfl ft.ne
        | cons a l => exact ⟨a, l, rfl⟩
      have h0 : 0 < rs2.length := by rw [rl2, eus]; exact Nat.succ_pos _
      obtain ⟨u, hu, hur⟩ := each2 0 _ (List.getElem?_eq_getElem h0)
      walk_at "gos"
      refine go_rIxT (j := 0) (v := .ref rs2[0]) (SqT.of hg) (atI_nat (j := 0) (by rw [List.getElem?_map, List.getElem?_eq_getElem h0]; rfl)) ?_
      walk_at "gos"
      intro p np
      refine q p us k b _ (ext_new (e1.trans e2) np) ⟨rs2[0], ?_, ?_⟩ ft way
      · rw [upd_same]
        unfold leastL
        rw [hfl]
        rfl
      · refine mem_new np ?_
        unfold leastL
        rw [hfl]
        rw [eus] at hu ⊢
        cases Option.some.inj hu
        exact hur
    | cons u0 us0 =>
      rw [hfl] at rl each
      have h0 : 0 < rs.length := by rw [rl]; exact Nat.succ_pos _
      obtain ⟨u, hu, hur⟩ := each 0 _ (List.getElem?_eq_getElem h0)
      cases Option.some.inj hu
      refine go_iteYes (by
        cases rs with
        | nil => cases h0
        | cons _ _ => rfl) ?_
      walk_at "gos"
      refine go_rIxT (j := 0) (v := .ref rs[0]) (SqT.of hf) (atI_nat (j := 0) (by rw [List.getElem?_map, List.getElem?_eq_getElem h0]; rfl)) ?_
      walk_at "gos"
      intro p np
      refine q p us k b _ (ext_new e1 np) ⟨rs[0], ?_, ?_⟩ ft way
      · rw [upd_same]
        unfold leastL
        rw [hfl]
        rfl
      · refine mem_new np ?_
        unfold leastL
        rw [hfl]
        exact hur
theorem ok_least (T : Top w K mg) : OkD P w K mg base 8 (He.ga K "least") ["standing"] (sp_least K) := by
  obtain ⟨fd, F⟩ := T.f_least
  exact ⟨fd, fn_least T F, F.binds (ps := ["standing"]) fun _ _ _ _ _ _ us hl => match us, hl with | [_], _ => rfl, F.kp⟩
theorem okk_least (T : Top w K mg) : ∃ fd, FnOk P w K mg base CX0 8 (He.ga K "least") fd ["standing"] (sp_least K) ∧ PySem.W.keepIn K (.ref (He.ga K "least")) = true ∧ KBn K fd ["standing"] 0 ["standing"] (fun us ws => gSame us ws) (fun vs zs => gSame vs zs) := by
  obtain ⟨fd, F⟩ := T.f_least
  exact ⟨fd, fn_least T F, F.kp, kbn_of F 0 ["standing"] gSame relSame fun _ _ _ _ _ _ us ws l1 l2 => match us, ws, l1, l2 with | [], [_], _, _ => rfl⟩
end
end At

namespace At
open L2 PyProof.Rows PySem.Spec PySem
section
variable {base : Heap} {w : World} {K : PySem.W.Frag} {mg : Str → Option Value} {P : Program}
abbrev N_is_integer_within : List Str := ["value", "least", "most"]
theorem sc_is_integer_within : FnScope N_is_integer_within ["value", "least", "most"] (defScope s_is_integer_within) := ⟨rfl, rfl, rfl, by decide +kernel, rfl, by decide +kernel, by decide +kernel⟩
def sp_is_integer_within (K : PySem.W.Frag) : Sp := fun vs H Q _ => ∃ i l m : Int, vs = [.int i, .int l, .int m] ∧ l ≤ i ∧ i ≤ m ∧ Q (.bl true) H
theorem fn_is_integer_within (T : Top w K mg) {fd : FuncData} (F : Fun K "is_integer_within" "is_integer_within" s_is_integer_within (He.ga K "is_integer_within") fd) : FnOk P w K mg base CX0 2 (He.ga K "is_integer_within") fd ["value", "least", "most"] (sp_is_integer_within K) := by
  obtain ⟨fd_is_integer, G_is_integer, b_is_integer, k_is_integer⟩ := ok_is_integer (P := P) (w := w) (base := base) T
  refine F.ok sc_is_integer_within (fun vs H Q E h => ?hlen) (fun cdv A outer s H vs Q E hr h => ⟨_, (pss_one (ps_ret (pe_and (pe_call G_is_integer (hr.mono (by decide)) (by rfl) T.g_is_integer k_is_integer b_is_integer .nil pass0 (pa_cons (pv 0) pa_nil)) (pe_one (pe_chain op_le op_le (pv 1) (pv 0) (pv 2)))))), ?hrd⟩)
  case hlen =>
    obtain ⟨i, l, m, rfl, _⟩ := h
    rfl
  case hrd =>
    obtain ⟨i, l, m, rfl, h1, h2, q⟩ := h
    walk_at "gos"
    refine ⟨i, rfl, ?_⟩
    walk_at "gos"
    refine go_iteYes (decide_eq_true h1) ?_
    walk_at "gos"
    rw [decide_eq_true h2]
    exact q
theorem ok_is_integer_within (T : Top w K mg) : OkD P w K mg base 2 (He.ga K "is_integer_within") ["value", "least", "most"] (sp_is_integer_within K) := by
  obtain ⟨fd, F⟩ := T.f_is_integer_within
  exact ⟨fd, fn_is_integer_within T F, F.binds (ps := ["value", "least", "most"]) fun _ _ _ _ _ _ us hl => match us, hl with | [_, _, _], _ => rfl, F.kp⟩
end
end At

namespace At
open L2 PyProof.Rows PySem.Spec PySem
section
variable {base : Heap} {w : World} {K : PySem.W.Frag} {mg : Str → Option Value} {P : Program}
abbrev N_check_numbers : List Str := ["numbers", "index", "number"]
theorem sc_check_numbers : FnScope N_check_numbers ["numbers"] (defScope s_check_numbers) := ⟨rfl, rfl, rfl, by decide +kernel, rfl, by decide +kernel, by decide +kernel⟩
def sp_check_numbers (K : PySem.W.Frag) : Sp := fun vs H Q _ => ∃ a t, vs = [.ref a] ∧ H a = some (.tup (tv t)) ∧ big t ≤ GR ∧ ∀ H', Ext H H' → Q .non H'
theorem fn_check_numbers (T : Top w K mg) {fd : FuncData} (F : Fun K "check_numbers" "check_numbers" s_check_numbers (He.ga K "check_numbers") fd) : FnOk P w K mg base CX0 3 (He.ga K "check_numbers") fd ["numbers"] (sp_check_numbers K) := by
  obtain ⟨fd_is_integer_within, G_is_integer_within, b_is_integer_within, k_is_integer_within⟩ := ok_is_integer_within (P := P) (w := w) (base := base) T
  obtain ⟨u_GREATEST, e_GREATEST, r_GREATEST⟩ := T.n_GREATEST
  refine F.ok sc_check_numbers (fun vs H Q E h => ?hlen) (fun cdv A outer s H vs Q E hr h => ⟨_, (pss_one (ps_for PassesOwn.never rfl (pi_enumT (by rfl) T.b_enumerate (pa_cons (pv 0) pa_nil)) (pg_tup (by rfl) (pgs_cons (pg_name (i := 1) sc_check_numbers.nd rfl (Or.inl rfl)) (pgs_cons (pg_name (i := 2) sc_check_numbers.nd rfl (Or.inl rfl)) pgs_nil))) (pss_one (ps_if (pt_not (pt_val (pe_call G_is_integer_within (hr.mono (by decide)) (by rfl) T.g_is_integer_within k_is_integer_within b_is_integer_within .nil pass0 (pa_cons (pv 2) (pa_cons (pe_un un_neg (pe_glob rfl e_GREATEST r_GREATEST)) (pa_cons (pe_glob rfl e_GREATEST r_GREATEST) pa_nil)))))) (pss_one ps_never) pss_nil)))), ?hrd⟩)
  case hlen =>
    obtain ⟨a, t, rfl, _⟩ := h
    rfl
  case hrd =>
    obtain ⟨a, t, rfl, ha, hb, q⟩ := h
    obtain ⟨b1, b2, b3⟩ := big_le.mp hb
    have lo : ∀ x : Int, nat x ≤ GR → -GR ≤ x ∧ x ≤ GR := fun x h => by unfold nat at h; split at h <;> omega
    walk_at "gos"
    refine ⟨a, _, rfl, SqT.of ha, ?_⟩
    refine loop_enumT (fun i σ' H' => ∃ y z, σ' = [some (.ref a), y, z] ∧ Ext H H') ⟨none, none, rfl, Evl.Ex.refl _⟩ (fun i σ' H' _ ⟨y, z, _, e⟩ => SqT.of (e a _ ha)) ?_ ?_
    · rintro i x σ' H' T0 hx ⟨y, z, rfl, e⟩ nT
      obtain ⟨n, rfl, hn⟩ : ∃ n : Int, x = .int n ∧ nat n ≤ GR := by
        have := List.mem_of_getElem? hx
        simp only [tv, List.mem_cons, List.not_mem_nil, or_false] at this
        rcases this with rfl | rfl | rfl <;> exact ⟨_, rfl, by assumption⟩
      walk_at "gos"
      refine go_gTup (SqT.of upd_same) rfl ?_
      walk_at "gos"
      refine ⟨n, _, _, rfl, (lo n hn).1, (lo n hn).2, ?_⟩
      walk_at "gos"
      exact ext_new e nT
    · rintro σ' H' ⟨y, z, rfl, e⟩
      walk_at "gos"
      exact q H' e
theorem ok_check_numbers (T : Top w K mg) : OkD P w K mg base 3 (He.ga K "check_numbers") ["numbers"] (sp_check_numbers K) := by
  obtain ⟨fd, F⟩ := T.f_check_numbers
  exact ⟨fd, fn_check_numbers T F, F.binds (ps := ["numbers"]) fun _ _ _ _ _ _ us hl => match us, hl with | [_], _ => rfl, F.kp⟩
end
end At

namespace At
open L2 PyProof.Rows PySem.Spec PySem
section
variable {base : Heap} {w : World} {K : PySem.W.Frag} {mg : Str → Option Value} {P : Program}
abbrev N_Standing___init__ : List Str := ["self", "x", "y", "z"]
theorem sc_Standing___init__ : FnScope N_Standing___init__ ["self", "x", "y", "z"] (defScope s_Standing___init__) := ⟨rfl, rfl, rfl, by decide +kernel, rfl, by decide +kernel, by decide +kernel⟩
def sp_Standing___init__ (K : PySem.W.Frag) : Sp := fun vs H Q _ => ∃ s dx t H1, vs = .ref s :: tv t ∧ H s = some (.ins (He.ga K "Standing") dx []) ∧ Ext H1 H ∧ H1 s = none ∧ big t ≤ GR ∧ ∀ n H', Ext H1 H' → H' s = some (.ins (He.ga K "Standing") dx [("_numbers", .ref n)]) → H' n = some (.tup (tv t)) → Q .non H'
theorem fn_Standing___init__ (T : Top w K mg) {fd : FuncData} (F : Fun K "__init__" "Standing.__init__" s_Standing___init__ (method K "Standing" "__init__") fd) : FnOk P w K mg base CX0 4 (method K "Standing" "__init__") fd ["self", "x", "y", "z"] (sp_Standing___init__ K) := by
  obtain ⟨fd_check_numbers, G_check_numbers, b_check_numbers, k_check_numbers⟩ := ok_check_numbers (P := P) (w := w) (base := base) T
  refine F.ok sc_Standing___init__ (fun vs H Q E h => ?hlen) (fun cdv A outer s H vs Q E hr h => ⟨_, (pss_cons (ps_expr (pe_call G_check_numbers (hr.mono (by decide)) (by rfl) T.g_check_numbers k_check_numbers b_check_numbers .nil pass0 (pa_cons (pe_tup (pa_cons (pv 1) (pa_cons (pv 2) (pa_cons (pv 3) pa_nil)))) pa_nil)))
    (pss_one (ps_fld (pv 0) (pe_tup (pa_cons (pv 1) (pa_cons (pv 2) (pa_cons (pv 3) pa_nil)))) rfl))), ?hrd⟩)
  case hlen =>
    obtain ⟨s, dx, t, H1, rfl, _⟩ := h
    rfl
  case hrd =>
    obtain ⟨s, dx, t, H1, rfl, hs, e1, n1, hb, q⟩ := h
    walk_at "gos"
    intro p np
    walk_at "gos"
    refine ⟨p, t, rfl, upd_same, hb, fun H2 e2 => ?_⟩
    walk_at "gos"
    intro n nn
    walk_at "gos"
    have hs2 : H2 s = some (.ins (He.ga K "Standing") dx []) := e2 _ _ (mem_new np hs)
    have hsn : n ≠ s := fun z => by
      rw [z, hs2] at nn
      cases nn
    refine ⟨s, _, dx, _, rfl, mem_new nn hs2, T.c_Standing, T.na_Standing_numbers, by decide, ?_⟩
    refine q n _ ((e1.trans ((Evl.Ex.new np).trans (e2.trans (Evl.Ex.new nn)))).mut n1) upd_same ?_
    rw [upd_ne hsn, upd_same]
    rfl
theorem ok_Standing___init__ (T : Top w K mg) : OkD P w K mg base 4 (method K "Standing" "__init__") ["self", "x", "y", "z"] (sp_Standing___init__ K) := by
  obtain ⟨fd, F⟩ := T.f_Standing___init__
  exact ⟨fd, fn_Standing___init__ T F, F.binds (ps := ["self", "x", "y", "z"]) fun _ _ _ _ _ _ us hl => match us, hl with | [_, _, _, _], _ => rfl, F.kp⟩
def zxy {α : Type} : List α → List α → List α
  | [s], [z, x, y] => [s, x, y, z]
  | us, ws => us ++ ws
theorem zxy_rel {vs : List V} {us : List Value} {zs : List V} {ws : List Value} (a : Vals vs us) (b : Vals zs ws) : Vals (zxy vs zs) (zxy us ws) := by
  match vs, us, a, zs, ws, b with
  | [_], [_], .cons r .nil, [_, _, _], [_, _, _], .cons p (.cons q (.cons t .nil)) => exact .cons r (.cons q (.cons t (.cons p .nil)))
  | [], [], .nil, _, _, b => exact b
  | [_], [_], .cons r .nil, [], [], .nil => exact .cons r .nil
  | [_], [_], .cons r .nil, [_], [_], .cons p .nil => exact .cons r (.cons p .nil)
  | [_], [_], .cons r .nil, [_, _], [_, _], .cons p (.cons q .nil) => exact .cons r (.cons p (.cons q .nil))
  | [_], [_], .cons r .nil, _ :: _ :: _ :: _ :: _, _ :: _ :: _ :: _ :: _, b => exact .cons r b
  | _ :: _ :: _, _ :: _ :: _, a, _, _, b => exact a.append b
theorem okk_Standing___init__ (T : Top w K mg) : ∃ fd, FnOk P w K mg base CX0 4 (method K "Standing" "__init__") fd ["self", "x", "y", "z"] (sp_Standing___init__ K) ∧ KBn K fd ["self", "x", "y", "z"] 1 ["z", "x", "y"] (fun us ws => zxy us ws) (fun vs zs => zxy vs zs) := by
  obtain ⟨fd, F⟩ := T.f_Standing___init__
  exact ⟨fd, fn_Standing___init__ T F, kbn_of F 1 _ zxy zxy_rel fun _ _ _ _ _ _ us ws l1 l2 => match us, ws, l1, l2 with | [_], [_, _, _], _, _ => rfl⟩
end
end At

namespace At
open L2 PyProof.Rows PySem.Spec PySem
section
variable {base : Heap} {w : World} {K : PySem.W.Frag} {mg : Str → Option Value} {P : Program}
abbrev N_arrows_between : List Str := ["numbers", "start", "goal"]
theorem sc_arrows_between : FnScope N_arrows_between ["numbers", "start", "goal"] (defScope s_arrows_between) := ⟨rfl, rfl, rfl, by decide +kernel, rfl, by decide +kernel, by decide +kernel⟩
def sp_arrows_between (K : PySem.W.Frag) : Sp := fun vs H Q _ => ∃ a t p q, vs = [.ref a, .int p.i, .int q.i] ∧ H a = some (.tup (tv t)) ∧ Q (.int (arr t p q)) H
theorem nxt_i (p : P3) : (p.i + 1) % 3 = (nxt p).i := by cases p <;> rfl
theorem fn_arrows_between (T : Top w K mg) {fd : FuncData} (F : Fun K "arrows_between" "arrows_between" s_arrows_between (He.ga K "arrows_between") fd) : FnOk P w K mg base CX0 2 (He.ga K "arrows_between") fd ["numbers", "start", "goal"] (sp_arrows_between K) := by
  obtain ⟨fd_place_behind, G_place_behind, b_place_behind, k_place_behind⟩ := ok_place_behind (P := P) (w := w) (base := base) T
  refine F.ok sc_arrows_between (fun vs H Q E h => ?hlen) (fun cdv A outer s H vs Q E hr h => ⟨_, (pss_cons (ps_if (pt_cmpR op_eq (pv 2) (pe_call G_place_behind (hr.mono (by decide)) (by rfl) T.g_place_behind k_place_behind b_place_behind .nil pass0 (pa_cons (pv 1) pa_nil)) (nomark _)) (pss_one (ps_ret (pe_ix ix_tup (pv 0) (pv 1) (fun _ _ => rfl)))) pss_nil)
    (pss_one (ps_ret (pe_un un_neg (pe_ix ix_tup (pv 0) (pv 2) (fun _ _ => rfl)))))), ?hrd⟩)
  case hlen =>
    obtain ⟨a, t, p, q, rfl, _⟩ := h
    rfl
  case hrd =>
    obtain ⟨a, t, p, q, rfl, ha, qq⟩ := h
    walk_at "gos"
    refine ⟨p, rfl, ?_⟩
    walk_at "gos"
    refine go_ite (fun c => ?_) (fun c => ?_)
    · have e : q = nxt p := p3_inj c
      walk_at "gos"
      refine go_rIxT (j := p.i) (v := .int (go p t)) (SqT.of ha) (at_go p t) ?_
      walk_at "gos"
      unfold arr at qq
      rw [if_pos e] at qq
      exact qq
    · have e : ¬ q = nxt p := fun z => c (by rw [z])
      walk_at "gos"
      refine go_rIxT (j := q.i) (v := .int (go q t)) (SqT.of ha) (at_go q t) ?_
      walk_at "gos"
      unfold arr at qq
      rw [if_neg e] at qq
      exact qq
theorem ok_arrows_between (T : Top w K mg) : OkD P w K mg base 2 (He.ga K "arrows_between") ["numbers", "start", "goal"] (sp_arrows_between K) := by
  obtain ⟨fd, F⟩ := T.f_arrows_between
  exact ⟨fd, fn_arrows_between T F, F.binds (ps := ["numbers", "start", "goal"]) fun _ _ _ _ _ _ us hl => match us, hl with | [_, _, _], _ => rfl, F.kp⟩
end
end At

namespace At
open L2 PyProof.Rows PySem.Spec PySem
section
variable {base : Heap} {w : World} {K : PySem.W.Frag} {mg : Str → Option Value} {P : Program}
abbrev N_renamed_by : List Str := ["numbers", "old", "place"]
theorem sc_renamed_by : FnScope N_renamed_by ["numbers", "old"] (defScope s_renamed_by) := ⟨rfl, rfl, rfl, by decide +kernel, rfl, by decide +kernel, by decide +kernel⟩
def sp_renamed_by (K : PySem.W.Frag) : Sp := fun vs H Q _ => ∃ a t l p q s, vs = [.ref a, .ref l] ∧ H a = some (.tup (tv t)) ∧ H l = some (.lst (pl [p, q, s])) ∧ ∀ r H', Ext H H' → H' r = some (.tup (tv (ren p q s t))) → Q (.ref r) H'
def rv (t : T3) (p q s : P3) : Nat → Int
  | 0 => arr t p q
  | 1 => arr t q s
  | _ => arr t s p
theorem pl3_at (p q s : P3) (x : P3) : atI (pl [p, q, s]) x.i = some (.int (nth3 p q s x).i) := by cases x <;> rfl
theorem fn_renamed_by (T : Top w K mg) {fd : FuncData} (F : Fun K "renamed_by" "renamed_by" s_renamed_by (He.ga K "renamed_by") fd) : FnOk P w K mg base CX0 3 (He.ga K "renamed_by") fd ["numbers", "old"] (sp_renamed_by K) := by
  obtain ⟨fd_arrows_between, G_arrows_between, b_arrows_between, k_arrows_between⟩ := ok_arrows_between (P := P) (w := w) (base := base) T
  obtain ⟨fd_place_behind, G_place_behind, b_place_behind, k_place_behind⟩ := ok_place_behind (P := P) (w := w) (base := base) T
  refine F.ok sc_renamed_by (fun vs H Q E h => ?hlen) (fun cdv A outer s H vs Q E hr h => ⟨_, (pss_one (ps_ret (pe_callTy call_tuple_of (by rfl) T.b_tuple (by decide +kernel) (pa_cons (pe_lc (own := [("place", 2)]) (g := gName 2) (tt := tYes) (by rfl) sc_renamed_by.nd (pi_range1 (by rfl) T.b_range (pa_cons pe_int pa_nil)) (blkOk_by (own := [("place", 2)]) (N := N_renamed_by) (sc := defScope s_renamed_by) (by decide +kernel)) (fun _ _ _ _ _ => pg_name (i := 2) sc_renamed_by.nd rfl (by first | exact Or.inl rfl | exact Or.inr rfl)) (fun _ _ _ _ _ => pts_nil) (fun _ _ _ _ _ => (pe_call G_arrows_between (hr.mono (by decide)) (by rfl) T.g_arrows_between k_arrows_between b_arrows_between .nil pass0 (pa_cons (pv 0) (pa_cons (pe_ix (ix_list' (K := K)) (pv 1) (pv 2) (fun _ _ => rfl)) (pa_cons (pe_ix (ix_list' (K := K)) (pv 1) (pe_call G_place_behind (hr.mono (by decide)) (by rfl) T.g_place_behind k_place_behind b_place_behind .nil pass0 (pa_cons (pv 2) pa_nil)) (fun _ _ => rfl)) pa_nil)))))) pa_nil)))), ?hrd⟩)
  case hlen =>
    obtain ⟨a, t, l, p, q, s, rfl, _⟩ := h
    rfl
  case hrd =>
    obtain ⟨a, t, l, p, q, s, rfl, ha, hl, qq⟩ := h
    walk_at "gos"
    refine go_lc ?_
    walk_at "gos"
    refine ⟨by decide, by decide, ?_⟩
    refine lc_rng (lo := 0) (by decide) (fun i => .int (rv t p q s i)) (fun D nD i H' hi e QE hq' => ?_) fun D nD H' e hD => ?_
    · obtain ⟨x, hx⟩ := p3_of hi
      walk_at "gos"
      refine ⟨rfl, ?_⟩
      rw [Int.zero_add, ← hx]
      walk_at "gos"
      refine go_rIxL (j := x.i) (v := .int (nth3 p q s x).i) (SqL.of (e _ _ hl)) (pl3_at p q s x) ?_
      walk_at "gos"
      refine ⟨x, rfl, ?_⟩
      refine go_rIxL (j := (nxt x).i) (v := .int (nth3 p q s (nxt x)).i) (SqL.of (e _ _ hl)) (pl3_at p q s (nxt x)) ?_
      walk_at "gos"
      refine ⟨a, t, nth3 p q s x, nth3 p q s (nxt x), rfl, e _ _ ha, ?_⟩
      have er : rv t p q s i = arr t (nth3 p q s x) (nth3 p q s (nxt x)) := by
        cases x <;> (have : i = 0 ∨ i = 1 ∨ i = 2 := by omega) <;> rcases this with rfl | rfl | rfl <;> first | rfl | (exact absurd hx (by decide))
      rw [← er]
      exact hq' H' (Evl.Ex.refl _)
    · walk_at "gos"
      refine ⟨_, _, rfl, .inl ⟨SqL.of hD, fun r nr => ?_⟩⟩
      exact qq r _ (ext_new e nr) upd_same
theorem ok_renamed_by (T : Top w K mg) : OkD P w K mg base 3 (He.ga K "renamed_by") ["numbers", "old"] (sp_renamed_by K) := by
  obtain ⟨fd, F⟩ := T.f_renamed_by
  exact ⟨fd, fn_renamed_by T F, F.binds (ps := ["numbers", "old"]) fun _ _ _ _ _ _ us hl => match us, hl with | [_, _], _ => rfl, F.kp⟩
end
end At

namespace At
open L2 PyProof.Rows PySem.Spec PySem
section
variable {base : Heap} {w : World} {K : PySem.W.Frag} {mg : Str → Option Value} {P : Program}
abbrev N_places_of : List Str := ["word", "letter"]
theorem sc_places_of : FnScope N_places_of ["word"] (defScope s_places_of) := ⟨rfl, rfl, rfl, by decide +kernel, rfl, by decide +kernel, by decide +kernel⟩
def sp_places_of (K : PySem.W.Frag) : Sp := fun vs H Q _ => ∃ ps, vs = [.str (wd ps)] ∧ ps.length ≤ 1000 ∧ ∀ p H', H p = none → Ext H H' → H' p = some (.lst (pl ps)) → Q (.ref p) H'
theorem fn_places_of (T : Top w K mg) {fd : FuncData} (F : Fun K "places_of" "places_of" s_places_of (He.ga K "places_of") fd) : FnOk P w K mg base CX0 1 (He.ga K "places_of") fd ["word"] (sp_places_of K) := by
  obtain ⟨es_PLACE_OF, n_PLACE_OF, D_PLACE_OF⟩ := T.d_PLACE_OF
  refine F.ok sc_places_of (fun vs H Q E h => ?hlen) (fun cdv A outer s H vs Q E hr h => ⟨_, (pss_one (ps_ret (pe_lc (own := [("letter", 1)]) (g := gName 1) (tt := tYes) (by rfl) sc_places_of.nd (pi_str (pv 0)) (blkOk_by (own := [("letter", 1)]) (N := N_places_of) (sc := defScope s_places_of) (by decide +kernel)) (fun _ _ _ _ _ => pg_name (i := 1) sc_places_of.nd rfl (by first | exact Or.inl rfl | exact Or.inr rfl)) (fun _ _ _ _ _ => pts_nil) (fun _ _ _ _ _ => (pe_ix (ix_kd' D_PLACE_OF) (pe_glob (v := .ref _) rfl T.g_PLACE_OF rfl) (pv 1) (fun _ _ => rfl)))))), ?hrd⟩)
  case hlen =>
    obtain ⟨ps, rfl, _⟩ := h
    rfl
  case hrd =>
    obtain ⟨ps, rfl, hlen, q⟩ := h
    have hv : ∀ p : P3, ∃ u, PySem.W.nsIn K (He.ga K "PLACE_OF") (lt p) = some (some u) ∧ RelV (.int p.i) u := fun p => by
      cases p
      · rw [lt_a]; exact He.valsB_ok T.x_val_PLACE_OF (q := ("a", .int 0)) (by simp)
      · rw [lt_b]; exact He.valsB_ok T.x_val_PLACE_OF (q := ("b", .int 1)) (by simp)
      · rw [lt_c]; exact He.valsB_ok T.x_val_PLACE_OF (q := ("c", .int 2)) (by simp)
    walk_at "gos"
    refine go_lc ?_
    walk_at "gos"
    refine lc_strP (by rw [wd_size]; omega) (fun c => .int (chi c)) (fun D nD c H' hc e QE hq => ?_) fun D nD H' e hD => ?_
    · obtain ⟨p, rfl⟩ := wd_mem hc
      walk_at "gos"
      refine ⟨rfl, ?_⟩
      walk_at "gos"
      obtain ⟨u, hu, ru⟩ := hv p
      refine ⟨lt p, u, .int p.i, rfl, rfl, hu, ru, ?_⟩
      rw [← chi_ch p]
      exact hq H' (Evl.Ex.refl _)
    · refine q D H' nD e ?_
      rw [hD, wd_list]
theorem ok_places_of (T : Top w K mg) : OkD P w K mg base 1 (He.ga K "places_of") ["word"] (sp_places_of K) := by
  obtain ⟨fd, F⟩ := T.f_places_of
  exact ⟨fd, fn_places_of T F, F.binds (ps := ["word"]) fun _ _ _ _ _ _ us hl => match us, hl with | [_], _ => rfl, F.kp⟩
end
end At

namespace At
open L2 PyProof.Rows PySem.Spec PySem
section
variable {base : Heap} {w : World} {K : PySem.W.Frag} {mg : Str → Option Value} {P : Program}
abbrev N_renamed : List Str := ["standing", "naming", "numbers"]
theorem sc_renamed : FnScope N_renamed ["standing", "naming"] (defScope s_renamed) := ⟨rfl, rfl, rfl, by decide +kernel, rfl, by decide +kernel, by decide +kernel⟩
def sp_renamed (K : PySem.W.Frag) : Sp := fun vs H Q _ => ∃ s t p q r, vs = [.ref s, .str (wd [p, q, r])] ∧ StAt K H s t ∧ Nam p q r ∧ big t ≤ GR ∧ ∀ o H', Ext H H' → StAt K H' o (ren p q r t) → Q (.ref o) H'
theorem nam_in {p q s : P3} (h : Nam p q s) : inV (.str (wd [p, q, s])) ((["abc", "acb", "bac", "bca", "cab", "cba"] : List Str).map V.str) = true := by
  obtain ⟨h1, h2, h3⟩ := h
  cases p <;> cases q <;> first | exact absurd rfl h1 | skip
  all_goals cases s <;> first | exact absurd rfl h2 | exact absurd rfl h3 | decide +kernel
theorem fn_renamed (T : Top w K mg) {fd : FuncData} (F : Fun K "renamed" "renamed" s_renamed (He.ga K "renamed") fd) : FnOk P w K mg base CX0 6 (He.ga K "renamed") fd ["standing", "naming"] (sp_renamed K) := by
  obtain ⟨fd_check_standing, G_check_standing, b_check_standing, k_check_standing⟩ := ok_check_standing (P := P) (w := w) (base := base) T
  obtain ⟨fd_renamed_by, G_renamed_by, b_renamed_by, k_renamed_by⟩ := ok_renamed_by (P := P) (w := w) (base := base) T
  obtain ⟨fd_places_of, G_places_of, b_places_of, k_places_of⟩ := ok_places_of (P := P) (w := w) (base := base) T
  obtain ⟨fd_Standing_numbers, G_Standing_numbers, b_Standing_numbers, k_Standing_numbers⟩ := ok_Standing_numbers (P := P) (w := w) (base := base) T
  obtain ⟨fd_Standing___init__, G_Standing___init__, b_Standing___init__, k_Standing___init__⟩ := ok_Standing___init__ (P := P) (w := w) (base := base) T
  refine F.ok sc_renamed (fun vs H Q E h => ?hlen) (fun cdv A outer s H vs Q E hr h => ⟨_, (pss_cons (ps_expr (pe_call G_check_standing (hr.mono (by decide)) (by rfl) T.g_check_standing k_check_standing b_check_standing .nil pass0 (pa_cons (pv 0) pa_nil)))
    (pss_cons (ps_if (PW.pt (pw_or (pt_not (pt_val (pe_callB call_isi (by rfl) T.b_isinstance (by decide +kernel) (pa_cons (pv 1) (pa_cons (pe_bltn (v := .ty "str") (by rfl) T.b_str (by decide +kernel) rfl) pa_nil))))) (pw_or1 (pt_cmpR op_notIn_seq (pv 1) (pe_glob (v := .ref _) rfl T.g_NAMINGS rfl) (by with_unfolding_all rfl))))) (pss_one ps_never) pss_nil)
    (pss_cons (ps_set (i := 2) sc_renamed.nd rfl (Or.inl rfl) (pe_call G_renamed_by (hr.mono (by decide)) (by rfl) T.g_renamed_by k_renamed_by b_renamed_by .nil pass0 (pa_cons (pe_prop (pv 0) T.c_Standing (propOk.of T.x_prop_Standing_numbers) G_Standing_numbers (hr.mono (by decide)) b_Standing_numbers .nil pass0 rfl) (pa_cons (pe_call G_places_of (hr.mono (by decide)) (by rfl) T.g_places_of k_places_of b_places_of .nil pass0 (pa_cons (pv 1) pa_nil)) pa_nil))))
    (pss_one (ps_ret (pe_makeS T.m_Standing (plainR G_Standing___init__ b_Standing___init__) (hr.mono (by decide)) (by rfl) T.g_Standing pass0 (pv 2))))))), ?hrd⟩)
  case hlen =>
    obtain ⟨s, t, p, q, r, rfl, _⟩ := h
    rfl
  case hrd =>
    obtain ⟨s, t, p, q, r, rfl, hs, nm, hb, qq⟩ := h
    walk_at "gos"
    refine ⟨s, t, rfl, hs, ?_⟩
    walk_at "gos"
    refine go_isi (.str _) (kit_ss _) ?_
    walk_at "gos"
    refine ⟨_, _, rfl, .inr (tupS.of T.x_tup_NAMINGS), rfl, by decide +kernel, ?_⟩
    rw [if_pos rfl, nam_in nm]
    walk_at "gos"
    obtain ⟨dx, n0, hi, hn⟩ := id hs
    refine ⟨s, dx, _, rfl, hi, s, t, rfl, hs, fun n hn' => ?_⟩
    walk_at "gos"
    refine ⟨[p, q, r], rfl, Nat.le_of_ble_eq_true rfl, fun l H1 nl e1 hl => ?_⟩
    refine ⟨n, t, l, p, q, r, rfl, e1 _ _ hn', hl, fun o H2 e2 ho => ?_⟩
    walk_at "gos"
    refine ⟨o, tv (ren p q r t), rfl, .inl (SqT.of ho), fun x dx' nx nd hne => ?_⟩
    exact ⟨x, dx', ren p q r t, _, rfl, upd_same, (Evl.Ex.new nd).mut nx, nx, by rw [ren_big nm]; exact hb, fun m H3 e3 h2 h3 => ⟨rfl, qq x H3 (e1.trans (e2.trans e3)) ⟨dx', m, h2, h3⟩⟩⟩
theorem ok_renamed (T : Top w K mg) : OkD P w K mg base 6 (He.ga K "renamed") ["standing", "naming"] (sp_renamed K) := by
  obtain ⟨fd, F⟩ := T.f_renamed
  exact ⟨fd, fn_renamed T F, F.binds (ps := ["standing", "naming"]) fun _ _ _ _ _ _ us hl => match us, hl with | [_, _], _ => rfl, F.kp⟩
theorem okk_renamed (T : Top w K mg) : ∃ fd, FnOk P w K mg base CX0 6 (He.ga K "renamed") fd ["standing", "naming"] (sp_renamed K) ∧ PySem.W.keepIn K (.ref (He.ga K "renamed")) = true ∧ KBn K fd ["standing", "naming"] 0 ["naming", "standing"] (fun us ws => gSwap us ws) (fun vs zs => gSwap vs zs) := by
  obtain ⟨fd, F⟩ := T.f_renamed
  exact ⟨fd, fn_renamed T F, F.kp, kbn_of F 0 ["naming", "standing"] gSwap relSwap fun _ _ _ _ _ _ us ws l1 l2 => match us, ws, l1, l2 with | [], [_, _], _, _ => rfl⟩
end
end At

namespace At
open L2 PyProof.Rows PySem.Spec PySem
section
variable {base : Heap} {w : World} {K : PySem.W.Frag} {mg : Str → Option Value} {P : Program}
abbrev N_namings_between : List Str := ["one", "other", "form", "naming"]
theorem sc_namings_between : FnScope N_namings_between ["one", "other"] (defScope s_namings_between) := ⟨rfl, rfl, rfl, by decide +kernel, rfl, by decide +kernel, by decide +kernel⟩
def sp_namings_between (K : PySem.W.Frag) : Sp := fun vs H Q _ => ∃ s1 s2 t u, vs = [.ref s1, .ref s2] ∧ StAt K H s1 t ∧ StAt K H s2 u ∧ big t ≤ GR ∧ big u ≤ GR ∧ ∀ l H', Ext H H' → H l = none → H' l = some (.lst ((namFit t u).map namS)) → Q (.ref l) H'
theorem fn_namings_between (T : Top w K mg) {fd : FuncData} (F : Fun K "namings_between" "namings_between" s_namings_between (He.ga K "namings_between") fd) : FnOk P w K mg base CX0 9 (He.ga K "namings_between") fd ["one", "other"] (sp_namings_between K) := by
  obtain ⟨fd_least, G_least, b_least, k_least⟩ := ok_least (P := P) (w := w) (base := base) T
  obtain ⟨fd_renamed, G_renamed, b_renamed, k_renamed⟩ := ok_renamed (P := P) (w := w) (base := base) T
  refine F.ok sc_namings_between (fun vs H Q E h => ?hlen) (fun cdv A outer s H vs Q E hr h => ⟨_, (pss_cons (ps_set (i := 2) sc_namings_between.nd rfl (Or.inr rfl) (pe_call G_least (hr.mono (by decide)) (by rfl) T.g_least k_least b_least .nil pass0 (pa_cons (pv 1) pa_nil)))
    (pss_one (ps_ret (pe_lc (own := [("naming", 3)]) (g := gName 3)  (by rfl) sc_namings_between.nd (pi_tup (pe_glob (v := .ref _) rfl T.g_NAMINGS rfl)) (blkOk_by (own := [("naming", 3)]) (N := N_namings_between) (sc := defScope s_namings_between) (by decide +kernel)) (fun _ _ _ _ _ => pg_name (i := 3) sc_namings_between.nd rfl (by first | exact Or.inl rfl | exact Or.inr rfl)) (fun _ _ _ _ _ => (pts_one (pt_cmpR (At.op_eqDK (K := K) rfl (hu64 hr)) (pe_call G_least (hr.mono (by decide)) (by rfl) T.g_least k_least b_least .nil pass0 (pa_cons (pe_call G_renamed (hr.mono (by decide)) (by rfl) T.g_renamed k_renamed b_renamed .nil pass0 (pa_cons (pv 0) (pa_cons (pv 3) pa_nil))) pa_nil)) (pv 2) (nomark _)))) (fun _ _ _ _ _ => (pv 3)))))), ?hrd⟩)
  case hlen =>
    obtain ⟨s1, s2, t, u, rfl, _⟩ := h
    rfl
  case hrd =>
    obtain ⟨s1, s2, t, u, rfl, h1, h2, b1, b2, q⟩ := h
    walk_at "gos"
    refine ⟨s2, u, rfl, h2, b2, fun r us n b H1 e1 hl fl wy => ?_⟩
    have hN : SqT K H1 (He.ga K "NAMINGS") (nams.map namS) := tupS.of T.x_tup_NAMINGS
    walk_at "gos"
    refine go_lcT ?_
    walk_at "gos"
    refine ⟨⟨_, hN⟩, fun D nD => ?_⟩
    refine lc_it (walk_tup (xs := nams.map namS)) (fun i H' => Ext H1 H' ∧ H' D = some (.lst (((nams.take i).filter fun z : P3 × P3 × P3 => decide (∃ w, walk u w = ren z.1 z.2.1 z.2.2 t)).map namS))) ⟨Evl.Ex.new nD, upd_same⟩ (fun i H' _ pv => tupS.of T.x_tup_NAMINGS) (fun i x H' H'' hi pv y => ?_) fun H2 pv => ?_
    · obtain ⟨e, hD⟩ := pv
      obtain ⟨rfl, hx⟩ := y
      rw [List.getElem?_map] at hx
      obtain ⟨⟨p, q', s'⟩, hz, rfl⟩ := Option.map_eq_some_iff.mp hx
      have nm := nams_ok (List.mem_of_getElem? hz)
      have tk : nams.take (i + 1) = nams.take i ++ [(p, q', s')] := by rw [List.take_add_one, hz]; rfl
      walk_at "gos"
      refine ⟨rfl, ?_⟩
      walk_at "gos"
      refine ⟨s1, t, p, q', s', rfl, (h1.ext e1).ext e, nm, b1, fun o H3 e3 st => ?_⟩
      walk_at "gos"
      refine ⟨o, _, rfl, st, by rw [ren_big nm]; exact b1, fun r2 us2 n2 c2 H4 e4 hl2 fl2 wy2 => ?_⟩
      walk_at "gos"
      have e34 := e3.trans e4
      refine ⟨_, _, hl2.dp, ((hl.ext e).ext e34).dp, shapedL _, shapedL _, ?_⟩
      rw [eqvL]
      have key : decide (leastL us2 = leastL us) = decide (∃ w, walk u w = ren p q' s' t) := by
        rw [decide_eq_decide]
        exact (least_link fl2 fl wy2 wy).trans ⟨lnk_symm, lnk_symm⟩
      rw [key]
      have hlen : (((nams.take i).filter fun z : P3 × P3 × P3 => decide (∃ w, walk u w = ren z.1 z.2.1 z.2.2 t)).map namS).length < sizeLine := by
        (rw [List.length_map, sizeLine_eq])
        have := List.length_filter_le (fun z : P3 × P3 × P3 => decide (∃ w, walk u w = ren z.1 z.2.1 z.2.2 t)) (nams.take i)
        rw [List.length_take] at this
        have h6 : nams.length = 6 := rfl
        omega
      refine ⟨_, rfl, ?_⟩
      have hD4 := e34 _ _ hD
      by_cases c : ∃ w, walk u w = ren p q' s' t
      · rw [decide_eq_true c]
        walk_at "gos"
        refine ⟨_, hD4, hlen, (e.trans e34).mut nD, ?_⟩
        rw [upd_same, tk, List.filter_append, show [(p, q', s')].filter (fun z : P3 × P3 × P3 => decide (∃ w, walk u w = ren z.1 z.2.1 z.2.2 t)) = [(p, q', s')] by simp [c], List.map_append]
        rfl
      · rw [decide_eq_false c]
        walk_at "gos"
        refine ⟨e.trans e34, ?_⟩
        rw [hD4, tk, List.filter_append, show [(p, q', s')].filter (fun z : P3 × P3 × P3 => decide (∃ w, walk u w = ren z.1 z.2.1 z.2.2 t)) = [] by simp at c ⊢; exact c, List.append_nil]
    obtain ⟨e2, hD⟩ := pv
    exact q D H2 (e1.trans e2) (Evl.fresh_back e1 nD) hD
theorem ok_namings_between (T : Top w K mg) : OkD P w K mg base 9 (He.ga K "namings_between") ["one", "other"] (sp_namings_between K) := by
  obtain ⟨fd, F⟩ := T.f_namings_between
  exact ⟨fd, fn_namings_between T F, F.binds (ps := ["one", "other"]) fun _ _ _ _ _ _ us hl => match us, hl with | [_, _], _ => rfl, F.kp⟩
end
end At

namespace At
open L2 PyProof.Rows PySem.Spec PySem
section
variable {base : Heap} {w : World} {K : PySem.W.Frag} {mg : Str → Option Value} {P : Program}
abbrev N_own_namings : List Str := ["standing"]
theorem sc_own_namings : FnScope N_own_namings ["standing"] (defScope s_own_namings) := ⟨rfl, rfl, rfl, by decide +kernel, rfl, by decide +kernel, by decide +kernel⟩
def sp_own_namings (K : PySem.W.Frag) : Sp := fun vs H Q _ => ∃ s t, vs = [.ref s] ∧ StAt K H s t ∧ big t ≤ GR ∧ ∀ r H', Ext H H' → H' r = some (.tup ((namFit t t).map namS)) → Q (.ref r) H'
theorem fn_own_namings (T : Top w K mg) {fd : FuncData} (F : Fun K "own_namings" "own_namings" s_own_namings (He.ga K "own_namings") fd) : FnOk P w K mg base CX0 10 (He.ga K "own_namings") fd ["standing"] (sp_own_namings K) := by
  obtain ⟨fd_check_standing, G_check_standing, b_check_standing, k_check_standing⟩ := ok_check_standing (P := P) (w := w) (base := base) T
  obtain ⟨fd_namings_between, G_namings_between, b_namings_between, k_namings_between⟩ := ok_namings_between (P := P) (w := w) (base := base) T
  refine F.ok sc_own_namings (fun vs H Q E h => ?hlen) (fun cdv A outer s H vs Q E hr h => ⟨_, (pss_cons (ps_expr (pe_call G_check_standing (hr.mono (by decide)) (by rfl) T.g_check_standing k_check_standing b_check_standing .nil pass0 (pa_cons (pv 0) pa_nil)))
    (pss_one (ps_ret (pe_callTy call_tuple_of (by rfl) T.b_tuple (by decide +kernel) (pa_cons (pe_call G_namings_between (hr.mono (by decide)) (by rfl) T.g_namings_between k_namings_between b_namings_between .nil pass0 (pa_cons (pv 0) (pa_cons (pv 0) pa_nil))) pa_nil))))), ?hrd⟩)
  case hlen =>
    obtain ⟨s, t, rfl, _⟩ := h
    rfl
  case hrd =>
    obtain ⟨s, t, rfl, hs, hb, q⟩ := h
    walk_at "gos"
    refine ⟨s, t, rfl, hs, ?_⟩
    walk_at "gos"
    refine ⟨s, s, t, t, rfl, hs, hs, hb, hb, fun l H1 e1 nl hl => ?_⟩
    walk_at "gos"
    refine ⟨l, _, rfl, .inl ⟨SqL.of hl, fun r nr => ?_⟩⟩
    exact q r _ (ext_new e1 nr) upd_same
theorem ok_own_namings (T : Top w K mg) : OkD P w K mg base 10 (He.ga K "own_namings") ["standing"] (sp_own_namings K) := by
  obtain ⟨fd, F⟩ := T.f_own_namings
  exact ⟨fd, fn_own_namings T F, F.binds (ps := ["standing"]) fun _ _ _ _ _ _ us hl => match us, hl with | [_], _ => rfl, F.kp⟩
theorem okk_own_namings (T : Top w K mg) : ∃ fd, FnOk P w K mg base CX0 10 (He.ga K "own_namings") fd ["standing"] (sp_own_namings K) ∧ PySem.W.keepIn K (.ref (He.ga K "own_namings")) = true ∧ KBn K fd ["standing"] 0 ["standing"] (fun us ws => gSame us ws) (fun vs zs => gSame vs zs) := by
  obtain ⟨fd, F⟩ := T.f_own_namings
  exact ⟨fd, fn_own_namings T F, F.kp, kbn_of F 0 ["standing"] gSame relSame fun _ _ _ _ _ _ us ws l1 l2 => match us, ws, l1, l2 with | [], [_], _, _ => rfl⟩
end
end At

namespace At
open L2 PyProof.Rows PySem.Spec PySem
section
variable {base : Heap} {w : World} {K : PySem.W.Frag} {mg : Str → Option Value} {P : Program}
abbrev N__law_near : List Str := ["_law_trio_here", "_law_bound_here", "_law_found", "_law_line_here", "_law_at", "_law_spot", "_law_fresh", "_law_part"]
theorem sc__law_near : FnScope N__law_near ["_law_trio_here", "_law_bound_here"] (defScope s__law_near) := ⟨rfl, rfl, rfl, by decide +kernel, rfl, by decide +kernel, by decide +kernel⟩
def sp__law_near (K : PySem.W.Frag) : Sp := fun vs H Q _ => ∃ a t B, vs = [.ref a, .int B] ∧ H a = some (.tup (tv t)) ∧ big t ≤ B ∧ B ≤ 120 ∧ ∀ d (ms : List LM) H', Ext H H' → H d = none → H' d = some (.dT (ms.map entN)) → (ms.map fun m => m.1).Nodup → (∀ u, u ∈ ms.map (fun m => m.1) ↔ BL B t u) → Q (.ref d) H'
theorem fn__law_near (T : Top w K mg) {fd : FuncData} (F : Fun K "_law_near" "_law_near" s__law_near (He.ga K "_law_near") fd) : FnOk P w K mg base CX0 3 (He.ga K "_law_near") fd ["_law_trio_here", "_law_bound_here"] (sp__law_near K) := by
  obtain ⟨fd__law_turn, G__law_turn, b__law_turn, k__law_turn⟩ := ok__law_turn (P := P) (w := w) (base := base) T
  refine F.ok sc__law_near (fun vs H Q E h => ?hlen) (fun cdv A outer s H vs Q E hr h => ⟨_, (pss_cons (ps_par3 (i := 2) (j := 3) (l := 4) (by rfl) sc__law_near.nd rfl rfl rfl (by decide) (by decide) (by decide) rfl rfl rfl (pa_cons (At.pe_dict1 (hu64 hr) (pv 0) pe_int) (pa_cons (pe_lst (pa_cons (pv 0) pa_nil)) (pa_cons pe_int pa_nil))) (by rfl))
    (pss_cons (ps_while PassesOwn.never (pt_cmpR op_lt (pv 4) (pe_callB call_len_seq (by rfl) T.b_len PySem.boot_len (pa_cons (pv 3) pa_nil)) (nomark _)) (pss_cons (ps_for PassesOwn.never rfl (pi_range1 (by rfl) T.b_range (pa_cons pe_int pa_nil)) (pg_name (i := 5) sc__law_near.nd rfl (Or.inl rfl)) (pss_cons (ps_set (i := 6) sc__law_near.nd rfl (Or.inl rfl) (pe_call G__law_turn (hr.mono (by decide)) (by rfl) T.g__law_turn k__law_turn b__law_turn .nil pass0 (pa_cons (pe_ix ix_list (pv 3) (pv 4) (fun _ _ => rfl)) (pa_cons (pv 5) pa_nil))))
    (pss_one (ps_if (PW.pt (pw_and (pt_cmp (pc_dnotin (hu1 hr) (pv 6) (pv 2)) (by with_unfolding_all rfl)) (pw_and1 (pt_cmpR op_le (pe_callB (cr_max rfl) (by rfl) T.b_max (by decide +kernel) (pa_cons (pe_lc (own := [("_law_part", 7)]) (g := gName 7) (tt := tYes) (by rfl) sc__law_near.nd (pi_tup (pv 6)) (blkOk_by (own := [("_law_part", 7)]) (N := N__law_near) (sc := defScope s__law_near) (by decide +kernel)) (fun _ _ _ _ _ => pg_name (i := 7) sc__law_near.nd rfl (by first | exact Or.inl rfl | exact Or.inr rfl)) (fun _ _ _ _ _ => pts_nil) (fun _ _ _ _ _ => (pe_callB call_abs (by rfl) T.b_abs (by decide +kernel) (pa_cons (pv 7) pa_nil)))) pa_nil)) (pv 1) (nomark _))))) (pss_cons (ps_dput (hu1 hr) (pv 2) (pv 6) (pe_op op_add (pe_dget (hu1 hr) (pv 2) (pe_ix ix_list (pv 3) (pv 4) (fun _ _ => rfl)) (fun _ _ => rfl)) pe_int) rfl)
    (pss_one (ps_expr (pe_bm PySem.F.plainAttrs_list PySem.F.slot_list_append PySem.F.type_list_append mt_append (pv 3) (pa_cons (pv 6) pa_nil))))) pss_nil))))
    (pss_one (ps_set (i := 4) sc__law_near.nd rfl (Or.inl rfl) (pe_op op_add (pv 4) pe_int)))))
    (pss_one (ps_ret (pv 2))))), ?hrd⟩)
  case hlen =>
    obtain ⟨a, t, B, rfl, _⟩ := h
    rfl
  case hrd =>
    obtain ⟨a, t, B, rfl, ha, hb, hB, q⟩ := h
    have B0 : 0 ≤ B := Int.le_trans (big_nonneg t) hb
    walk_at "gos"
    intro d nd
    walk_at "gos"
    have d1 : upd H d (.dT []) d = some (.dT []) := upd_same
    have a1 : upd H d (.dT []) a = some (.tup (tv t)) := mem_new nd ha
    refine ⟨a, tk t, rfl, a1, d1, ?_⟩
    walk_at "gos"
    intro l nl
    have l0 : H l = none := (none_back (none_back nl).1).1
    have ld : l ≠ d := (none_back nl).2
    have ad : a ≠ d := fun z => by rw [z, nd] at ha; cases ha
    have b1 : LI5 H (upd (upd (upd H d (.dT [])) d (.dT [(tk t, .int 0)])) l (.lst [.ref a])) d l t [(t, 0)] :=
      ⟨(((Evl.Ex.refl H).mut nd).mut nd).mut l0, nd, l0, ld, by rw [upd_ne (Ne.symm ld)]; exact upd_same, ⟨[a], upd_same, rfl, fun i r hr => by
        match i, hr with
        | 0, hr =>
          cases Option.some.inj hr
          refine ⟨t, rfl, ?_⟩
          rw [upd_ne (fun z => by rw [← z] at l0; rw [l0] at ha; cases ha), upd_ne ad]
          exact a1⟩, by simp, rfl⟩
    have q1 : BQ B t 0 [(t, 0)] := ⟨fun m hm => by rw [List.mem_singleton.mp hm]; exact .here hb, fun j m hj => absurd hj (by omega)⟩
    generalize upd (upd (upd H d (.dT [])) d (.dT [(tk t, .int 0)])) l (.lst [.ref a]) = H1 at b1 ⊢
    walk_at "gos"
    refine go_while (fun (k : Nat) (σ' : L2.St) (H' : Hp) => ∃ (n : Nat) (ms : List LM) (y5 y6 y7 : Option V), σ' = [some (.ref a), some (.int B), some (.ref d), some (.ref l), some (.int (n : Nat)), y5, y6, y7] ∧ LI5 H H' d l t ms ∧ BQ B t n ms ∧ n ≤ 13997521 ∧ k = 13997521 - n) 13997521 ⟨0, [(t, 0)], _, _, _, rfl, b1, q1, by omega, by omega⟩ ?_
    rintro k σ' H2 ⟨n, ms, y5, y6, y7, rfl, b2, q2, hn, rfl⟩
    obtain ⟨rs, hl2, rl, each⟩ := id b2.tl
    rw [List.length_map] at rl
    have few := q2.few b2.nd hB B0
    walk_at "gos"
    refine ⟨_, _, rfl, .inl (SqL.of hl2), ?_⟩
    walk_at "gos"
    rw [List.length_map, rl]
    refine go_ite (fun c => ?_) fun c => ?_
    · have hi2 : n < rs.length := by omega
      have him : n < ms.length := by omega
      obtain ⟨⟨u, k⟩, hm⟩ : ∃ m, ms[n]? = some m := ⟨ms[n], List.getElem?_eq_getElem him⟩
      refine ⟨fun σ' H' => ∃ (ms' : List LM) (y5 y6 y7 : Option V), σ' = [some (.ref a), some (.int B), some (.ref d), some (.ref l), some (.int ((n + 1 : Nat) : Int)), y5, y6, y7] ∧ LI5 H H' d l t ms' ∧ BQ B t (n + 1) ms', fun σ' H' ⟨ms', y5, y6, y7, z1, z2, z3⟩ => ⟨13997521 - (n + 1), by omega, n + 1, ms', y5, y6, y7, z1, z2, z3, by omega, rfl⟩, ?_⟩
      have bu : big u ≤ HUGE := Int.le_trans (q2.ok _ (List.mem_of_getElem? hm)).last (Int.le_trans hB (by decide +kernel))
      walk_at "gos"
      refine ⟨by decide, by decide, ?_⟩
      refine loop_range (fun j σ' H' => ∃ (ms' : List LM) (y5 y6 y7 : Option V), σ' = [some (.ref a), some (.int B), some (.ref d), some (.ref l), some (.int (n : Nat)), y5, y6, y7] ∧ LI5 H H' d l t ms' ∧ BQ B t n ms' ∧ ms'[n]? = some (u, k) ∧ ∀ p : P3, p.i < (j : Int) → big (turn p u) ≤ B → turn p u ∈ ms'.map fun m => m.1) ⟨ms, y5, y6, y7, rfl, b2, q2, hm, fun p hp => absurd (p3_ge p) (by omega)⟩ ?_ ?_
      · rintro j σ' H3 hj ⟨ms3, y5, y6, y7, rfl, b3, q3, hm3, own3⟩
        have hj : j < 3 := hj
        obtain ⟨p, hp⟩ := p3_of hj
        have few3 := q3.few b3.nd hB B0
        obtain ⟨rs3, hl3, rl3, each3⟩ := id b3.tl
        rw [List.length_map] at rl3
        have hi3 : n < rs3.length := by rw [rl3]; exact (List.getElem?_eq_some_iff.mp hm3).1
        obtain ⟨u3, hu3, hur3⟩ := each3 n _ (List.getElem?_eq_getElem hi3)
        rw [List.getElem?_map, hm3] at hu3
        cases Option.some.inj hu3
        have mem3 := List.mem_of_getElem? hm3
        walk_at "gos"
        refine go_rIxL (j := n) (v := .ref rs3[n]) (SqL.of hl3) (atI_nat (by rw [List.getElem?_map, List.getElem?_eq_getElem hi3]; rfl)) ?_
        walk_at "gos"
        rw [Int.zero_add, ← hp]
        refine ⟨rs3[n], u, p, rfl, hur3, bu, fun o H4 no e4 ho => ?_⟩
        obtain ⟨⟨x, y, z⟩, ev⟩ : ∃ v, turn p u = v := ⟨_, rfl⟩
        rw [ev] at ho
        have b4 := b3.ext e4
        have fin : ∀ (ms' : List LM), (∀ m ∈ ms3, m ∈ ms') → (big (x, y, z) ≤ B → (x, y, z) ∈ ms'.map fun m => m.1) → ∀ q : P3, q.i < ((j + 1 : Nat) : Int) → big (turn q u) ≤ B → turn q u ∈ ms'.map fun m => m.1 := fun ms' up h q hq hbq => by
          by_cases z : q.i < (j : Int)
          · obtain ⟨m, h2, h3⟩ := List.mem_map.mp (own3 q z hbq)
            exact List.mem_map.mpr ⟨m, up m h2, h3⟩
          · have : q = p := p3_inj (by omega)
            subst this
            rw [ev] at hbq ⊢
            exact h hbq
        walk_at "gos"
        refine ⟨d, _, rfl, DGet.t (k := tk (x, y, z)) b4.at_ ho, ?_⟩
        rw [valN_is b4.nd]
        walk_at "gos"
        refine go_iteN (fun c5 => ?_) (fun c5 => ?_)
        · walk_at "gos"
          refine go_lc ?_
          walk_at "gos"
          refine ⟨⟨tv (x, y, z), SqT.of ho⟩, lc_tupP ho (Nat.le_of_ble_eq_true rfl) natV (fun D nD v H' hv e QE hq => ?_) fun D nD H5 e5 hD => ?_⟩
          · obtain ⟨i, rfl⟩ : ∃ i, v = .int i := by
              simp only [tv, List.mem_cons, List.not_mem_nil, or_false] at hv
              rcases hv with rfl | rfl | rfl <;> exact ⟨_, rfl⟩
            walk_at "gos"
            refine ⟨rfl, ?_⟩
            walk_at "gos"
            exact hq H' (Evl.Ex.refl _)
          walk_at "gos"
          refine ⟨D, [nat x, nat y, nat z], rfl, SqL.of hD, Nat.succ_pos _, fun mx hmx hall => ?_⟩
          rw [abs_max hmx hall]
          have b5 := b4.ext e5
          have e45 := e4.trans e5
          walk_at "gos"
          by_cases c6 : big (x, y, z) ≤ B
          · rw [decide_eq_true c6]
            walk_at "gos"
            refine go_rIxL (j := n) (v := .ref rs3[n]) (SqL.of (e45 _ _ hl3)) (atI_nat (by rw [List.getElem?_map, List.getElem?_eq_getElem hi3]; rfl)) ?_
            refine ⟨d, .int (k : Nat), rfl, .inr ⟨_, tk u, rs3[n], .inl b5.at_, rfl, e45 _ _ hur3, (valN_some b5.nd mem3).symm⟩, ?_⟩
            walk_at "gos"
            refine ⟨d, _, rfl, .inr ⟨_, tk (x, y, z), o, b5.at_, rfl, e5 _ _ ho, by rw [List.length_map, sizeLine_eq]; omega, rfl⟩, ?_⟩
            rw [show (k : Int) + 1 = ((k + 1 : Nat) : Int) from rfl, putN_new c5]
            obtain ⟨ys, hy, yl, b6⟩ := b5.put (k := k + 1) c5 (e5 _ _ ho)
            walk_at "gos"
            refine go_app rfl hy ?_
            walk_at "gos"
            refine ⟨_, ys, .ref o, rfl, rfl, hy, by rw [yl, sizeLine_eq]; omega, ?_⟩
            have last : (x, y, z) ∈ (ms3 ++ [((x, y, z), k + 1)]).map fun m => m.1 := by rw [List.map_append]; exact List.mem_append_right _ (List.mem_singleton.mpr rfl)
            refine ⟨ms3 ++ [((x, y, z), k + 1)], _, _, _, rfl, b6, q3.put hm3 ev c6, ?_, fin _ (fun m h => List.mem_append_left _ h) fun _ => last⟩
            rw [List.getElem?_append_left (by have := (List.getElem?_eq_some_iff.mp hm3).1; exact this)]
            exact hm3
          · rw [decide_eq_false c6]
            walk_at "gos"
            exact ⟨ms3, _, _, _, rfl, b5, q3, hm3, fin ms3 (fun _ h => h) fun z => absurd z c6⟩
        · walk_at "gos"
          exact ⟨ms3, _, _, _, rfl, b4, q3, hm3, fin ms3 (fun _ h => h) fun _ => c5⟩
      · rintro σ' H3 ⟨ms3, y5, y6, y7, rfl, b3, q3, hm3, own3⟩
        walk_at "gos"
        exact ⟨ms3, _, _, _, rfl, b3, q3.next hm3 fun p hp => own3 p (p3_lt p) hp⟩
    · walk_at "gos"
      exact q d ms H2 b2.ex b2.d0 b2.at_ b2.nd (q2.all (by omega) (List.mem_map.mpr ⟨(t, 0), List.mem_of_getElem? b2.hd, rfl⟩))
theorem ok__law_near (T : Top w K mg) : OkD P w K mg base 3 (He.ga K "_law_near") ["_law_trio_here", "_law_bound_here"] (sp__law_near K) := by
  obtain ⟨fd, F⟩ := T.f__law_near
  exact ⟨fd, fn__law_near T F, F.binds (ps := ["_law_trio_here", "_law_bound_here"]) fun _ _ _ _ _ _ us hl => match us, hl with | [_, _], _ => rfl, F.kp⟩
end
end At

namespace At
open L2 PyProof.Rows PySem.Spec PySem
section
variable {base : Heap} {w : World} {K : PySem.W.Frag} {mg : Str → Option Value} {P : Program}
abbrev N__law_room : List Str := ["_law_some", "_law_trio_here", "_law_part"]
theorem sc__law_room : FnScope N__law_room ["_law_some"] (defScope s__law_room) := ⟨rfl, rfl, rfl, by decide +kernel, rfl, by decide +kernel, by decide +kernel⟩
def sp__law_room (K : PySem.W.Frag) : Sp := fun vs H Q _ => ∃ l a b t u, vs = [.ref l] ∧ H l = some (.lst [.ref a, .ref b]) ∧ H a = some (.tup (tv t)) ∧ H b = some (.tup (tv u)) ∧ ∀ B H', Ext H H' → szsum t ≤ B → szsum u ≤ B → (B = szsum t ∨ B = szsum u) → Q (.int B) H'
theorem fn__law_room (T : Top w K mg) {fd : FuncData} (F : Fun K "_law_room" "_law_room" s__law_room (He.ga K "_law_room") fd) : FnOk P w K mg base CX0 1 (He.ga K "_law_room") fd ["_law_some"] (sp__law_room K) := by
  refine F.ok sc__law_room (fun vs H Q E h => ?hlen) (fun cdv A outer s H vs Q E hr h => ⟨_, (pss_one (ps_ret (pe_callB (cr_max rfl) (by rfl) T.b_max (by decide +kernel) (pa_cons (pe_lc (own := [("_law_trio_here", 1)]) (g := gName 1) (tt := tYes) (by rfl) sc__law_room.nd (pi_list (pv 0)) (blkOk_by (own := [("_law_trio_here", 1)]) (N := N__law_room) (sc := defScope s__law_room) (by decide +kernel)) (fun _ _ _ _ _ => pg_name (i := 1) sc__law_room.nd rfl (by first | exact Or.inl rfl | exact Or.inr rfl)) (fun _ _ _ _ _ => pts_nil) (fun _ _ _ _ _ => (pe_callB (At.cr_sumK (K := K) rfl rfl) (by rfl) T.b_sum (by decide +kernel) (pa_cons (pe_lc (own := [("_law_part", 2)]) (g := gName 2) (tt := tYes) (by rfl) sc__law_room.nd (At.pi_tupK (K := K) rfl (pv 1)) (blkOk_by (own := [("_law_part", 2)]) (by rfl)) (fun _ _ _ _ _ => pg_name (i := 2) sc__law_room.nd rfl (by first | exact Or.inl rfl | exact Or.inr rfl)) (fun _ _ _ _ _ => pts_nil) (fun _ _ _ _ _ => (pe_callB call_abs (by rfl) T.b_abs (by decide +kernel) (pa_cons (pv 2) pa_nil)))) pa_nil)))) pa_nil)))), ?hrd⟩)
  case hlen =>
    obtain ⟨l, a, b, t, u, rfl, _⟩ := h
    rfl
  case hrd =>
    obtain ⟨l, a, b, t, u, rfl, hl, ha, hb, q⟩ := h
    walk_at "gos"
    refine go_lc ?_
    walk_at "gos"
    refine ⟨⟨_, SqL.of hl⟩, fun D nD => ?_⟩
    refine lc_it (walk_list (xs := [.ref a, .ref b])) (fun i H' => Ext H H' ∧ H' D = some (.lst (([szsum t, szsum u].take i).map V.int))) ⟨Evl.Ex.new nD, upd_same⟩ (fun i H' _ pv => SqL.of (pv.1 _ _ hl)) (fun i x H' H'' hi pv y => ?_) fun H2 pv => ?_
    · obtain ⟨e, hD⟩ := pv
      obtain ⟨rfl, hx⟩ := y
      obtain ⟨c, v, rfl, hc, tk⟩ : ∃ c v, x = .ref c ∧ H'' c = some (.tup (tv v)) ∧ [szsum t, szsum u].take (i + 1) = [szsum t, szsum u].take i ++ [szsum v] := by
        match i, hx with
        | 0, hx => cases Option.some.inj hx; exact ⟨a, t, rfl, e _ _ ha, rfl⟩
        | 1, hx => cases Option.some.inj hx; exact ⟨b, u, rfl, e _ _ hb, rfl⟩
      obtain ⟨x1, x2, x3⟩ := v
      walk_at "gos"
      refine ⟨rfl, ?_⟩
      refine go_yes ?_
      walk_at "gos"
      refine go_lc ?_
      walk_at "gos"
      refine ⟨⟨tv (x1, x2, x3), SqT.of hc⟩, lc_tupP hc (Nat.le_of_ble_eq_true rfl) natV (fun D2 nD2 v H' hv e2 QE hq => ?_) fun D2 nD2 H3 e3 hD2 => ?_⟩
      · obtain ⟨i, rfl⟩ : ∃ i, v = .int i := by
          simp only [tv, List.mem_cons, List.not_mem_nil, or_false] at hv
          rcases hv with rfl | rfl | rfl <;> exact ⟨_, rfl⟩
        walk_at "gos"
        refine ⟨rfl, ?_⟩
        walk_at "gos"
        exact hq H' (Evl.Ex.refl _)
      walk_at "gos"
      refine ⟨D2, [nat x1, nat x2, nat x3], rfl, SqL.of hD2, ?_⟩
      rw [show [nat x1, nat x2, nat x3].sum = szsum (x1, x2, x3) by show nat x1 + (nat x2 + (nat x3 + 0)) = nat x1 + nat x2 + nat x3; omega]
      refine ⟨_, e3 _ _ hD, ?_, (e.trans e3).mut nD, ?_⟩
      · have l2 : [szsum t, szsum u].length = 2 := rfl
        rw [List.length_map, List.length_take, sizeLine_eq, l2]
        omega
      · rw [upd_same, tk, List.map_append]
        rfl
    obtain ⟨e, hD⟩ := pv
    have hD : H2 D = some (.lst ([szsum t, szsum u].map V.int)) := hD
    walk_at "gos"
    refine ⟨D, [szsum t, szsum u], rfl, SqL.of hD, Nat.succ_pos _, fun m hm hall => ?_⟩
    refine q m H2 e (hall _ (by simp)) (hall _ (by simp)) ?_
    simpa using hm
theorem ok__law_room (T : Top w K mg) : OkD P w K mg base 1 (He.ga K "_law_room") ["_law_some"] (sp__law_room K) := by
  obtain ⟨fd, F⟩ := T.f__law_room
  exact ⟨fd, fn__law_room T F, F.binds (ps := ["_law_some"]) fun _ _ _ _ _ _ us hl => match us, hl with | [_], _ => rfl, F.kp⟩
end
end At

namespace At
open L2 PyProof.Rows PySem.Spec PySem
section
variable {base : Heap} {w : World} {K : PySem.W.Frag} {mg : Str → Option Value} {P : Program}
abbrev N__law_fitting : List Str := ["_law_trio_here", "_law_mate", "_law_around", "_law_letters"]
theorem sc__law_fitting : FnScope N__law_fitting ["_law_trio_here", "_law_mate"] (defScope s__law_fitting) := ⟨rfl, rfl, rfl, by decide +kernel, rfl, by decide +kernel, by decide +kernel⟩
def sp__law_fitting (K : PySem.W.Frag) : Sp := fun vs H Q _ => ∃ a b t u, vs = [.ref a, .ref b] ∧ H a = some (.tup (tv t)) ∧ H b = some (.tup (tv u)) ∧ big t ≤ 40 ∧ big u ≤ 40 ∧ ∀ l H', Ext H H' → H l = none → H' l = some (.lst ((namFit t u).map namS)) → Q (.ref l) H'
theorem split6 : (Txt.split ("abc acb bac bca cab cba" : Str) (" " : Str)).map V.str = nams.map namS := by decide +kernel
theorem fn__law_fitting (T : Top w K mg) {fd : FuncData} (F : Fun K "_law_fitting" "_law_fitting" s__law_fitting (He.ga K "_law_fitting") fd) : FnOk P w K mg base CX0 4 (He.ga K "_law_fitting") fd ["_law_trio_here", "_law_mate"] (sp__law_fitting K) := by
  obtain ⟨fd__law_near, G__law_near, b__law_near, k__law_near⟩ := ok__law_near (P := P) (w := w) (base := base) T
  obtain ⟨fd__law_room, G__law_room, b__law_room, k__law_room⟩ := ok__law_room (P := P) (w := w) (base := base) T
  obtain ⟨fd__law_renamed, G__law_renamed, b__law_renamed, k__law_renamed⟩ := ok__law_renamed (P := P) (w := w) (base := base) T
  refine F.ok sc__law_fitting (fun vs H Q E h => ?hlen) (fun cdv A outer s H vs Q E hr h => ⟨_, (pss_cons (ps_set (i := 2) sc__law_fitting.nd rfl (Or.inr rfl) (pe_call G__law_near (hr.mono (by decide)) (by rfl) T.g__law_near k__law_near b__law_near .nil pass0 (pa_cons (pv 1) (pa_cons (pe_call G__law_room (hr.mono (by decide)) (by rfl) T.g__law_room k__law_room b__law_room .nil pass0 (pa_cons (pe_lst (pa_cons (pv 0) (pa_cons (pv 1) pa_nil))) pa_nil)) pa_nil))))
    (pss_one (ps_ret (pe_lc (own := [("_law_letters", 3)]) (g := gName 3)  (by rfl) sc__law_fitting.nd (pi_list (pe_split pe_str pe_str)) (blkOk_by (own := [("_law_letters", 3)]) (N := N__law_fitting) (sc := defScope s__law_fitting) (by decide +kernel)) (fun _ _ _ _ _ => pg_name (i := 3) sc__law_fitting.nd rfl (by first | exact Or.inl rfl | exact Or.inr rfl)) (fun _ _ _ _ _ => (pts_one (pt_cmp (pc_din (hu1 hr) (pe_call G__law_renamed (hr.mono (by decide)) (by rfl) T.g__law_renamed k__law_renamed b__law_renamed .nil pass0 (pa_cons (pv 0) (pa_cons (pv 3) pa_nil))) (pv 2)) (by with_unfolding_all rfl)))) (fun _ _ _ _ _ => (pv 3)))))), ?hrd⟩)
  case hlen =>
    obtain ⟨a, b, t, u, rfl, _⟩ := h
    rfl
  case hrd =>
    obtain ⟨a, b, t, u, rfl, ha, hb, b1, b2, q⟩ := h
    have small : ∀ v : T3, big v ≤ 40 → szsum v ≤ 120 := fun v hv => by
      obtain ⟨h1, h2, h3⟩ := (big_le (t := v)).mp hv
      show nat v.1 + nat v.2.1 + nat v.2.2 ≤ 120
      omega
    walk_at "gos"
    intro l nl
    walk_at "gos"
    refine ⟨l, a, b, t, u, rfl, upd_same, mem_new nl ha, mem_new nl hb, fun B H1 e1 hB1 hB2 hB3 => ?_⟩
    have e1' : Ext H H1 := (Evl.Ex.new nl).trans e1
    walk_at "gos"
    refine ⟨b, u, B, rfl, e1' _ _ hb, Int.le_trans (big_sum u) hB2, by have := small t b1; have := small u b2; omega, fun d ms H2 e2 d0 hd nd all => ?_⟩
    have key : ∀ p q r, Nam p q r → decide (ren p q r t ∈ ms.map fun m => m.1) = decide (∃ w, walk u w = ren p q r t) := fun p q r nm => by
      rw [decide_eq_decide, all]
      constructor
      · exact fun z => z.walk
      · intro z
        refine box_link z hB2 ?_
        rw [ren_sum nm]
        exact hB1
    walk_at "gos"
    refine go_lcT ?_
    walk_at "gos"
    refine ⟨⟨_, rfl⟩, _, _, rfl, rfl, by decide +kernel, Nat.le_of_ble_eq_true rfl, fun l2 nl2 => ?_⟩
    rw [split6]
    have hL : upd H2 l2 (.lst (nams.map namS)) l2 = some (.lst (nams.map namS)) := upd_same
    have e3 := ext_new (o := .lst (nams.map namS)) (e1'.trans e2) nl2
    have hd3 : upd H2 l2 (.lst (nams.map namS)) d = some (.dT (ms.map entN)) := mem_new nl2 hd
    generalize upd H2 l2 (.lst (nams.map namS)) = H3 at hL e3 hd3 ⊢
    refine ⟨l2, rfl, ⟨_, SqL.of hL⟩, fun D nD => ?_⟩
    refine lc_it (walk_list (xs := nams.map namS)) (fun i H' => Ext H3 H' ∧ H' D = some (.lst (((nams.take i).filter fun z : P3 × P3 × P3 => decide (∃ w, walk u w = ren z.1 z.2.1 z.2.2 t)).map namS))) ⟨Evl.Ex.new nD, upd_same⟩ (fun i H' _ pv => SqL.of (pv.1 _ _ hL)) (fun i x H' H'' hi pv y => ?_) fun H5 pv => ?_
    · obtain ⟨e, hD⟩ := pv
      obtain ⟨rfl, hx⟩ := y
      rw [List.getElem?_map] at hx
      obtain ⟨⟨p, q', s'⟩, hz, rfl⟩ := Option.map_eq_some_iff.mp hx
      have nm := nams_ok (List.mem_of_getElem? hz)
      have tk' : nams.take (i + 1) = nams.take i ++ [(p, q', s')] := by rw [List.take_add_one, hz]; rfl
      have hlen : (((nams.take i).filter fun z : P3 × P3 × P3 => decide (∃ w, walk u w = ren z.1 z.2.1 z.2.2 t)).map namS).length < sizeLine := by
        (rw [List.length_map, sizeLine_eq])
        have := List.length_filter_le (fun z : P3 × P3 × P3 => decide (∃ w, walk u w = ren z.1 z.2.1 z.2.2 t)) (nams.take i)
        rw [List.length_take] at this
        have h6 : nams.length = 6 := rfl
        omega
      walk_at "gos"
      refine ⟨rfl, ?_⟩
      walk_at "gos"
      refine ⟨a, t, p, q', s', rfl, e _ _ (e3 _ _ ha), nm, fun o H6 e6 no ho => ?_⟩
      walk_at "gos"
      refine ⟨d, _, rfl, DGet.t (k := tk (ren p q' s' t)) (e6 _ _ (e _ _ hd3)) ho, ?_⟩
      rw [valN_is nd, key p q' s' nm]
      have hD6 := e6 _ _ hD
      walk_at "gos"
      by_cases c : ∃ w, walk u w = ren p q' s' t
      · rw [decide_eq_true c]
        walk_at "gos"
        refine ⟨_, hD6, hlen, (e.trans e6).mut nD, ?_⟩
        rw [upd_same, tk', List.filter_append, show [(p, q', s')].filter (fun z : P3 × P3 × P3 => decide (∃ w, walk u w = ren z.1 z.2.1 z.2.2 t)) = [(p, q', s')] by simp [c], List.map_append]
        rfl
      · rw [decide_eq_false c]
        walk_at "gos"
        refine ⟨e.trans e6, ?_⟩
        rw [hD6, tk', List.filter_append, show [(p, q', s')].filter (fun z : P3 × P3 × P3 => decide (∃ w, walk u w = ren z.1 z.2.1 z.2.2 t)) = [] by simp at c ⊢; exact c, List.append_nil]
    obtain ⟨e5, hD⟩ := pv
    exact q D H5 (e3.trans e5) (Evl.fresh_back e3 nD) hD
theorem ok__law_fitting (T : Top w K mg) : OkD P w K mg base 4 (He.ga K "_law_fitting") ["_law_trio_here", "_law_mate"] (sp__law_fitting K) := by
  obtain ⟨fd, F⟩ := T.f__law_fitting
  exact ⟨fd, fn__law_fitting T F, F.binds (ps := ["_law_trio_here", "_law_mate"]) fun _ _ _ _ _ _ us hl => match us, hl with | [_, _], _ => rfl, F.kp⟩
end
end At

namespace At
open L2 PyProof.Rows PySem.Spec PySem
section
variable {base : Heap} {w : World} {K : PySem.W.Frag} {mg : Str → Option Value} {P : Program}
abbrev N_naming_between : List Str := ["one", "other", "namings"]
theorem sc_naming_between : FnScope N_naming_between ["one", "other"] (defScope s_naming_between) := ⟨rfl, rfl, rfl, by decide +kernel, rfl, by decide +kernel, by decide +kernel⟩
def sp_naming_between (K : PySem.W.Frag) : Sp := fun vs H Q _ => ∃ s1 s2 t u, vs = [.ref s1, .ref s2] ∧ StAt K H s1 t ∧ StAt K H s2 u ∧ big t ≤ GR ∧ big u ≤ GR ∧ ∀ H', Ext H H' → Q (((namFit t u).map namS).headD .non) H'
theorem fn_naming_between (T : Top w K mg) {fd : FuncData} (F : Fun K "naming_between" "naming_between" s_naming_between (He.ga K "naming_between") fd) : FnOk P w K mg base CX0 10 (He.ga K "naming_between") fd ["one", "other"] (sp_naming_between K) := by
  obtain ⟨fd_check_standing, G_check_standing, b_check_standing, k_check_standing⟩ := ok_check_standing (P := P) (w := w) (base := base) T
  obtain ⟨fd_namings_between, G_namings_between, b_namings_between, k_namings_between⟩ := ok_namings_between (P := P) (w := w) (base := base) T
  refine F.ok sc_naming_between (fun vs H Q E h => ?hlen) (fun cdv A outer s H vs Q E hr h => ⟨_, (pss_cons (ps_expr (pe_call G_check_standing (hr.mono (by decide)) (by rfl) T.g_check_standing k_check_standing b_check_standing .nil pass0 (pa_cons (pv 0) pa_nil)))
    (pss_cons (ps_expr (pe_call G_check_standing (hr.mono (by decide)) (by rfl) T.g_check_standing k_check_standing b_check_standing .nil pass0 (pa_cons (pv 1) pa_nil)))
    (pss_cons (ps_set (i := 2) sc_naming_between.nd rfl (Or.inl rfl) (pe_call G_namings_between (hr.mono (by decide)) (by rfl) T.g_namings_between k_namings_between b_namings_between .nil pass0 (pa_cons (pv 0) (pa_cons (pv 1) pa_nil))))
    (pss_one (ps_ret (pe_ifExp (pt_truth (pv 2) (by intro _; rfl)) (pe_ix ix_list (pv 2) pe_int (fun _ _ => rfl)) pe_non)))))), ?hrd⟩)
  case hlen =>
    obtain ⟨s1, s2, t, u, rfl, _⟩ := h
    rfl
  case hrd =>
    obtain ⟨s1, s2, t, u, rfl, h1, h2, b1, b2, q⟩ := h
    walk_at "gos"
    refine ⟨s1, t, rfl, h1, ?_⟩
    walk_at "gos"
    refine ⟨s2, u, rfl, h2, ?_⟩
    walk_at "gos"
    refine ⟨s1, s2, t, u, rfl, h1, h2, b1, b2, fun l H1 e1 nl hl => ?_⟩
    walk_at "gos"
    have fin := q H1 e1
    generalize (namFit t u).map namS = zs at hl fin
    refine ⟨_, .inl ⟨_, SqL.of hl, rfl⟩, ?_⟩
    cases zs with
    | nil =>
      refine go_iteNo rfl ?_
      walk_at "gos"
      exact fin
    | cons z zs =>
      refine go_iteYes rfl ?_
      walk_at "gos"
      refine go_rIxL (v := z) (SqL.of hl) (atI_nat (j := 0) rfl) ?_
      exact fin
theorem ok_naming_between (T : Top w K mg) : OkD P w K mg base 10 (He.ga K "naming_between") ["one", "other"] (sp_naming_between K) := by
  obtain ⟨fd, F⟩ := T.f_naming_between
  exact ⟨fd, fn_naming_between T F, F.binds (ps := ["one", "other"]) fun _ _ _ _ _ _ us hl => match us, hl with | [_, _], _ => rfl, F.kp⟩
theorem okk_naming_between (T : Top w K mg) : ∃ fd, FnOk P w K mg base CX0 10 (He.ga K "naming_between") fd ["one", "other"] (sp_naming_between K) ∧ PySem.W.keepIn K (.ref (He.ga K "naming_between")) = true ∧ KBn K fd ["one", "other"] 0 ["other", "one"] (fun us ws => gSwap us ws) (fun vs zs => gSwap vs zs) := by
  obtain ⟨fd, F⟩ := T.f_naming_between
  exact ⟨fd, fn_naming_between T F, F.kp, kbn_of F 0 ["other", "one"] gSwap relSwap fun _ _ _ _ _ _ us ws l1 l2 => match us, ws, l1, l2 with | [], [_, _], _, _ => rfl⟩
end
end At

namespace At
open L2 PyProof.Rows PySem.Spec PySem
section
variable {base : Heap} {w : World} {K : PySem.W.Frag} {mg : Str → Option Value} {P : Program}
abbrev N__law_behind : List Str := ["_law_letters", "_law_others", "_law_letter"]
theorem sc__law_behind : FnScope N__law_behind ["_law_letters", "_law_others"] (defScope s__law_behind) := ⟨rfl, rfl, rfl, by decide +kernel, rfl, by decide +kernel, by decide +kernel⟩
def sp__law_behind (K : PySem.W.Frag) : Sp := fun vs H Q _ => ∃ z y : P3 × P3 × P3, vs = [namS z, namS y] ∧ ∀ H', Ext H H' → Q (namS (comp z y)) H'
theorem join3 (p q r : P3) : Txt.join ("" : Str) [lt p, lt q, lt r] = wd [p, q, r] := by cases p <;> cases q <;> cases r <;> decide +kernel
theorem fn__law_behind (T : Top w K mg) {fd : FuncData} (F : Fun K "_law_behind" "_law_behind" s__law_behind (He.ga K "_law_behind") fd) : FnOk P w K mg base CX0 1 (He.ga K "_law_behind") fd ["_law_letters", "_law_others"] (sp__law_behind K) := by
  refine F.ok sc__law_behind (fun vs H Q E h => ?hlen) (fun cdv A outer s H vs Q E hr h => ⟨_, (pss_one (ps_ret (pe_join pe_str (pe_lc (own := [("_law_letter", 2)]) (g := gName 2) (tt := tYes) (by rfl) sc__law_behind.nd (pi_str (pv 1)) (blkOk_by (own := [("_law_letter", 2)]) (N := N__law_behind) (sc := defScope s__law_behind) (by decide +kernel)) (fun _ _ _ _ _ => pg_name (i := 2) sc__law_behind.nd rfl (by first | exact Or.inl rfl | exact Or.inr rfl)) (fun _ _ _ _ _ => pts_nil) (fun _ _ _ _ _ => (pe_ix ix_str (pv 0) (pe_m1 PySem.F.slot_str_index PySem.F.type_str_index mt_sindex pe_str (pv 2)) (fun _ _ => rfl))))))), ?hrd⟩)
  case hlen =>
    obtain ⟨z, y, rfl, _⟩ := h
    rfl
  case hrd =>
    obtain ⟨z, y, rfl, q⟩ := h
    have e0 : namS z = .str (wd [z.1, z.2.1, z.2.2]) := rfl
    have e1 : namS y = .str (wd [y.1, y.2.1, y.2.2]) := rfl
    rw [e0, e1]
    walk_at "gos"
    refine ⟨⟨_, rfl⟩, ?_⟩
    refine go_lc ?_
    walk_at "gos"
    intro D nD
    refine lc_it walk_str (fun i H' => Ext H H' ∧ H' D = some (.lst (([y.1, y.2.1, y.2.2].take i).map fun p => V.str (lt (nth3 z.1 z.2.1 z.2.2 p))))) ⟨Evl.Ex.new nD, upd_same⟩ (fun _ _ _ _ => trivial) (fun i x H' H'' hi pv y' => ?_) fun H2 pv => ?_
    · obtain ⟨e, hD⟩ := pv
      obtain ⟨rfl, ch, hch, rfl⟩ := y'
      obtain ⟨s, hs, rfl⟩ := wd_at (ps := [y.1, y.2.1, y.2.2]) hch
      have tk : [y.1, y.2.1, y.2.2].take (i + 1) = [y.1, y.2.1, y.2.2].take i ++ [s] := by rw [List.take_add_one, hs]; rfl
      walk_at "gos"
      refine ⟨rfl, ?_⟩
      refine go_yes ?_
      walk_at "gos"
      refine ⟨⟨_, rfl⟩, ?_⟩
      walk_at "gos"
      refine ⟨_, _, s.i.toNat, [], rfl, rfl, by cases s <;> decide +kernel, ?_⟩
      refine ⟨_, _, (nth3 z.1 z.2.1 z.2.2 s).ch, rfl, rfl, Nat.le_of_ble_eq_true rfl, by cases s <;> rfl, ?_⟩
      have l3 : [y.1, y.2.1, y.2.2].length = 3 := rfl
      refine ⟨_, hD, by rw [List.length_map, List.length_take, sizeLine_eq, l3]; omega, e.mut nD, ?_⟩
      rw [upd_same, tk, List.map_append]
      rfl
    obtain ⟨e, hD⟩ := pv
    have hD : H2 D = some (.lst (([lt (nth3 z.1 z.2.1 z.2.2 y.1), lt (nth3 z.1 z.2.1 z.2.2 y.2.1), lt (nth3 z.1 z.2.1 z.2.2 y.2.2)]).map V.str)) := hD
    refine ⟨_, D, [lt (nth3 z.1 z.2.1 z.2.2 y.1), lt (nth3 z.1 z.2.1 z.2.2 y.2.1), lt (nth3 z.1 z.2.1 z.2.2 y.2.2)], rfl, rfl, .inl (SqL.of hD), Nat.le_of_ble_eq_true rfl, ?_⟩
    rw [join3]
    exact q H2 e
theorem ok__law_behind (T : Top w K mg) : OkD P w K mg base 1 (He.ga K "_law_behind") ["_law_letters", "_law_others"] (sp__law_behind K) := by
  obtain ⟨fd, F⟩ := T.f__law_behind
  exact ⟨fd, fn__law_behind T F, F.binds (ps := ["_law_letters", "_law_others"]) fun _ _ _ _ _ _ us hl => match us, hl with | [_, _], _ => rfl, F.kp⟩
end
end At

namespace At
open L2 PyProof.Rows PySem.Spec PySem
section
variable {base : Heap} {w : World} {K : PySem.W.Frag} {mg : Str → Option Value} {P : Program}
abbrev N__law_case_right : List Str := ["_law_purse_here", "_law_turn_here", "_law_trio_here", "_law_thing", "_law_due", "_law_seen", "_law_mate", "_law_letters"]
theorem sc__law_case_right : FnScope N__law_case_right ["_law_purse_here"] (defScope s__law_case_right) := ⟨rfl, rfl, rfl, by decide +kernel, rfl, by decide +kernel, by decide +kernel⟩
def sp__law_case_right (K : PySem.W.Frag) : Sp := fun vs H Q _ => ∃ c, vs = [.ref c] ∧ Purse H c ∧ ∀ H', ExtC c H H' → Purse H' c → Q (.bl true) H'
theorem gn__law_case_right (T : Top w K mg) : FnG P w K mg base 11 (He.ga K "_law_case_right") (sp__law_case_right K) := by
  obtain ⟨fd__law_trio, G__law_trio, b__law_trio, k__law_trio⟩ := ok__law_trio (P := P) (w := w) (base := base) T
  obtain ⟨fd__law_fitting, G__law_fitting, b__law_fitting, k__law_fitting⟩ := ok__law_fitting (P := P) (w := w) (base := base) T
  obtain ⟨fd_Standing___init__, G_Standing___init__, b_Standing___init__, k_Standing___init__⟩ := ok_Standing___init__ (P := P) (w := w) (base := base) T
  obtain ⟨fdk_own_namings, Gk_own_namings, kk_own_namings, kb_own_namings⟩ := okk_own_namings (P := P) (w := w) (base := base) T
  obtain ⟨fd_own_namings, G_own_namings, b_own_namings, k_own_namings⟩ := ok_own_namings (P := P) (w := w) (base := base) T
  obtain ⟨fd_naming_between, G_naming_between, b_naming_between, k_naming_between⟩ := ok_naming_between (P := P) (w := w) (base := base) T
  obtain ⟨fd__law_behind, G__law_behind, b__law_behind, k__law_behind⟩ := ok__law_behind (P := P) (w := w) (base := base) T
  obtain ⟨fd__law_led, G__law_led, b__law_led, k__law_led⟩ := ok__law_led (P := P) (w := w) (base := base) T
  obtain ⟨fd__law_renamed, G__law_renamed, b__law_renamed, k__law_renamed⟩ := ok__law_renamed (P := P) (w := w) (base := base) T
  obtain ⟨fd__law_pick, G__law_pick, b__law_pick, k__law_pick⟩ := ok__law_pick (P := P) (w := w) (base := base) T
  obtain ⟨fd, F⟩ := T.f__law_case_right
  refine okG F sc__law_case_right (fun vs H Q E h => ?hlen) (fun _ _ _ _ _ _ us hl => match us, hl with | [_], _ => rfl) (fun cdv A outer s H vs Q E quiet hr h => ⟨_, (pss_cons (ps_for PassesOwn.never rfl (pi_range1 (by rfl) T.b_range (pa_cons pe_int pa_nil)) (pg_name (i := 1) sc__law_case_right.nd rfl (Or.inl rfl)) (pss_cons (ps_set (i := 2) sc__law_case_right.nd rfl (Or.inl rfl) (pe_call G__law_trio (hr.mono (by decide)) (by rfl) T.g__law_trio k__law_trio b__law_trio .nil pass0 (pa_cons (pv 0) pa_nil)))
    (Evl.pss_cut (ps_asg (pe_tup (pa_cons (pe_make T.m_Standing G_Standing___init__ (hr.mono (by decide)) (by rfl) T.g_Standing b_Standing___init__ .nil pass0 (pa_cons (pe_ix ix_tup (pv 2) pe_int (fun _ _ => rfl)) (pa_cons (pe_ix ix_tup (pv 2) pe_int (fun _ _ => rfl)) (pa_cons (pe_ix ix_tup (pv 2) pe_int (fun _ _ => rfl)) pa_nil)))) (pa_cons (pe_callTy call_tuple_of (by rfl) T.b_tuple (by decide +kernel) (pa_cons (pe_call G__law_fitting (hr.mono (by decide)) (by rfl) T.g__law_fitting k__law_fitting b__law_fitting .nil pass0 (pa_cons (pv 2) (pa_cons (pv 2) pa_nil))) pa_nil)) pa_nil))) (pg_tup (by rfl) (pgs_cons (pg_name (i := 3) sc__law_case_right.nd rfl (Or.inl rfl)) (pgs_cons (pg_name (i := 4) sc__law_case_right.nd rfl (Or.inr rfl)) pgs_nil))))
    (Evl.pss_cut (ps_set (i := 5) sc__law_case_right.nd rfl (Or.inl rfl) (pe_lst (pa_cons (pe_call G_own_namings (hr.mono (by decide)) (by rfl) T.g_own_namings k_own_namings b_own_namings .nil pass0 (pa_cons (pv 3) pa_nil)) (pa_cons (pe_callN0 Gk_own_namings (hr.mono (by decide)) (by rfl) T.g_own_namings kk_own_namings kb_own_namings pass0 (pk_cons (pv 3) pk_nil)) pa_nil))))
    (Evl.pss_cut (ps_if (PW.pt (pw_or (pt_cmpR op_ne (pe_callB (EX.call_repr_ quiet (hu64 hr)) (by rfl) T.b_repr (by decide +kernel) (pa_cons (pv 5) pa_nil)) (pe_callB (EX.call_repr_ quiet (hu64 hr)) (by rfl) T.b_repr (by decide +kernel) (pa_cons (pe_lst (pa_cons (pv 4) (pa_cons (pv 4) pa_nil))) pa_nil)) (nomark _)) (pw_or (pt_cmpR op_notIn_seq pe_str (pv 4) (by with_unfolding_all rfl)) (pw_or1 (pt_cmpR op_ne (pe_call G_naming_between (hr.mono (by decide)) (by rfl) T.g_naming_between k_naming_between b_naming_between .nil pass0 (pa_cons (pv 3) (pa_cons (pv 3) pa_nil))) pe_str (nomark _)))))) (pss_one (ps_ret pe_bl)) pss_nil)
    (Evl.pss_cut (ps_if (pt_not (pt_val (pe_callB (cr_all rfl) (by rfl) T.b_all (by decide +kernel) (pa_cons (pe_lc (own := [("_law_letters", 7)]) (g := gName 7) (tt := tYes) (by rfl) sc__law_case_right.nd (pi_tup (pv 4)) (blkOk_by (own := [("_law_letters", 7)]) (N := N__law_case_right) (sc := defScope s__law_case_right) (by decide +kernel)) (fun _ _ _ _ _ => pg_name (i := 7) sc__law_case_right.nd rfl (by first | exact Or.inl rfl | exact Or.inr rfl)) (fun _ _ _ _ _ => pts_nil) (fun _ _ _ _ _ => (pe_cmpR (At.op_in_seqK (K := K) rfl) (pe_call G__law_behind (hr.mono (by decide)) (by rfl) T.g__law_behind k__law_behind b__law_behind .nil pass0 (pa_cons (pv 7) (pa_cons (pe_ix (ix_tup' (K := K)) (pv 4) (pe_un un_neg pe_int) (fun _ _ => rfl)) pa_nil))) (pv 4) (by with_unfolding_all rfl)))) pa_nil)))) (pss_one (ps_ret pe_bl)) pss_nil)
    (pss_cons (ps_set (i := 6) sc__law_case_right.nd rfl (Or.inl rfl) (pe_call G__law_led (hr.mono (by decide)) (by rfl) T.g__law_led k__law_led b__law_led .nil pass0 (pa_cons (pv 0) (pa_cons (pv 2) (pa_cons pe_int (pa_cons pe_int pa_nil))))))
    (Evl.pss_cut (ps_if (pt_cmpR (op_neD (hu64 hr)) (pe_call G_own_namings (hr.mono (by decide)) (by rfl) T.g_own_namings k_own_namings b_own_namings .nil pass0 (pa_cons (pe_make T.m_Standing G_Standing___init__ (hr.mono (by decide)) (by rfl) T.g_Standing b_Standing___init__ .nil pass0 (pa_cons (pe_ix ix_tup (pv 6) pe_int (fun _ _ => rfl)) (pa_cons (pe_ix ix_tup (pv 6) pe_int (fun _ _ => rfl)) (pa_cons (pe_ix ix_tup (pv 6) pe_int (fun _ _ => rfl)) pa_nil)))) pa_nil)) (pv 4) (nomark _)) (pss_one (ps_ret pe_bl)) pss_nil)
    (pss_cons (ps_set (i := 6) sc__law_case_right.nd rfl (Or.inl rfl) (pe_call G__law_renamed (hr.mono (by decide)) (by rfl) T.g__law_renamed k__law_renamed b__law_renamed .nil pass0 (pa_cons (pv 2) (pa_cons (pe_call G__law_pick (hr.mono (by decide)) (by rfl) T.g__law_pick k__law_pick b__law_pick .nil pass0 (pa_cons (pv 0) (pa_cons (pe_lst (pa_cons pe_str (pa_cons pe_str (pa_cons pe_str (pa_cons pe_str (pa_cons pe_str pa_nil)))))) pa_nil))) pa_nil))))
    (pss_one (ps_if (pt_cmpR op_ne (pe_callB call_len_seq (by rfl) T.b_len PySem.boot_len (pa_cons (pe_call G_own_namings (hr.mono (by decide)) (by rfl) T.g_own_namings k_own_namings b_own_namings .nil pass0 (pa_cons (pe_make T.m_Standing G_Standing___init__ (hr.mono (by decide)) (by rfl) T.g_Standing b_Standing___init__ .nil pass0 (pa_cons (pe_ix ix_tup (pv 6) pe_int (fun _ _ => rfl)) (pa_cons (pe_ix ix_tup (pv 6) pe_int (fun _ _ => rfl)) (pa_cons (pe_ix ix_tup (pv 6) pe_int (fun _ _ => rfl)) pa_nil)))) pa_nil)) pa_nil)) (pe_callB call_len_seq (by rfl) T.b_len PySem.boot_len (pa_cons (pv 4) pa_nil)) (nomark _)) (pss_one (ps_ret pe_bl)) pss_nil)))))))))))
    (pss_one (ps_ret pe_bl))), ?hrd⟩)
  case hlen =>
    obtain ⟨c, rfl, _⟩ := h
    rfl
  case hrd =>
    obtain ⟨c, rfl, hc, q⟩ := h
    walk_at "gos"
    refine ⟨by decide, by decide, ?_⟩
    refine loop_range (fun i σ' H' => ∃ u1 u2 u3 u4 u5 u6 u7, σ' = [some (.ref c), u1, u2, u3, u4, u5, u6, u7] ∧ ExtC c H H' ∧ Purse H' c) ⟨_, _, _, _, _, _, _, rfl, ExtC.refl _ _, hc⟩ ?_ ?_
    · rintro i σ' H1 hi ⟨u1, u2, u3, u4, u5, u6, u7, rfl, e1, hc1⟩
      walk_at "gos"
      refine ⟨c, rfl, hc1, fun a t H2 bt e2 hc2 ha => ?_⟩
      have x2 := e1.trans e2
      have gr : ∀ {v : T3}, big v ≤ 60 → big v ≤ GR := fun h => Int.le_trans h (by decide +kernel)
      have bt60 : big t ≤ 60 := Int.le_trans bt (by decide)
      obtain ⟨zs, hzs⟩ : ∃ zs, namFit t t = zs := ⟨_, rfl⟩
      have sub : zs ∈ subs nams := by rw [← hzs]; exact filter_subs _ nams
      walk_at "gos"
      refine go_cut (fun σ' H' => ∃ o r, σ' = [some (.ref c), some (.int (0 + (i : Nat))), some (.ref a), some (.ref o), some (.ref r), u5, u6, u7] ∧ StAt K H' o t ∧ H' r = some (.tup (zs.map namS)) ∧ Ext H2 H') ?_ ?_
      · obtain ⟨t1, t2, t3⟩ := t
        walk_at "gos"
        refine go_rIxT (j := 0) (v := .int t1) (SqT.of ha) rfl ?_
        walk_at "gos"
        refine go_rIxT (j := 1) (v := .int t2) (SqT.of ha) rfl ?_
        walk_at "gos"
        refine go_rIxT (j := 2) (v := .int t3) (SqT.of ha) rfl ?_
        walk_at "gos"
        intro x1 dx1 nx1 nd1 hne1
        refine ⟨x1, dx1, (t1, t2, t3), _, rfl, upd_same, (Evl.Ex.new nd1).mut nx1, nx1, gr bt60, fun m1 H4 e4 h1 h2 => ⟨rfl, ?_⟩⟩
        have st1 : StAt K H4 x1 (t1, t2, t3) := ⟨dx1, m1, h1, h2⟩
        walk_at "gos"
        refine ⟨a, a, (t1, t2, t3), (t1, t2, t3), rfl, e4 _ _ ha, e4 _ _ ha, bt, bt, fun l H5 e5 nl hl => ?_⟩
        rw [hzs] at hl
        walk_at "gos"
        refine ⟨l, _, rfl, .inl ⟨SqL.of hl, fun r nr => ?_⟩⟩
        walk_at "gos"
        intro p np
        have e6 := ext_new (o := .tup [.ref x1, .ref r]) (ext_new (o := .tup (zs.map namS)) e5 nr) np
        have hr : upd (upd H5 r (.tup (zs.map namS))) p (.tup [.ref x1, .ref r]) r = some (.tup (zs.map namS)) := mem_new np upd_same
        refine go_gTup (xs := [.ref x1, .ref r]) (SqT.of upd_same) rfl ?_
        walk_at "gos"
        exact ⟨st1.ext e6, hr, e4.trans e6⟩
      rintro σ2 H3 ⟨o, r, rfl, st, hr, e3⟩
      walk_at "gos"
      refine go_cut (fun σ' H' => ∃ l s1 s2, σ' = [some (.ref c), some (.int (0 + (i : Nat))), some (.ref a), some (.ref o), some (.ref r), some (.ref l), u6, u7] ∧ H' l = some (.lst [.ref s1, .ref s2]) ∧ H' s1 = some (.tup (zs.map namS)) ∧ H' s2 = some (.tup (zs.map namS)) ∧ Ext H3 H') ?_ ?_
      · walk_at "gos"
        refine ⟨o, t, rfl, st, gr bt60, fun s1 H4 e4 h1 => ?_⟩
        rw [hzs] at h1
        walk_at "gos"
        refine ⟨rfl, o, t, rfl, st.ext e4, gr bt60, fun s2 H5 e5 h2 => ?_⟩
        rw [hzs] at h2
        walk_at "gos"
        intro l nl
        walk_at "gos"
        exact ⟨l, s1, s2, rfl, upd_same, mem_new nl (e5 _ _ h1), mem_new nl h2, ext_new (e4.trans e5) nl⟩
      rintro σ3 H4 ⟨l, s1, s2, rfl, hl, h1, h2, e4⟩
      have st4 := st.ext e4
      have hr4 := e4 _ _ hr
      obtain ⟨w1, w2, w3, w4⟩ := show3 _ sub
      have sl : ∀ n : Nat, n ≤ 10000 → n ≤ sizeLine := fun n h => Nat.le_trans h (Nat.le_of_ble_eq_true rfl)
      walk_at "gos"
      refine go_cut (fun σ' H' => σ' = [some (.ref c), some (.int (0 + (i : Nat))), some (.ref a), some (.ref o), some (.ref r), some (.ref l), u6, u7] ∧ Ext H4 H') ?_ ?_
      · walk_at "gos"
        refine ⟨l, .list [datN zs, datN zs], rfl, .lst (SqL.of (xs := [.ref s1, .ref s2]) hl) (.cons (dp_datN h1) (.cons (dp_datN h2) .nil)), w1, w2, w3, sl _ w4, ?_⟩
        walk_at "gos"
        intro l2 nl2
        walk_at "gos"
        refine ⟨l2, .list [datN zs, datN zs], rfl, .lst (SqL.of (xs := [.ref r, .ref r]) upd_same) (.cons (dp_datN (mem_new nl2 hr4)) (.cons (dp_datN (mem_new nl2 hr4)) .nil)), w1, w2, w3, sl _ w4, ?_⟩
        walk_at "gos"
        rw [decide_eq_true rfl]
        walk_at "gos"
        have e2l : Ext H4 (upd H4 l2 (.lst [.ref r, .ref r])) := Evl.Ex.new nl2
        generalize upd H4 l2 (.lst [.ref r, .ref r]) = H5 at e2l ⊢
        rw [abc_nam]
        refine ⟨r, _, rfl, .inr (SqT.of (e2l _ _ hr4)), rfl, flat_fit zs, ?_⟩
        rw [if_pos rfl, in_fit (by rw [← hzs]; exact own_id t)]
        walk_at "gos"
        refine ⟨o, o, t, t, rfl, st4.ext e2l, st4.ext e2l, gr bt60, gr bt60, fun H6 e6 => ?_⟩
        rw [show ((namFit t t).map namS).headD V.non = fitV t t from rfl, own_head]
        walk_at "gos"
        refine go_rNeS ?_
        rw [decide_eq_true rfl]
        walk_at "gos"
        exact ⟨rfl, e2l.trans e6⟩
      rintro σ4 H5 ⟨rfl, e5⟩
      have st5 := st4.ext e5
      have hr5 := e5 _ _ hr4
      walk_at "gos"
      refine go_cut (fun σ' H' => ∃ u7, σ' = [some (.ref c), some (.int (0 + (i : Nat))), some (.ref a), some (.ref o), some (.ref r), some (.ref l), u6, u7] ∧ Ext H5 H') ?_ ?_
      · walk_at "gos"
        refine go_lc ?_
        walk_at "gos"
        refine ⟨⟨_, SqT.of hr5⟩, fun D nD => ?_⟩
        refine lc_it (walk_tup (xs := zs.map namS)) (fun i H' => Ext H5 H' ∧ H' D = some (.lst ((List.range i).map fun _ => V.bl true))) ⟨Evl.Ex.new nD, upd_same⟩ (fun i H' _ pv => SqT.of (pv.1 _ _ hr5)) (fun i x H' H'' hi pv y => ?_) fun H6 pv => ?_
        · obtain ⟨e, hD⟩ := pv
          obtain ⟨rfl, hx⟩ := y
          rw [List.getElem?_map] at hx
          obtain ⟨z, hz, rfl⟩ := Option.map_eq_some_iff.mp hx
          have zm := List.mem_of_getElem? hz
          obtain ⟨zs', y, ez⟩ : ∃ zs' y, zs = zs' ++ [y] := ⟨_, _, (List.dropLast_concat_getLast (show zs ≠ [] from fun n => by rw [n] at zm; cases zm)).symm⟩
          walk_at "gos"
          refine ⟨rfl, ?_⟩
          refine go_yes ?_
          walk_at "gos"
          refine go_rIxT (v := namS y) (SqT.of (e _ _ hr5)) (by rw [ez, List.map_append]; exact atI_back (zs'.map namS) (namS y) [] (n := 0) rfl) ?_
          walk_at "gos"
          refine ⟨z, y, rfl, fun H7 e7 => ?_⟩
          walk_at "gos"
          refine ⟨r, _, rfl, .inr (SqT.of (e7 _ _ (e _ _ hr5))), rfl, flat_fit zs, ?_⟩
          rw [if_neg (by decide), in_fit (by rw [← hzs]; exact own_comp (by rw [hzs]; exact zm) (by rw [hzs, ez]; simp))]
          refine ⟨_, e7 _ _ hD, ?_, (e.trans e7).mut nD, ?_⟩
          · have h6 : zs.length ≤ 6 := by
              rw [← hzs]
              exact List.length_filter_le _ nams
            have := (List.getElem?_eq_some_iff.mp hz).1
            rw [List.length_map, List.length_range, sizeLine_eq]
            omega
          · rw [upd_same, List.range_succ, List.map_append]
            rfl
        obtain ⟨e, hD⟩ := pv
        walk_at "gos"
        refine ⟨D, (List.range (zs.map namS).length).map (fun _ => true), rfl, SqL.of (by rw [hD, List.map_map]; rfl), ?_⟩
        rw [all_true]
        walk_at "gos"
        exact e
      rintro σ5 H6 ⟨u7', rfl, e6⟩
      have ha6 : H6 a = some (.tup (tv t)) := e6 _ _ (e5 _ _ (e4 _ _ (e3 _ _ ha)))
      have x6 := x2.trans (ExtC.of (e3.trans (e4.trans (e5.trans e6))))
      have hc6 := hc2.ext (e3.trans (e4.trans (e5.trans e6)))
      have hr6 := e6 _ _ hr5
      walk_at "gos"
      refine ⟨c, a, t, 4, 60, rfl, hc6, ha6, bt60, by decide, by decide, by decide, by decide, fun b u H7 bu lk e7 hc7 hb => ?_⟩
      have hr7 := e7.tupP hc6 hr6
      have ha7 := e7.tupP hc6 ha6
      have x7 := x6.trans e7
      walk_at "gos"
      refine go_cut (fun σ' H' => σ' = [some (.ref c), some (.int (0 + (i : Nat))), some (.ref a), some (.ref o), some (.ref r), some (.ref l), some (.ref b), u7'] ∧ Ext H7 H') ?_ ?_
      · obtain ⟨v1, v2, v3⟩ := u
        walk_at "gos"
        refine go_rIxT (j := 0) (v := .int v1) (SqT.of hb) rfl ?_
        walk_at "gos"
        refine go_rIxT (j := 1) (v := .int v2) (SqT.of hb) rfl ?_
        walk_at "gos"
        refine go_rIxT (j := 2) (v := .int v3) (SqT.of hb) rfl ?_
        walk_at "gos"
        intro x1 dx1 nx1 nd1 hne1
        refine ⟨x1, dx1, (v1, v2, v3), _, rfl, upd_same, (Evl.Ex.new nd1).mut nx1, nx1, gr bu, fun m1 H8 e8 h1 h2 => ⟨rfl, ?_⟩⟩
        have su : StAt K H8 x1 (v1, v2, v3) := ⟨dx1, m1, h1, h2⟩
        walk_at "gos"
        refine ⟨x1, _, rfl, su, gr bu, fun r2 H9 e9 h3 => ?_⟩
        rw [own_link lk, hzs] at h3
        walk_at "gos"
        refine ⟨datN zs, datN zs, dp_datN h3, dp_datN (e9 _ _ (e8 _ _ hr7)), shapedN _ sub, shapedN _ sub, ?_⟩
        rw [eqvN _ sub]
        walk_at "gos"
        exact ⟨rfl, e8.trans e9⟩
      rintro σ6 H8 ⟨rfl, e8⟩
      have hc8 := hc7.ext e8
      have ha8 := e8 _ _ ha7
      have hr8 := e8 _ _ hr7
      walk_at "gos"
      intro l5 nl5
      walk_at "gos"
      refine ⟨c, l5, _, rfl, hc8.new nl5, upd_same, ne_purse hc8 nl5, Nat.succ_pos _, Nat.le_of_ble_eq_true rfl, fun x H9 hx e9 hc9 => ?_⟩
      obtain ⟨p, q', s', rfl, nm⟩ := five_nam hx
      have x89 := (ExtC.new (c := c) nl5).trans e9
      have ha9 := x89.tupP hc8 ha8
      have hr9 := x89.tupP hc8 hr8
      walk_at "gos"
      refine ⟨a, t, p, q', s', rfl, ha9, nm, fun b2 H10 e10 _ hb2 => ?_⟩
      have bu2 : big (ren p q' s' t) ≤ GR := by rw [ren_big nm]; exact gr bt60
      have cj : (namFit (ren p q' s' t) (ren p q' s' t)).length = zs.length := by
        rw [← hzs]
        exact own_conj (y := (p, q', s')) (nam_mem nm)
      obtain ⟨⟨v1, v2, v3⟩, hv⟩ : ∃ v, ren p q' s' t = v := ⟨_, rfl⟩
      rw [hv] at hb2 bu2 cj
      walk_at "gos"
      refine go_rIxT (j := 0) (v := .int v1) (SqT.of hb2) rfl ?_
      walk_at "gos"
      refine go_rIxT (j := 1) (v := .int v2) (SqT.of hb2) rfl ?_
      walk_at "gos"
      refine go_rIxT (j := 2) (v := .int v3) (SqT.of hb2) rfl ?_
      walk_at "gos"
      intro x1 dx1 nx1 nd1 hne1
      refine ⟨x1, dx1, (v1, v2, v3), _, rfl, upd_same, (Evl.Ex.new nd1).mut nx1, nx1, bu2, fun m1 H11 e11 h1 h2 => ⟨rfl, ?_⟩⟩
      have su : StAt K H11 x1 (v1, v2, v3) := ⟨dx1, m1, h1, h2⟩
      walk_at "gos"
      refine ⟨x1, _, rfl, su, bu2, fun r2 H12 e12 h3 => ?_⟩
      walk_at "gos"
      refine ⟨r2, _, rfl, .inr (SqT.of h3), ?_⟩
      walk_at "gos"
      refine ⟨r, _, rfl, .inr (SqT.of (e12 _ _ (e11 _ _ (e10 _ _ hr9)))), ?_⟩
      walk_at "gos"
      rw [List.length_map, List.length_map, cj, decide_eq_true rfl]
      walk_at "gos"
      exact ⟨_, _, _, _, _, _, _, rfl, ((x7.trans (ExtC.of e8)).trans x89).trans (ExtC.of (e10.trans (e11.trans e12))), hc9.ext (e10.trans (e11.trans e12))⟩
    · rintro σ' H' ⟨u1, u2, u3, u4, u5, u6, u7, rfl, e, hc1⟩
      walk_at "gos"
      exact q H' e hc1
end
end At

namespace At
open L2 PyProof.Rows PySem.Spec PySem
section
variable {base : Heap} {w : World} {K : PySem.W.Frag} {mg : Str → Option Value} {P : Program}
abbrev N__law_purse : List Str := ["_law_cell_here"]
theorem sc__law_purse : FnScope N__law_purse ["_law_cell_here"] (defScope s__law_purse) := ⟨rfl, rfl, rfl, by decide +kernel, rfl, by decide +kernel, by decide +kernel⟩
def sp__law_purse (K : PySem.W.Frag) : Sp := fun vs H Q _ => ∃ i : Int, vs = [.int i] ∧ ∀ p H', H p = none → Ext H H' → Purse H' p → Q (.ref p) H'
theorem fn__law_purse (T : Top w K mg) {fd : FuncData} (F : Fun K "_law_purse" "_law_purse" s__law_purse (He.ga K "_law_purse") fd) : FnOk P w K mg base CX0 1 (He.ga K "_law_purse") fd ["_law_cell_here"] (sp__law_purse K) := by
  refine F.ok sc__law_purse (fun vs H Q E h => ?hlen) (fun cdv A outer s H vs Q E hr h => ⟨_, (pss_one (ps_ret (pe_lst (pa_cons (pe_ifExp (PW.pt (pw_or (pt_cmpR op_lt (pv 0) pe_int (nomark _)) (pw_or1 (pt_cmpR op_ge (pv 0) (pe_op op_pow pe_int pe_int) (nomark _))))) (pe_callB call_abs (by rfl) T.b_abs (by decide +kernel) (pa_cons (pv 0) pa_nil)) pe_int) (pa_cons (pe_op op_modN (pe_callTy call_int1 (by rfl) T.b_int (by decide +kernel) (pa_cons (pe_op op_add (pe_op op_mul (pv 0) pe_int) pe_int) pa_nil)) pe_int) (pa_cons pe_int pa_nil)))))), ?hrd⟩)
  case hlen =>
    obtain ⟨i, rfl, _⟩ := h
    rfl
  case hrd =>
    obtain ⟨i, rfl, q⟩ := h
    walk_at "gos"
    obtain ⟨y0, y1⟩ := mixedP (i * 48271 + 11)
    refine go_ite (fun c2 => ?_) (fun c2 => ?_)
    · walk_at "gos"
      refine .inl ⟨_, rfl, ?_⟩
      walk_at "gos"
      intro p np
      refine q p _ np (ext_new (Evl.Ex.refl _) np) ⟨_, _, 0, upd_same, ?_, y0, y1⟩
      split <;> omega
    · walk_at "gos"
      refine go_ite (fun c3 => ?_) (fun c3 => ?_)
      · walk_at "gos"
        refine .inl ⟨_, rfl, ?_⟩
        walk_at "gos"
        intro p np
        refine q p _ np (ext_new (Evl.Ex.refl _) np) ⟨_, _, 0, upd_same, ?_, y0, y1⟩
        split <;> omega
      · walk_at "gos"
        refine .inl ⟨_, rfl, ?_⟩
        walk_at "gos"
        intro p np
        exact q p _ np (ext_new (Evl.Ex.refl _) np) ⟨_, _, 0, upd_same, Int.le_refl _, y0, y1⟩
theorem ok__law_purse (T : Top w K mg) : OkD P w K mg base 1 (He.ga K "_law_purse") ["_law_cell_here"] (sp__law_purse K) := by
  obtain ⟨fd, F⟩ := T.f__law_purse
  exact ⟨fd, fn__law_purse T F, F.binds (ps := ["_law_cell_here"]) fun _ _ _ _ _ _ us hl => match us, hl with | [_], _ => rfl, F.kp⟩
end
end At

namespace At
open L2 PyProof.Rows PySem.Spec PySem
section
variable {base : Heap} {w : World} {K : PySem.W.Frag} {mg : Str → Option Value} {P : Program}
abbrev N__law_cell : List Str := ["_law_script", "_law_k", "_law_mixed", "_law_part"]
theorem sc__law_cell : FnScope N__law_cell ["_law_script", "_law_k"] (defScope s__law_cell) := ⟨rfl, rfl, rfl, by decide +kernel, rfl, by decide +kernel, by decide +kernel⟩
def sp__law_cell (K : PySem.W.Frag) : Sp := fun vs H Q _ => ∃ (a : Addr) (ns : List Int) (k : Int), vs = [.ref a, .int k] ∧ SqL K H a (ns.map .int) ∧ 0 ≤ k ∧ k ≤ 63 ∧ ns.length ≤ 63 ∧ ∀ i H', Ext H H' → Q (.int i) H'
theorem cut_mem {xs : List V} {l u : Option Int} {x : V} (h : x ∈ cutV xs l u) : x ∈ xs := by
  unfold cutV at h
  exact List.mem_of_mem_drop (List.mem_of_mem_take h)
theorem fn__law_cell (T : Top w K mg) {fd : FuncData} (F : Fun K "_law_cell" "_law_cell" s__law_cell (He.ga K "_law_cell") fd) : FnOk P w K mg base CX0 1 (He.ga K "_law_cell") fd ["_law_script", "_law_k"] (sp__law_cell K) := by
  refine F.ok sc__law_cell (fun vs H Q E h => ?hlen) (fun cdv A outer s H vs Q E hr h => ⟨_, (pss_cons (ps_if (pt_cmpR op_lt (pv 1) (pe_callB call_len_seq (by rfl) T.b_len PySem.boot_len (pa_cons (pv 0) pa_nil)) (nomark _)) (pss_one (ps_ret (pe_ix ix_list (pv 0) (pv 1) (fun _ _ => rfl)))) pss_nil)
    (pss_cons (ps_set (i := 2) sc__law_cell.nd rfl (Or.inl rfl) (pe_op op_modN (pe_callTy call_int1 (by rfl) T.b_int (by decide +kernel) (pa_cons (pe_op op_mul pe_int (pe_op op_add (pe_op op_add (pe_op op_mulW (pv 1) (pv 1)) (pe_op op_mul pe_int (pv 1))) pe_int)) pa_nil)) pe_int))
    (pss_cons (ps_for PassesOwn.never rfl (pi_list (pe_slice sl_list (pv 0) po_none (po_some pe_int))) (pg_name (i := 3) sc__law_cell.nd rfl (Or.inl rfl)) (pss_one (ps_set (i := 2) sc__law_cell.nd rfl (Or.inl rfl) (pe_op op_modN (pe_callTy call_int1 (by rfl) T.b_int (by decide +kernel) (pa_cons (pe_op op_add (pe_op op_add (pe_op op_mul (pv 2) pe_int) (pe_op op_mul (pv 3) pe_int)) pe_int) pa_nil)) pe_int))))
    (pss_one (ps_ret (pv 2)))))), ?hrd⟩)
  case hlen =>
    obtain ⟨a, ns, k, rfl, _⟩ := h
    rfl
  case hrd =>
    obtain ⟨a, ns, k, rfl, hq, s0, s1, hl, q⟩ := h
    have el : (ns.map V.int).length = ns.length := List.length_map ..
    walk_at "gos"
    refine ⟨_, _, rfl, .inl hq, ?_⟩
    walk_at "gos"
    refine go_ite (fun c1 => ?_) (fun c1 => ?_)
    · rw [el] at c1
      obtain ⟨k, rfl⟩ : ∃ j : Nat, k = (j : Int) := ⟨k.toNat, by omega⟩
      have hk : k < ns.length := by omega
      walk_at "gos"
      refine go_rIxL (v := .int ns[k]) hq (atI_nat (j := k) (by rw [List.getElem?_map, List.getElem?_eq_getElem hk]; rfl)) ?_
      exact q _ _ (Evl.Ex.refl _)
    · walk_at "gos"
      refine go_rI (mul_ok (B := MID) (by decide +kernel) (by unfold nat; rw [if_neg (by omega)]; exact Int.le_trans (show k ≤ 63 by omega) (by decide +kernel)) (by unfold nat; rw [if_neg (by omega)]; exact Int.le_trans (show k ≤ 63 by omega) (by decide +kernel))) ?_
      walk_at "gos"
      refine .inl ⟨_, rfl, ?_⟩
      walk_at "gos"
      refine ⟨_, _, rfl, hq, fun l nl => ?_⟩
      refine ⟨l, rfl, ⟨_, SqL.of upd_same⟩, ?_⟩
      refine loop_list (xs := cutV (ns.map V.int) none (some 3)) (fun i σ' H' => ∃ (m : Int) (y : Option V), σ' = [some (.ref a), some (.int k), some (.int m), y] ∧ Ext H H' ∧ H' l = some (.lst (cutV (ns.map V.int) none (some 3)))) ⟨_, none, rfl, Evl.Ex.new nl, upd_same⟩ (fun i σ' H' _ pv => by
        obtain ⟨_, _, _, _, h⟩ := pv
        exact SqL.of h) (fun i x σ' H' hx pv => ?_) ?_
      · obtain ⟨m, y, rfl, e, h⟩ := pv
        obtain ⟨one, _, rfl⟩ := List.mem_map.mp (cut_mem (List.mem_of_getElem? hx))
        walk_at "gos"
        refine .inl ⟨_, rfl, ?_⟩
        walk_at "gos"
        first | exact ⟨e, h⟩ | exact ⟨_, _, rfl, e, h⟩
      rintro σ' H' ⟨m, y, rfl, e, _⟩
      walk_at "gos"
      exact q _ _ e
theorem ok__law_cell (T : Top w K mg) : OkD P w K mg base 1 (He.ga K "_law_cell") ["_law_script", "_law_k"] (sp__law_cell K) := by
  obtain ⟨fd, F⟩ := T.f__law_cell
  exact ⟨fd, fn__law_cell T F, F.binds (ps := ["_law_script", "_law_k"]) fun _ _ _ _ _ _ us hl => match us, hl with | [_, _], _ => rfl, F.kp⟩
end
end At

namespace At
open L2 PyProof.Rows PySem.Spec PySem
section
variable {base : Heap} {w : World} {K : PySem.W.Frag} {mg : Str → Option Value} {P : Program}
abbrev N_Standing___eq__ : List Str := ["self", "other"]
theorem sc_Standing___eq__ : FnScope N_Standing___eq__ ["self", "other"] (defScope s_Standing___eq__) := ⟨rfl, rfl, rfl, by decide +kernel, rfl, by decide +kernel, by decide +kernel⟩
def sp_Standing___eq__ (K : PySem.W.Frag) : Sp := fun vs H Q _ => ∃ a b t, vs = [.ref a, .ref b] ∧ StAt K H a t ∧ ((∃ u, StAt K H b u ∧ Q (.bl (decide (t = u))) H) ∨ ∃ xs, H b = some (.tup xs) ∧ Q (.bl false) H)
theorem fn_Standing___eq__ (T : Top w K mg) {fd : FuncData} (F : Fun K "__eq__" "Standing.__eq__" s_Standing___eq__ (method K "Standing" "__eq__") fd) : FnOk P w K mg base CX0 1 (method K "Standing" "__eq__") fd ["self", "other"] (sp_Standing___eq__ K) := by
  refine F.ok sc_Standing___eq__ (fun vs H Q E h => ?hlen) (fun cdv A outer s H vs Q E hr h => ⟨_, (pss_one (ps_ret (pe_and (pe_callB call_isi (by rfl) T.b_isinstance (by decide +kernel) (pa_cons (pv 1) (pa_cons (pe_glob (v := .ref _) rfl T.g_Standing rfl) pa_nil))) (pe_one (pe_cmpR (op_eqD (hu64 hr)) (pe_fld (pv 0) rfl) (pe_fld (pv 1) rfl) (nomark _)))))), ?hrd⟩)
  case hlen =>
    obtain ⟨a, b, t, rfl, _⟩ := h
    rfl
  case hrd =>
    obtain ⟨a, b, t, rfl, ⟨dx, n, ha, hn⟩, q⟩ := h
    walk_at "gos"
    rcases q with ⟨u, ⟨dy, m, hb, hm⟩, q⟩ | ⟨xs, hb, q⟩
    · refine go_isO T.x_is_Standing T.c_Standing hb ?_
      walk_at "gos"
      refine ⟨a, _, dx, _, _, rfl, ha, T.c_Standing, T.na_Standing_numbers, rfl, ?_⟩
      walk_at "gos"
      refine ⟨b, _, dy, _, _, rfl, hb, T.c_Standing, T.na_Standing_numbers, rfl, ?_⟩
      walk_at "gos"
      refine go_eq3 hn hm ?_
      exact q
    · refine go_isNo T.x_is_Standing hb ?_
      walk_at "gos"
      exact q
theorem ok_Standing___eq__ (T : Top w K mg) : OkD P w K mg base 1 (method K "Standing" "__eq__") ["self", "other"] (sp_Standing___eq__ K) := by
  obtain ⟨fd, F⟩ := T.f_Standing___eq__
  exact ⟨fd, fn_Standing___eq__ T F, F.binds (ps := ["self", "other"]) fun _ _ _ _ _ _ us hl => match us, hl with | [_, _], _ => rfl, F.kp⟩
end
end At

namespace At
open L2 PyProof.Rows PySem.Spec PySem
section
variable {base : Heap} {w : World} {K : PySem.W.Frag} {mg : Str → Option Value} {P : Program}
abbrev N_law : List Str := ["_law_script", "_law_k"]
theorem sc_law : FnScope N_law ["_law_script"] (defScope s_law) := ⟨rfl, rfl, rfl, by decide +kernel, rfl, by decide +kernel, by decide +kernel⟩
def sp_law (K : PySem.W.Frag) : Sp := fun vs H Q _ => ∃ (a : Addr) (ns : List Int), vs = [.ref a] ∧ SqL K H a (ns.map .int) ∧ ns.length ≤ 63 ∧ ∀ H', Q (.bl true) H'
theorem gn_law (T : Top w K mg) : FnG P w K mg base 12 (He.ga K "law") (sp_law K) := by
  have G__law_case_right := gn__law_case_right (P := P) (w := w) (base := base) T
  obtain ⟨_, F__law_case_right⟩ := T.f__law_case_right
  obtain ⟨fd__law_purse, G__law_purse, b__law_purse, k__law_purse⟩ := ok__law_purse (P := P) (w := w) (base := base) T
  obtain ⟨fd__law_cell, G__law_cell, b__law_cell, k__law_cell⟩ := ok__law_cell (P := P) (w := w) (base := base) T
  obtain ⟨fd, F⟩ := T.f_law
  refine okG F sc_law (fun vs H Q E h => ?hlen) (fun _ _ _ _ _ _ us hl => match us, hl with | [_], _ => rfl) (fun cdv A outer s H vs Q E quiet hr h => ⟨_, (pss_cons (ps_for PassesOwn.never rfl (pi_range1 (by rfl) T.b_range (pa_cons (pe_callB (call_max2 rfl) (by rfl) T.b_max (by decide +kernel) (pa_cons pe_int (pa_cons (pe_callB (call_min2 rfl) (by rfl) T.b_min (by decide +kernel) (pa_cons (pe_callB call_len_seq (by rfl) T.b_len PySem.boot_len (pa_cons (pv 0) pa_nil)) (pa_cons pe_int pa_nil))) pa_nil))) pa_nil)) (pg_name (i := 1) sc_law.nd rfl (Or.inl rfl)) (pss_one (ps_if (pt_not (pt_val (pe_callG G__law_case_right quiet (hr.mono (by decide)) (by rfl) T.g__law_case_right F__law_case_right.kp pass0 (pa_cons (pe_call G__law_purse (hr.mono (by decide)) (by rfl) T.g__law_purse k__law_purse b__law_purse .nil pass0 (pa_cons (pe_call G__law_cell (hr.mono (by decide)) (by rfl) T.g__law_cell k__law_cell b__law_cell .nil pass0 (pa_cons (pv 0) (pa_cons (pv 1) pa_nil))) pa_nil)) pa_nil)))) (pss_one (ps_ret pe_bl)) pss_nil)))
    (pss_one (ps_ret pe_bl))), ?hrd⟩)
  case hlen =>
    obtain ⟨a, ns, rfl, _⟩ := h
    rfl
  case hrd =>
    obtain ⟨a, ns, rfl, hq, hl, q⟩ := h
    have el : (ns.map V.int).length = ns.length := List.length_map ..
    walk_at "gos"
    refine ⟨_, _, rfl, .inl hq, ?_⟩
    walk_at "gos"
    rw [el]
    refine And.intro (by split <;> split <;> omega) (And.intro (by split <;> split <;> omega) ?_)
    refine loop_range (fun (i : Nat) σ' H' => ∃ y, σ' = [some (.ref a), y] ∧ Ext H H') ⟨_, rfl, Evl.Ex.refl _⟩ ?_ ?_
    · rintro i σ' H1 hi ⟨y, rfl, e1⟩
      have hi5 : i < 5 := by
        have h5 : (if (if 4 < (ns.length : Int) then 4 else (ns.length : Int)) > 2 then (if 4 < (ns.length : Int) then 4 else (ns.length : Int)) else 2) ≤ 4 := by split <;> split <;> omega
        have := Int.lt_of_lt_of_le (Int.lt_toNat.mp hi) h5
        omega
      walk_at "gos"
      rw [Int.zero_add]
      refine ⟨a, ns, (i : Int), rfl, sqL_ext hq e1, by omega, by omega, hl, fun v H2 e2 => ?_⟩
      refine ⟨v, rfl, fun p H3 np e3 hp => ?_⟩
      refine ⟨p, rfl, hp, fun H4 e4 hc4 => ?_⟩
      walk_at "gos"
      have eF := (e1.trans e2).trans (ext_cup np e3 e4)
      first | exact eF | exact ⟨_, rfl, eF⟩
    · rintro σ' H1 ⟨y, rfl, e1⟩
      walk_at "gos"
      exact q H1
end
end At

namespace At
open L2 PyProof.Rows PySem.Spec PySem
/-- the law's call at the end of the top: the script is told as what it is, all else is old -/
theorem called_ {P : Program} {w : World} {K : PySem.W.Frag} {mg mb : Str → Option Value} {s₁ : Shared} {a : Addr} {vs : List Value} {ns : List Int} (T : Top w K mg) (KX : K.In s₁.heap) (hns : s₁.heap.Ns mainGlobals mg) (hb : s₁.heap.Ns builtinsNs mb)
    (hbb : ∀ x : Str, x ≠ "__name__" → mb x = bootBuiltins x) (lim : s₁.heap.NoLimit) (hg : s₁.gens = #[]) (ha : s₁.heap.get? a = some { cls := .type "list", data := .seq vs.toArray }) (hi : IntsAre vs ns) (hl : ns.length ≤ 63) :
    codeAny (model P w) callerA (.call (.ref (He.ga K "law")) ⟨[.ref a], []⟩) (fun r s' => r = .ok (.ret (.bool true)) ∧ OldK s₁.heap s'.heap ∧ s'.os = s₁.os ∧ AllBare s'.gens) s₁ := by
  have rv := vals_ints hi
  have few : ns.length ≤ sizeLine := by rw [sizeLine_eq]; omega
  obtain ⟨ob, eob⟩ : ∃ ob : Obj, ({ cls := .type "list", data := .seq vs.toArray } : Obj) = ob := ⟨_, rfl⟩
  obtain ⟨H, eH⟩ : ∃ H : Hp, (fun b => if b = a ∧ K.lookup a = none then some (.frz ob (.lst (ns.map V.int))) else none) = H := ⟨_, rfl⟩
  have only : ∀ b u, H b = some u → b = a ∧ K.lookup a = none ∧ u = .frz ob (.lst (ns.map V.int)) := fun b u h => by
    rw [← eH] at h
    by_cases c : b = a ∧ K.lookup a = none
    · have h := (if_pos c).symm.trans h
      cases h
      exact ⟨c.1, c.2, rfl⟩
    · have h := (if_neg c).symm.trans h
      cases h
  have clear : ∀ b, b ≠ a → H b = none := fun b n => by
    cases z : H b with
    | none => rfl
    | some u => exact absurd (only b u z).1 n
  have hok : HOk P w H s₁.heap := fun b u h => by
    obtain ⟨rfl, _, rfl⟩ := only b u h
    rw [← eob]
    exact ⟨ha, by rw [List.length_map]; exact few, vs, _, rv, ha⟩
  have sq : SqL K H a (ns.map V.int) := by
    cases hk : K.lookup a with
    | none => exact .inl (.inr ⟨ob, by rw [← eH]; exact if_pos ⟨rfl, hk⟩⟩)
    | some o =>
      have e := KX a o hk
      rw [ha] at e
      cases e
      exact .inr ⟨_, vs.toArray, _, hk, rfl, rfl, rfl, by rw [List.size_toArray, hi.length]; exact few, by simpa using rv⟩
  have keep : ∀ b o, s₁.heap.get? b = some o → H b = none → (hidT s₁.heap H).get? b = some o := fun b o e n => hidT_get e n
  have inK : K.In (hidT s₁.heap H) := fun b o e => keep b o (KX b o e) (by
    cases z : H b with
    | none => rfl
    | some u =>
      obtain ⟨rfl, k, _⟩ := only b u z
      rw [k] at e
      cases e)
  have dicts : ∀ {b : Addr} {m : Str → Option Value}, s₁.heap.Ns b m → (hidT s₁.heap H).Ns b m := fun {b m} z => by
    obtain ⟨o, es, ep, e, d, r⟩ := z
    refine ⟨o, es, ep, keep b o e (clear b fun eq => ?_), d, r⟩
    rw [eq, ha] at e
    cases e
    have d : Data.seq vs.toArray _ = Data.dict es ep := d
    cases d
  have e0 : Env0 P w K mg (hidT s₁.heap H) callerA [] s₁ H := ⟨rfl, ⟨inK, dicts hns, ⟨mb, dicts hb, hbb⟩, let ⟨mc, l1, l2⟩ := lim; ⟨mc, dicts l1, l2⟩⟩, fun b o e => of_hidT e, Nat.le_of_eq (hidT_size _ _), trivial, fun b z => absurd (show b ∈ ([] : List Addr) from z) (by simp), hok, .of_eq hg⟩
  have room : Room 40 callerA := ⟨rfl, by decide, by decide⟩
  refine codeAny_mono (gn_law (P := P) (w := w) (base := hidT s₁.heap H) T callerA [] s₁ H [.ref a] [.ref a] (fun v _ => v = .bl true) (fun _ _ _ => False) rfl (room.mono (by decide)) e0 (.cons rfl .nil) ⟨a, ns, rfl, sq, hl, fun _ => rfl⟩) fun r s' z => ?_
  match r, z with
  | .error _, z => exact (show False from z).elim
  | .ok (.ret u), z =>
    obtain ⟨v, H', os, bare, un, hok', rel, rfl⟩ := z
    cases (show u = Value.bool true from rel)
    (refine ⟨rfl, OldK.of_keep fun b o e => ?_, os, bare⟩)
    cases z : H b with
    | none => exact un.keep b o e z (fun m => absurd (show b ∈ ([] : List Addr) from m) (by simp)) (by simp)
    | some u =>
      obtain ⟨rfl, _, rfl⟩ := only b u z
      have here := (hok' b _ (un.frzs b ob _ z)).1
      rw [ha] at e
      cases e
      rw [eob]
      exact here
end At

open PyProof.Rows PySem.Calls PySem.W PySem
theorem PySem.Challenge.cw_arrowtrios_k52_whole_own_namings_of_kind_holds : PySem.Challenge.rw_arrowtrios_k52_whole_own_namings_of_kind.Holds := by
  w_on; o_law
  refine HandSHeadRun.head_any (r := At.R) (q := view At.R.prog [65]) (H := At.hk) (ob := At.ob) (M := 9000) (loose := At.loose) (d := HandSHeadRun.topDef At.R.prog 65) (kwd := []) At.ob_eq
    (by kernel_rfl) (fun s => by kernel_rfl) At.run (by kernel_rfl) (by kernel_rfl) (by kernel_rfl) (by rfl) (by first | assumption | decide +kernel) (by decide +kernel) ⟨rfl, rfl, rfl, rfl, rfl, by decide +kernel⟩ ?hw ?hc
  case hw => w_witness2
  case hc =>
    refine Att.attach_call (l := PySem.Challenge.rw_arrowtrios_k52_whole_own_namings_of_kind) (n := 63) rfl (by kernel_rfl) fun w s₀ s₁ mg mb fa o pm cd doc a vs ns G Y ho hd hcd hmg hobj hints hlen hg => ?_
    obtain ⟨K, KX, says, tab, ex⟩ := Y
    have T : At.Top w K mg := ⟨says, tab, ex, ⟨_, KX, G.T.g⟩⟩
    have here : mg ("law" : PySem.Str) = some (.ref fa) := by
      have e : (HandSHeadRun.topDef At.R.prog 65).name = ("law" : PySem.Str) := by kernel_rfl
      rw [← e]
      exact hmg
    cases here.symm.trans T.g_law
    exact At.called_ T KX G.T.g G.T.b G.T.builtins G.T.nolimit hg hobj hints hlen
