import PyProof.Rows.All
import Wide.All
import OpenK.AllK
import Wide.FinOn
import KE.KExcInit
import HandS.Base
import HandS.Call
import HandS.Exc
import HandS.List
import HandS.ExcOwn
import HandS.ExcInit
import HandS.Defaults
import KE.KExcIs
import HandS.IsInst
import HandS.Words
import HandS.ForMost
import HandS.Evl
import HandS.Walk
import HandS.Zip
import HandS.Flow
import KE.KStateDown
import Lean
import HandS.Ends
import HandS.More
import HandS.WordsExc
import HandS.Head0
import HandS.Head1
import HandS.Head2
import HandS.HeadEnd
import HandS.HeadHook1
import HandS.HeadHook2
import PySem.Challenge.RW_touchrights_k00_errors_made_by_hand
set_option Elab.async false
set_option linter.all false
set_option maxRecDepth 100000
set_option maxHeartbeats 0
namespace TR
open PySem PySem.W PySem.Calls PyProof.Rows PySem.HandSPX
section
variable {prog : Program} {w : World} {M : Model} {A : Around} {E : Value → Shared → Prop} {R : Result → Shared → Prop} {h : Heap} {g : Array GenState} {d : Drawn} {t : Nat} {os : OsState}
variable {nm q : Str} {C N : Addr} {bs bm bmB : List Value} {hdct : Bool} {sn : List Str} {sub : List Value} {ab : Bool} {col : Option Bool} {dd : Option Addr} {k0 k1 k2 k3 k5 : Option Value} {B newId initId : String}
/-- the look ahead of the base's __new__, with keywords -/
theorem kwLook (FB : ExcBaseFacts B newId initId bmB) (hT : ∀ Y : String, bm.contains (.type Y) = bmB.contains (.type Y)) {f : Str} {v : Value} {Q : Unit → Shared → Prop}
    (hC : h.get? C = some (excClassObj nm q C N bs bm hdct sn sub ab col dd k0 k1 k2 k3 k5 newId)) (hq : Q () ⟨h, g, d, t, os⟩) :
    wpAny M A (checkBuiltinCall newId ⟨[.ref C], [(f, v)]⟩) Q E ⟨h, g, d, t, os⟩ := by
  have in_ : (Value.ref C :: bm).contains (.type B) = true := by
    rw [List.contains_cons, hT B, FB.hasB]
    exact Bool.or_true _
  have hstar := FB.noStar
  simp only [checkBuiltinCall, FB.newKind, FB.newSplit, FB.newRow]
  repeat (first
    | refine wpAny_loadPart_at hC ?_
    | (refine wpAny_isSubtype_exc hC ?_
       rw [in_])
    | refine wpAny_staticBase_exc hC ?_
    | refine wpAny_madeBy_exc hC ?_
    | simp only [bne_self_eq_false, Bool.false_eq_true, if_false]
    | wp_step)
  exact hq
end
section
variable {prog : Program} {w : World} {A : Around} {E : Value → Shared → Prop} {R : Result → Shared → Prop} {h : Heap} {g : Array GenState} {d : Drawn} {t : Nat} {os : OsState}
variable {nm q : Str} {C N : Addr} {bs bm bmB : List Value} {hdct : Bool} {sn : List Str} {sub : List Value} {ab : Bool} {col : Option Bool} {dd : Option Addr} {k0 k1 k2 k3 k5 : Option Value} {B newId initId : String}
/-- the base's __new__ itself -/
theorem kwNew (FB : ExcBaseFacts B newId initId bmB) (hT : ∀ Y : String, bm.contains (.type Y) = bmB.contains (.type Y)) {kw : List (Str × Value)}
    (hC : h.get? C = some (excClassObj nm q C N bs bm hdct sn sub ab col dd k0 k1 k2 k3 k5 newId))
    (hq : R (.ok (.ret (.ref (h.objs.size + 1)))) ⟨(h.push (kdv_tup [])).push (excO C h.objs.size), g, d, t, os⟩) :
    codeAny (model prog w) A (.builtin newId ⟨[.ref C], kw⟩) R ⟨h, g, d, t, os⟩ := by
  have hends := FB.ends
  have isB : (Value.ref C :: bm).contains (.type B) = true := by
    rw [List.contains_cons, hT B, FB.hasB]
    exact Bool.or_true _
  have isA : (Value.ref C :: bm).contains (.type "AttributeError") = false := by
    rw [List.contains_cons, hT "AttributeError", FB.noAttr]
    rfl
  have isN : (Value.ref C :: bm).contains (.type "NameError") = false := by
    rw [List.contains_cons, hT "NameError", FB.noName]
    rfl
  refine codeAny_builtinAt FB.entry ?_
  unfold Builtin.«BaseException.__new__»
  refine PySem.wpAt_bind ?_
  show PySem.wpAt _ _ _ (stack >>= _) _ _ _
  refine PySem.wpAt_bind (PySem.wpAt_stack fun p below => PySem.wpAt_of_wpAny ?_)
  wp_walk
  refine PySem.wpAt_of_wpAny ?_
  rw [FB.owner]
  repeat (first
    | with_reducible refine wpAny_madeHere_exc FB.canon hC ?_
    | with_reducible refine wpAny_loadPart_at hC ?_
    | (with_reducible refine wpAny_isSubtype_exc hC ?_
       first | rw [isB] | rw [isA] | rw [isN])
    | wp_step)
  show R _ _
  rw [Heap.size_push]
  exact hq
/-- type.__call__ on the class, with one keyword; then its own __init__ -/
theorem kwType (FB : ExcBaseFacts B newId initId bmB) (hT : ∀ Y : String, bm.contains (.type Y) = bmB.contains (.type Y)) {f : Str} {v : Value} {fI : Addr} {Q : Fin → Shared → Prop}
    (hC : h.get? C = some (excClassObj nm q C N bs bm hdct sn sub ab col dd k0 k1 k2 k3 k5 newId))
    (hi : W.Looks (model prog w) h (typeLookup (.ref C) "__init__") (some (.ref fI))) (hb : ∀ self, W.Looks (model prog w) h (bindSpecial (.ref fI) self) (.ref fI, [self]))
    (hq : codeAny (model prog w) A (.call (.ref fI) ⟨[.ref (h.objs.size + 1)], [(f, v)]⟩)
      (fun r s' => match r with | .ok (.ret x) => x = .none ∧ Q (.done (.ret (.ref (h.objs.size + 1)))) s' | .ok _ => False | .error e => E e s') ⟨(h.push (kdv_tup [])).push (excO C h.objs.size), g, d, t, os⟩) :
    wpAny (model prog w) A (Builtin.«type.__call__» ⟨[.ref C], [(f, v)]⟩) Q E ⟨h, g, d, t, os⟩ := by
  repeat (first | with_reducible refine wpAny_loadPart_at hC ?_ | with_reducible refine wpAny_madeBy_exc hC ?_ | wp_step)
  refine codeAny_call_builtin_code (Code.quiet_builtin _ FB.quiet) (kwLook FB hT hC ?_)
  refine kwNew FB hT hC ?_
  show wpAny _ _ _ _ _ _
  have k : ∀ b o, h.get? b = some o → ((h.push (kdv_tup [])).push (excO C h.objs.size)).get? b = some o := fun b o e =>
    Heap.get?_push_of_some _ (Heap.get?_push_of_some _ e)
  have hC1 := k _ _ hC
  have hnew : ((h.push (kdv_tup [])).push (excO C h.objs.size)).get? (h.objs.size + 1) = some (excO C h.objs.size) := by
    heap_get
  have self_ : (Value.ref C :: bm).contains (.ref C) = true := by
    simp
  have i1 := hi.keeps k
  have b1 := (hb (.ref (h.objs.size + 1))).keeps k
  unfold isInstance
  repeat (first
    | with_reducible refine wpAny_loadPart_at hnew ?_
    | (with_reducible refine wpAny_isSubtype_exc hC1 ?_
       rw [self_])
    | wp_step)
  show wpAny _ _ (typeLookup (.ref C) _) _ _ _
  refine i1.at ?_
  refine wpAny_holding (wpAny_bind (b1.at ?_))
  refine wpAny_bind (wpAny_call (codeAny_mono hq fun r s' z => ?_))
  cases r with
  | error e => exact z
  | ok fl =>
    cases fl with
    | ret x =>
      obtain ⟨rfl, z⟩ := z
      first
        | exact wpAny_pure (wpAny_pure z)
        | (wp_walk
           exact z)
    | next => exact False.elim z
    | brk => exact False.elim z
    | cont => exact False.elim z
/-- C(f=v) -/
theorem kwCall (FB : ExcBaseFacts B newId initId bmB) (hT : ∀ Y : String, bm.contains (.type Y) = bmB.contains (.type Y)) {f : Str} {v : Value} {fI : Addr}
    (hC : h.get? C = some (excClassObj nm q C N bs bm hdct sn sub ab col dd k0 k1 k2 k3 k5 newId))
    (hi : W.Looks (model prog w) h (typeLookup (.ref C) "__init__") (some (.ref fI))) (hb : ∀ self, W.Looks (model prog w) h (bindSpecial (.ref fI) self) (.ref fI, [self]))
    (hq : codeAny (model prog w) (A.under (.builtin "type.__call__" ⟨[.ref C], [(f, v)]⟩)) (.call (.ref fI) ⟨[.ref (h.objs.size + 1)], [(f, v)]⟩) (W.InitBack (h.objs.size + 1) R)
      ⟨(h.push (kdv_tup [])).push (excO C h.objs.size), g, d, t, os⟩) :
    codeAny (model prog w) A (.call (.ref C) ⟨[], [(f, v)]⟩) R ⟨h, g, d, t, os⟩ := by
  have f1 := tc_lookup
  have f2 := tc_bind (.ref C)
  have hTy : (⟨h, g, d, t, os⟩ : Shared).TypeIs (.ref C) "type" := ⟨_, hC, rfl⟩
  refine codeAny_of_tree ?_
  show wpAny _ _ (callAny (.ref C) _) _ _ _
  repeat (any_goals (first | assumption | with_reducible refine wpAny_loadPart_at hC ?_ | wp_step))
  refine ⟨rfl, ?_⟩
  refine codeAny_call_builtin_at (Code.quiet_builtin _ (by decide +kernel)) entry_typeCall (wpAny_check_type_call_sub hC (kwType FB hT hC hi hb ?_))
  refine codeAny_mono hq fun r s' z => ?_
  cases r with
  | error e => exact z
  | ok fl => cases fl <;> exact z
end
end TR

/-! exceptions of own classes, as values that are tracked -/
namespace TR
open PySem PySem.Spec PyProof.Rows L2

/-- at a: an exception object of the class cls, its own dict d -/
def exv (a : Addr) (cls : Value) (d : Option Addr) : HO := .ext fun h => ∃ (oe : Obj) (vs : Array Value), h.get? a = some oe ∧ Zc cls d oe ∧ oe.data = .fields vs
theorem exv_ok {P : Program} {w : World} {H : Hp} {h : Heap} {a : Addr} {cls : Value} {d : Option Addr} {oe : Obj} {vs : Array Value} (e : h.get? a = some oe) (z : Zc cls d oe) (hd : oe.data = .fields vs) :
    ObjOk P w H h a (exv a cls d) :=
  ⟨⟨oe, vs, e, z, hd⟩, ⟨oe, e⟩, fun h1 h2 q k => let ⟨o, v, q1, q2⟩ := q; ⟨o, v, k o q1, q2⟩⟩
theorem exv_at {P : Program} {w : World} {H : Hp} {h : Heap} {a : Addr} {cls : Value} {d : Option Addr} (hok : HOk P w H h) (e : H a = some (exv a cls d)) :
    ∃ (oe : Obj) (vs : Array Value), h.get? a = some oe ∧ Zc cls d oe ∧ oe.data = .fields vs := by
  have q : ObjOk P w H h a (.ext fun h => ∃ (oe : Obj) (vs : Array Value), h.get? a = some oe ∧ Zc cls d oe ∧ oe.data = .fields vs) := hok a _ e
  exact q.1

/-- what the written part says of an exception class at C, made by its own __init__ or by none -/
structure XCls (K : PySem.W.Frag) (C : Addr) (bmB : List Value) (newId : String) : Prop where
  made : PySem.W.excInitIn K C bmB newId = true
  over : PySem.W.excOver K C bmB = true
  sa : PySem.W.findIn K (.ref C) "__setattr__" = some (some (.builtin "object.__setattr__"))
  ga : PySem.W.findIn K (.ref C) "__getattribute__" = some (some (.builtin "BaseException.__getattribute__"))
  gg : PySem.W.findIn K (.ref C) "__getattr__" = some none
  exC : PySem.W.subIn K (.ref C) (.type "BaseException") = some true
  tyC : PySem.W.typeIn K (.ref C) = some (.type "type")
  kC : PySem.W.keepIn K (.ref C) = true
  hd : PySem.W.hasDictIn K C = true
  cl : PySem.W.findIn K (.ref C) "__class__" = some (some (.builtin "object.__class__"))
  mo : PySem.W.mroIn K C (.type "object") = some true

section
variable {X : Cx} {pins : List (Addr × Obj)} {σ : L2.St} {H : Hp} {s : Shared} {a C dx : Addr} {f : Str} {y : V} {u : Value} {fs : List (Str × V)} {bmB : List Value} {newId B initId : String}
/-- the same heap, told otherwise at one place -/
theorem retell {φ : Heap → Prop} {o' : HO} (I : Inv X pins σ H s) (e : H a = some (.ext φ)) (ok : ObjOk X.prog X.w (upd H a o') s.heap a o') : Inv X pins σ (upd H a o') s := by
  have l : ∃ u, s.heap.get? a = some u := (show ObjOk X.prog X.w H s.heap a (.ext φ) from I.hok a _ e).2.1
  exact I.write (t' := s.toks) (x := a) (e := a) (o := o') (by rw [e]; exact True.intro) (.inl rfl) (fun b u _ q => q) l ok
/-- what the heap had not at a is laid there -/
theorem lay1 {h' : Heap} {o : HO} {t' : Nat} (I : Inv X pins σ H s) (k : ∀ b u, s.heap.get? b = some u → h'.get? b = some u) (hp : s.heap.get? a = none) (hn : H a = none) (new : ObjOk X.prog X.w (upd H a o) h' a o) :
    Inv X pins σ (upd H a o) { s with heap := h', toks := t' } := by
  refine I.un { keep := fun b u q _ _ _ => k b u q, slot := fun b u q _ _ _ => ⟨u.slots, k b u q⟩, free := fun b u q n _ => ?_, there := fun b u q _ => ⟨u, k b u q⟩, tups := fun b xs q => ?_, frzs := fun b u xs q => ?_, tbls := fun b ps q => ⟨#[], ?_⟩ } fun b u e => ?_
  · rw [upd_ne (fun z => by rw [z, hp] at q; cases q)]
    exact n
  · rw [upd_ne (ne_of_none q hn)]
    exact q
  · rw [upd_ne (ne_of_none q hn)]
    exact q
  · rw [upd_ne (ne_of_none q hn), q]
    simp
  · by_cases hb : b = a
    · subst hb
      rw [upd_same] at e
      cases e
      exact new
    · rw [upd_ne hb] at e
      refine (I.hok b u e).stay (fun c v _ q => k c v q) (fun c q => ?_) fun c xs q => ?_
      · rw [upd_ne (ne_of_none q hn)]
        exact q
      · rw [upd_ne (ne_of_none q hn)]
        exact q
/-- self.f = y on an exception that is being made -/
theorem xst_new {Q : Unit → Shared → Prop} {E : Value → Shared → Prop} {A : Around} (T : XCls X.K C bmB newId) (SF : StoreFacts B bmB "object.__setattr__" "object") (I : Inv X pins σ H s) (e : H a = some (exo a C none))
    (hno : PySem.W.findIn X.K (.ref C) f = some none) (ry : RelV y u)
    (h : ∀ dx s', H dx = none → dx ≠ a → Inv X pins σ (upd (upd H a (exo a C (some dx))) dx (exd dx [(f, y)])) s' → Q () s') : wpAny (model X.prog X.w) A (setAttr (.ref a) f u) Q E s := by
  obtain ⟨t1, ho⟩ := exo_at I.hok e
  obtain ⟨cd, hcd, hh⟩ := PySem.W.any_some T.hd
  obtain ⟨hp, g, d, t, os⟩ := s
  have J : PySem.W.InstAt hp a { cls := .ref C, dict := none, data := .fields #[.ref t1, .none, .none, .none, .bool false, .none] } C none := ⟨ho, rfl, rfl, trivial⟩
  refine PySem.W.set_plain I.kIn J T.sa ?_
  refine PySem.W.osa_openX SF I.kIn J T.over (r := none) (by unfold PySem.W.takerIn; rw [hno]; rfl) fun b => ?_
  have hcls : PySem.W.Looks (model X.prog X.w) hp (classData C) cd := PySem.W.looks_clsIn I.kIn hcd
  have hxs : a ≠ hp.objs.size := Nat.ne_of_lt (Heap.lt_size ho)
  obtain ⟨nm, bs, mro, ns, qn, hdc, sn, sb, ab, col, del⟩ := cd
  dsimp only at hh
  subst hh
  show wpAny _ _ (Builtin.ObjectAttr.storeInOwnDict (.ref a) (.ref C) (.str f t) f u b) _ _ _
  unfold Builtin.ObjectAttr.storeInOwnDict Builtin.ObjectAttr.ownDictForStores
  repeat (first | with_reducible refine PySem.HandSPX.store_in_new ?_ ?_ | with_reducible refine wpAny_loadPart_at ho ?_ | with_reducible refine hcls.at ?_ | wp_step)
  · exact ⟨_, #[], _, (Heap.get?_update_ne _ _ _ _ hxs.symm).trans (Heap.get?_push_at rfl rfl), rfl, (fun e he => absurd he (by simp)), fun _ => rfl⟩
  · intro h' tk' hn' hs
    -- the object, then its dict
    have old : ∀ b o, b ≠ a → hp.get? b = some o → h'.get? b = some o := fun b o hb q =>
      (hs.2 b (Nat.ne_of_lt (Heap.lt_size q))).trans ((Heap.get?_update_ne _ _ _ _ hb).trans (Heap.get?_push_of_some _ q))
    have hx' : h'.get? a = some { cls := .ref C, dict := some hp.objs.size, data := .fields #[.ref t1, .none, .none, .none, .bool false, .none] } :=
      (hs.2 a hxs).trans (Heap.get?_update_self _ (Heap.get?_push_of_some _ ho) rfl)
    obtain ⟨G, g1, g2⟩ := restrict h' fun b => decide (b ≠ hp.objs.size)
    have gk : ∀ b, b ≠ hp.objs.size → G.get? b = h'.get? b := fun b hb => g1 b (decide_eq_true hb)
    have gn : G.get? hp.objs.size = none := g2 _ (decide_eq_false fun z => z rfl)
    have nd : H hp.objs.size = none := I.hok.fresh (Nat.le_refl _)
    have I1 : Inv X pins σ (upd H a (exo a C (some hp.objs.size))) ⟨G, g, d, t, os⟩ :=
      I.write (t' := t) (x := a) (e := a) (o := exo a C (some hp.objs.size)) (h' := G) (by rw [e]; exact True.intro) (.inl rfl)
        (fun b o hb q => (gk b (Nat.ne_of_lt (Heap.lt_size q))).trans (old b o hb q)) ⟨_, (gk a hxs).trans hx'⟩ (exo_ok ((gk a hxs).trans hx'))
    have nd1 : upd H a (exo a C (some hp.objs.size)) hp.objs.size = none := by rw [upd_ne hxs.symm]; exact nd
    have I2 := lay1 (t' := tk') I1 (h' := h') (o := exd hp.objs.size [(f, y)]) (fun b o q => by
        by_cases hb : b = hp.objs.size
        · rw [hb, gn] at q
          cases q
        · exact (gk b hb).symm.trans q) gn nd1 (exd_ok hn' (relO_put (fs := []) ry fun g => True.intro))
    exact h _ _ nd hxs.symm I2
end

/-! ### self.f = e -/
def tXst (K : PySem.W.Frag) (f : Str) (to te : TE) : TS := fun D σ H => te σ H fun y H1 => to σ H1 fun x H2 => ∃ (a C : Addr) (bmB : List Value) (newId B : String), x = .ref a ∧ XCls K C bmB newId ∧ StoreFacts B bmB "object.__setattr__" "object" ∧
  PySem.W.findIn K (.ref C) f = some none ∧ H2 a = some (exo a C none) ∧ ∀ dx, H2 dx = none → dx ≠ a → D.nx σ (upd (upd H2 a (exo a C (some dx))) dx (exd dx [(f, y)]))
section
variable {X : Cx} {o e : Expr} {to te : TE} {f : Str} {p' pos : Pos}
theorem ps_xst (ho : PE X o to) (he : PE X e te) (hs : swapsWith e (some (.Attribute o f p')) pos.line X.env = pure false := by rfl) : PS X (.Assign [.Attribute o f p'] e pos) (tXst X.K f to te) := by
  refine ⟨fun pins s σ H D I h => ?_⟩
  refine plainObj_wpAny_Assign_Attribute (thn (he.run pins s σ H _ I h) fun v s1 ⟨y, H1, I1, r1, q1⟩ => thn (ho.run pins s1 σ H1 _ I1 q1) fun u s2 q2 => ?_) hs
  obtain ⟨x, H2, I2, r2, a, C, bmB, newId, B, ex, T, SF, hno, ea, q⟩ := q2
  subst ex
  obtain rfl : u = Value.ref a := r2
  exact xst_new T SF I2 ea hno r1 fun dx s' n ne J => ⟨σ, _, J, q dx n ne⟩
end
/-- what such an __init__(self, f) promises -/
def spXi (C : Addr) (f : Str) : Sp := fun vs H Q _ => ∃ (a : Addr) (y : V), vs = [.ref a, y] ∧ H a = some (exo a C none) ∧ ∀ dx, H dx = none → dx ≠ a → Q .non (upd (upd H a (exo a C (some dx))) dx (exd dx [(f, y)]))

/-! ### the exception as a value -/
/-- a made one: at a an exception of the class at C, whose dict has fs -/
def XV (H : Hp) (a C : Addr) (fs : List (Str × V)) : Prop := ∃ d, H a = some (exv a (.ref C) (some d)) ∧ H d = some (.xd fs)
/-- one of a class without __init__ -/
def XV0 (H : Hp) (a C : Addr) : Prop := H a = some (exv a (.ref C) none)
section
variable {X : Cx} {pins : List (Addr × Obj)} {σ : L2.St} {H : Hp} {s : Shared} {a C dx : Addr} {f : Str} {y : V} {u : Value} {fs : List (Str × V)} {bmB : List Value} {newId B initId : String}
/-- the exception just made stands as a value -/
theorem settle (I : Inv X pins σ H s) (n : dx ≠ a) (ea : H a = some (exo a C (some dx))) (ed : H dx = some (exd dx fs)) : Inv X pins σ (upd (upd H a (exv a (.ref C) (some dx))) dx (.xd fs)) s := by
  obtain ⟨t1, ho⟩ := exo_at I.hok ea
  have I1 := retell I (o' := exv a (.ref C) (some dx)) ea (exv_ok ho ⟨rfl, rfl⟩ rfl)
  have ed1 : upd H a (exv a (.ref C) (some dx)) dx = some (exd dx fs) := by rw [upd_ne n]; exact ed
  obtain ⟨mA, hns, rel⟩ := exd_at I1.hok ed1
  exact retell I1 (o' := .xd fs) ed1 ⟨mA, hns, rel⟩
theorem setup {hp : Heap} {g : Array GenState} {dr : Drawn} {tk : Nat} {os : OsState} (us : List Value) (I : Inv X pins σ H ⟨hp, g, dr, tk, os⟩) :
    Inv X pins σ (upd H (hp.objs.size + 1) (exo (hp.objs.size + 1) C none)) ⟨(hp.push (PySem.W.kdv_tup us)).push (PySem.HandSPX.excO C hp.objs.size), g, dr, tk, os⟩ := by
  have kk : ∀ b o, hp.get? b = some o → ((hp.push (PySem.W.kdv_tup us)).push (PySem.HandSPX.excO C hp.objs.size)).get? b = some o := fun b o e =>
    Heap.get?_push_of_some _ (Heap.get?_push_of_some _ e)
  have hget : ((hp.push (PySem.W.kdv_tup us)).push (PySem.HandSPX.excO C hp.objs.size)).get? (hp.objs.size + 1) = some (PySem.HandSPX.excO C hp.objs.size) := by
    heap_get
  exact I.laid (t' := tk) (a := hp.objs.size + 1) (o := exo (hp.objs.size + 1) C none) kk (Nat.le_succ _) (exo_ok hget)
end
/-- C(e), C(f=e): a new exception and its dict -/
def tXmk (C : Addr) (f : Str) (ta : TA) : TE := fun σ H Q => ta σ H fun vs H1 => ∃ y, vs = [y] ∧ ∀ a d, H1 a = none → H1 d = none → d ≠ a → Q (.ref a) (upd (upd H1 a (exv a (.ref C) (some d))) d (.xd [(f, y)]))
section
variable {X : Cx} {pins : List (Addr × Obj)} {σ : L2.St} {H : Hp} {s : Shared} {C fI : Addr} {f x : Str} {bmB : List Value} {newId B initId : String} {k : Nat} {fd : FuncData} {e : Expr} {ta : TA} {p pos kpos : Pos}
theorem xmk_end {hp : Heap} {g : Array GenState} {dr : Drawn} {tk : Nat} {os : OsState} {y : V} {us : List Value} {Q : VK} {r : Result} {s' : Shared} (I : Inv X pins σ H ⟨hp, g, dr, tk, os⟩)
    (q1 : ∀ a d, H a = none → H d = none → d ≠ a → Q (.ref a) (upd (upd H a (exv a (.ref C) (some d))) d (.xd [(f, y)])))
    (hq' : CR CX0 X.stack X.prog X.w (upd H (hp.objs.size + 1) (exo (hp.objs.size + 1) C none)) ⟨(hp.push (PySem.W.kdv_tup us)).push (PySem.HandSPX.excO C hp.objs.size), g, dr, tk, os⟩
      (fun v H2 => v = .non ∧ ∃ d, H d = none ∧ d ≠ hp.objs.size + 1 ∧ H2 = upd (upd H (hp.objs.size + 1) (exo (hp.objs.size + 1) C (some d))) d (exd d [(f, y)])) (fun _ _ _ => False) r s') :
    PySem.W.InitBack (hp.objs.size + 1) (fun r s' => match r with | .ok (.ret v) => EP X pins σ Q v s' | .ok _ => False | .error e => X.xe e s') r s' := by
  have hn : H (hp.objs.size + 1) = none := I.hok.fresh (Nat.le_succ _)
  cases r with
  | error er => exact False.elim hq'
  | ok fl =>
    cases fl with
    | ret u =>
      obtain ⟨v, H2, I2, rv, ev, d, hd, nd, rfl⟩ := (setup (C := C) us I).after hq'
      subst ev
      have ea : upd (upd H (hp.objs.size + 1) (exo (hp.objs.size + 1) C (some d))) d (exd d [(f, y)]) (hp.objs.size + 1) = some (exo (hp.objs.size + 1) C (some d)) := by rw [upd_ne nd.symm, upd_same]
      have I3 := settle I2 nd ea upd_same
      have eq : upd (upd (upd (upd H (hp.objs.size + 1) (exo (hp.objs.size + 1) C (some d))) d (exd d [(f, y)])) (hp.objs.size + 1) (exv (hp.objs.size + 1) (.ref C) (some d))) d (.xd [(f, y)]) = upd (upd H (hp.objs.size + 1) (exv (hp.objs.size + 1) (.ref C) (some d))) d (.xd [(f, y)]) := by
        funext b
        by_cases h1 : b = d
        · rw [h1, upd_same, upd_same]
        · rw [upd_ne h1, upd_ne h1]
          by_cases h2 : b = hp.objs.size + 1
          · rw [h2, upd_same, upd_same]
          · rw [upd_ne h2, upd_ne h2, upd_ne h1, upd_ne h2]
      rw [eq] at I3
      exact ⟨rv, V.ref (hp.objs.size + 1), _, I3, rfl, q1 _ d hn hd nd⟩
    | next => exact False.elim hq'
    | brk => exact False.elim hq'
    | cont => exact False.elim hq'
theorem pe_xmk (T : XCls X.K C bmB newId) (FB : ExcBaseFacts B newId initId bmB) (iC : PySem.W.findIn X.K (.ref C) "__init__" = some (some (.ref fI))) (tI : PySem.W.typeIn X.K (.ref fI) = some (.type "function"))
    (F1 : FnOk X.prog X.w X.K X.mg X.base CX0 k fI fd ["self", f] (spXi C f)) (hr : Room (k + 1) X.A) (hb : Binds X.K fd ["self", f] []) (hg : Gl X x) (hm : X.mg x = some (.ref C)) (ha : PA X [e] ta)
    (hdb : (x == ("__debug__" : Str)) = false := by decide) (he : starEach (e :: []) X.env = (false, eval e X.env) :: starEach [] X.env := by rfl) (hpl : (backTo pos (starEach [] X.env)).any (·.1) = false := by rfl) :
    PE X (.Call (.Name x p) [e] [] pos) (tXmk C f ta) := by
  refine ⟨fun pins s σ H Q I h => ?_⟩
  refine wpAny_Call_Name_kw (ld_glob I hg hm ?_ hdb)
  refine PySem.W.callWith_K (h₀ := X.base) I.ok.mod.kin T.kC (thn (ha.run pos pins s σ H _ I h) fun us s1 hh => ?_) he hpl
  obtain ⟨vs, H1, I1, r1, y, ev, q1⟩ := hh
  subst ev
  refine ⟨I1.kIn, ?_⟩
  cases r1 with
  | @cons _ u0 _ ur ry rn =>
    cases rn
    obtain ⟨nm, N, qn, bs, bm, hdct, sn, sub, ab, col, dd, k0, k1, k2, k3, k5, hC, hT⟩ := PySem.W.excInit_of I1.kIn T.made
    obtain ⟨hp, g, dr, tk, os⟩ := s1
    have I2 := setup (C := C) [u0] I1
    have hn : H1 (hp.objs.size + 1) = none := I1.hok.fresh (Nat.le_succ _)
    show wpAny _ _ (call (.ref C) [u0]) _ _ _
    refine wpAny_call (PySem.HandSPX.call_own FB hT hC (PySem.W.looks_findIn I1.kIn iC) (fun self => PySem.W.bind_fn I1.kIn self tI) (by rw [sizeLine_eq]; exact (by decide : 1 ≤ 16777216)) (codeAny_mono (F1.run _ X.stack _ _ ⟨[Value.ref (hp.objs.size + 1), u0], []⟩ [Value.ref (hp.objs.size + 1), u0] [.ref (hp.objs.size + 1), y] _ (fun _ _ _ => False)
      (hr.make C [u0] []) (I2.env0.make C [u0] []) (hb _ [Value.ref (hp.objs.size + 1), u0] I2.kIn rfl) (.cons rfl (.cons ry .nil)) ?_) fun r s' hq' => xmk_end I1 q1 hq'))
    refine ⟨_, y, rfl, upd_same, fun d hd nd => ⟨rfl, d, ?_, nd, ?_⟩⟩
    · rw [upd_ne nd] at hd
      exact hd
    · congr 1
      funext b
      by_cases h2 : b = hp.objs.size + 1
      · rw [h2, upd_same, upd_same]
      · rw [upd_ne h2, upd_ne h2, upd_ne h2]
end

section
variable {X : Cx} {pins : List (Addr × Obj)} {σ : L2.St} {H : Hp} {s : Shared} {C fI : Addr} {f x : Str} {bmB : List Value} {newId B initId : String} {k : Nat} {fd : FuncData} {e : Expr} {ta : TA} {te : TE} {p pos kpos : Pos}
theorem pe_xmkK (T : XCls X.K C bmB newId) (FB : ExcBaseFacts B newId initId bmB) (iC : PySem.W.findIn X.K (.ref C) "__init__" = some (some (.ref fI))) (tI : PySem.W.typeIn X.K (.ref fI) = some (.type "function"))
    (F1 : FnOk X.prog X.w X.K X.mg X.base CX0 k fI fd ["self", f] (spXi C f)) (hr : Room (k + 1) X.A)
    (hb : ∀ (s : Shared) (u v : Value), X.K.In s.heap → BindsTo s fd ⟨[u], [(f, v)]⟩ [("self", u), (f, v)]) (hg : Gl X x) (hm : X.mg x = some (.ref C)) (ha : PE X e te)
    (hdb : (x == ("__debug__" : Str)) = false := by decide) :
    PE X (.Call (.Name x p) [] [⟨some f, e, kpos⟩] pos) (tXmk C f (tCons te tNil)) := by
  refine ⟨fun pins s σ H Q I h => ?_⟩
  refine wpAny_Call_Name_kw (ld_glob I hg hm ?_ hdb)
  have hk : PK X [⟨some f, e, kpos⟩] (tCons te tNil) := pk_cons ha pk_nil
  refine PySem.W.callWith_KW0 (h₀ := X.base) I.ok.mod.kin T.kC rfl (thn (hk.run pos pins s σ H _ I h) fun us s1 hh => ?_) rfl
  obtain ⟨vs, H1, I1, r1, y, ev, q1⟩ := hh
  subst ev
  refine ⟨I1.kIn, ?_⟩
  cases r1 with
  | @cons _ u0 _ ur ry rn =>
    cases rn
    obtain ⟨nm, N, qn, bs, bm, hdct, sn, sub, ab, col, dd, k0, k1, k2, k3, k5, hC, hT⟩ := PySem.W.excInit_of I1.kIn T.made
    obtain ⟨hp, g, dr, tk, os⟩ := s1
    have I2 := setup (C := C) [] I1
    have hn : H1 (hp.objs.size + 1) = none := I1.hok.fresh (Nat.le_succ _)
    show wpAny _ _ (call (.ref C) [] [(f, u0)]) _ _ _
    refine wpAny_call (kwCall FB hT hC (PySem.W.looks_findIn I1.kIn iC) (fun self => PySem.W.bind_fn I1.kIn self tI) (codeAny_mono (F1.run _ X.stack _ _ ⟨[Value.ref (hp.objs.size + 1)], [(f, u0)]⟩ [Value.ref (hp.objs.size + 1), u0] [.ref (hp.objs.size + 1), y] _ (fun _ _ _ => False)
      (hr.make C [] [(f, u0)]) (I2.env0.make C [] [(f, u0)]) (hb _ (Value.ref (hp.objs.size + 1)) u0 I2.kIn) (.cons rfl (.cons ry .nil)) ?_) fun r s' hq' => xmk_end I1 q1 hq'))
    refine ⟨_, y, rfl, upd_same, fun d hd nd => ⟨rfl, d, ?_, nd, ?_⟩⟩
    · rw [upd_ne nd] at hd
      exact hd
    · congr 1
      funext b
      by_cases h2 : b = hp.objs.size + 1
      · rw [h2, upd_same, upd_same]
      · rw [upd_ne h2, upd_ne h2, upd_ne h2]
/-- C() of a class without __init__ -/
def tXmk0 (C : Addr) : TE := fun _ H Q => ∀ a, H a = none → Q (.ref a) (upd H a (exv a (.ref C) none))
theorem pe_xmk0 (F : ExcBaseFacts B newId initId bmB) (q : PySem.W.excIn X.K C bmB newId = true) (kC : PySem.W.keepIn X.K (.ref C) = true) (hg : Gl X x) (hm : X.mg x = some (.ref C)) (hdb : (x == ("__debug__" : Str)) = false := by decide) :
    PE X (.Call (.Name x p) [] [] pos) (tXmk0 C) := by
  refine ⟨fun pins s σ H Q I h => ?_⟩
  refine wpAny_Call_Name_kw (ld_glob I hg hm ?_ hdb)
  refine PySem.W.callWith_K0 I.kIn kC ?_
  show wpAny _ _ (call (.ref C) []) _ _ _
  obtain ⟨bm, N, nm, qn, bs, hdct, sn, sub, ab, col, dd, k0, k1, k2, k3, k5, mN, hC, hN, hni, T⟩ := exc_obj I.kIn q
  obtain ⟨hp, g, dr, tk, os⟩ := s
  refine wpAny_call_exc_subT F T hC hN hni (fun h' a hm2 => ?_) (Nat.zero_le _)
  have hn : H a = none := I.hok.gone hm2.new
  obtain ⟨t, ht, _, _⟩ := hm2.there
  exact ⟨.ref a, upd H a (exv a (.ref C) none), lay1 (t' := tk) I hm2.keeps hm2.new hn (exv_ok ht ⟨rfl, rfl⟩ rfl), rfl, h a hn⟩
/-- e.f, e an exception -/
def tXget (K : PySem.W.Frag) (f : Str) (te : TE) : TE := fun σ H Q => te σ H fun x H1 => ∃ (a C : Addr) (bmB : List Value) (newId : String) (fs : List (Str × V)) (v : V), x = .ref a ∧ XV H1 a C fs ∧ XCls K C bmB newId ∧ PySem.W.findIn K (.ref C) f = some none ∧ fs.lookup f = some v ∧ Q v H1
theorem xinst {a : Addr} {fs : List (Str × V)} (I : Inv X pins σ H s) (h : XV H a C fs) : ∃ (ox od : Obj) (mA : Str → Option Value), PySem.W.InstAt s.heap a ox C (some od) ∧ (∀ f, PySem.W.lookIn f od = some (mA f)) ∧ ∀ f, RelO (fs.lookup f) (mA f) := by
  obtain ⟨d, e1, e2⟩ := h
  obtain ⟨oe, vs, ho, hz, hd⟩ := exv_at I.hok e1
  obtain ⟨mA, hns, hr⟩ := (show ObjOk X.prog X.w H s.heap d (.xd fs) from I.hok d _ e2)
  obtain ⟨od, hod, hl⟩ := lookIn_ns hns
  exact ⟨oe, od, mA, ⟨ho, hz.1, by unfold PySem.W.notCls; rw [hd] <;> rfl, by rw [hz.2]; exact hod⟩, hl, hr⟩
theorem xinst0 {a : Addr} (I : Inv X pins σ H s) (h : XV0 H a C) : ∃ ox : Obj, PySem.W.InstAt s.heap a ox C none := by
  obtain ⟨oe, vs, ho, hz, hd⟩ := exv_at I.hok h
  exact ⟨oe, ⟨ho, hz.1, by unfold PySem.W.notCls; rw [hd] <;> rfl, by rw [hz.2]; trivial⟩⟩
theorem pe_xget (he : PE X e te) (hb : attributeBase e f X.env (eval e X.env) = eval e X.env := by rfl) : PE X (.Attribute e f pos) (tXget X.K f te) := by
  refine ⟨fun pins s σ H Q I h => ?_⟩
  refine attr_of hb (thn (he.run pins s σ H _ I h) fun u s1 hh => ?_)
  obtain ⟨x, H1, I1, rx, a, C, bmB, newId, fs, v, ex, hx, T, hno, hl, q⟩ := hh
  subst ex
  obtain rfl : u = Value.ref a := rx
  obtain ⟨ox, od, mA, J, hlk, hr⟩ := xinst I1 hx
  obtain ⟨u, hu, ru⟩ := RelO.some_of (v := v) (o := mA f) (by rw [← hl]; exact hr f)
  exact PySem.HandSPX.exc_get I1.kIn J T.ga T.gg T.exC (PySem.W.findObj_own T.hd hno rfl (by rw [hlk, hu])) (handed_of ru) ⟨v, H1, I1.tok _, ru, q⟩
/-- isinstance(e, c) -/
def rIsX (K : PySem.W.Frag) : List V → Hp → VK → Prop := fun xs H Q => ∃ (a C : Addr) (bmB : List Value) (newId : String) (c : V) (u : Value) (b : Bool), xs = [.ref a, c] ∧ ((∃ fs, XV H a C fs) ∨ XV0 H a C) ∧ XCls K C bmB newId ∧ ClsV c u ∧ PySem.W.kitOne K (.ref C) u = some b ∧ Q (.bl b) H
/-- isinstance(e, (c, ..)) -/
def rIsXT (K : PySem.W.Frag) : List V → Hp → VK → Prop := fun xs H Q => ∃ (a C : Addr) (bmB : List Value) (newId : String) (tp : Addr) (cs : List V) (us : List Value) (b : Bool), xs = [.ref a, .ref tp] ∧ H tp = some (.tup cs) ∧ Paired ClsV cs us ∧ ((∃ fs, XV H a C fs) ∨ XV0 H a C) ∧ XCls K C bmB newId ∧
  PySem.W.kitAny K (.ref C) us = some b ∧ Q (.bl b) H
theorem getOf (K : PySem.W.Frag) : PySem.W.specialIn K (.builtin "object.__class__") "__get__" = some (some (.builtin "getset_descriptor.__get__")) := by
  kernel_rfl
theorem setOf_ (K : PySem.W.Frag) : PySem.W.takesIn K (.builtin "object.__class__") = some true := by
  kernel_rfl
theorem xcls_is (T : XCls X.K C bmB newId) : (PySem.W.clsIn X.K C).isSome = true := by
  obtain ⟨cd, hcd, _⟩ := PySem.W.any_some T.hd
  rw [hcd]
  rfl
theorem call_isX : CallR X (.builtin "isinstance") (rIsX X.K) := by
  intro pins s σ H xs us Q I r h
  obtain ⟨a, C, bmB, newId, c, u, b, rfl, hx, T, k, e, q⟩ := h
  obtain ⟨u1, u2, rfl, r1, r2⟩ := vals2 r
  cases (show u1 = Value.ref a from r1)
  have e2 := k.eq r2
  subst e2
  rcases hx with ⟨fs, hx⟩ | hx
  · obtain ⟨ox, od, mA, J, _, _⟩ := xinst I hx
    exact PySem.W.kia_one (PySem.W.kitx_exc (xcls_is T) T.ga T.gg T.exC T.cl (getOf _) (setOf_ _) T.mo) I.kIn J e (fun z => nomatch z) fun tk => ⟨.bl b, H, I.tok tk, rfl, q⟩
  · obtain ⟨ox, J⟩ := xinst0 I hx
    exact PySem.W.kia_one (PySem.W.kitx_exc (xcls_is T) T.ga T.gg T.exC T.cl (getOf _) (setOf_ _) T.mo) I.kIn J e (fun z => nomatch z) fun tk => ⟨.bl b, H, I.tok tk, rfl, q⟩
theorem call_isXT : CallR X (.builtin "isinstance") (rIsXT X.K) := by
  intro pins s σ H xs us Q I r h
  obtain ⟨a, C, bmB, newId, tp, cs, ws, b, rfl, hT, k, hx, T, e, q⟩ := h
  obtain ⟨u1, u2, rfl, r1, r2⟩ := vals2 r
  cases (show u1 = Value.ref a from r1)
  cases (show u2 = Value.ref tp from r2)
  obtain ⟨_, its, rv, o, h1, h2, n, h3⟩ := (show ObjOk X.prog X.w H s.heap tp (.tup cs) from I.hok tp _ hT)
  have e3 := ClsV.all k rv
  subst e3
  obtain ⟨oc, od, dt, sl⟩ := o
  simp only at h2 h3
  subst h2 h3
  rcases hx with ⟨fs, hx⟩ | hx
  · obtain ⟨ox, od2, mA, J, _, _⟩ := xinst I hx
    exact PySem.W.kia_tup (PySem.W.kitx_exc (xcls_is T) T.ga T.gg T.exC T.cl (getOf _) (setOf_ _) T.mo) I.kIn J h1 e (fun z => nomatch z) fun tk => ⟨.bl b, H, I.tok tk, rfl, q⟩
  · obtain ⟨ox, J⟩ := xinst0 I hx
    exact PySem.W.kia_tup (PySem.W.kitx_exc (xcls_is T) T.ga T.gg T.exC T.cl (getOf _) (setOf_ _) T.mo) I.kIn J h1 e (fun z => nomatch z) fun tk => ⟨.bl b, H, I.tok tk, rfl, q⟩
end

/-! ### raised, caught -/
section
variable {X : Cx} {pins : List (Addr × Obj)} {σ : L2.St} {H : Hp} {s : Shared} {C fI : Addr} {f x : Str} {bmB : List Value} {newId B initId : String} {k : Nat} {fd : FuncData} {e : Expr} {ta : TA} {te : TE} {p pos kpos : Pos}
/-- C(e) behind a raise -/
def tXrs (C : Addr) (f : Str) (ta : TA) : L2.St → Hp → XK → Prop := fun σ H Q => ta σ H fun vs H1 => ∃ y, vs = [y] ∧ ∀ d, H1 d = none → Q (.ref C) (some d) (upd H1 d (.xd [(f, y)]))
theorem pmk_x (T : XCls X.K C bmB newId) (FB : ExcBaseFacts B newId initId bmB) (iC : PySem.W.findIn X.K (.ref C) "__init__" = some (some (.ref fI))) (tI : PySem.W.typeIn X.K (.ref fI) = some (.type "function"))
    (F1 : FnOk X.prog X.w X.K X.mg X.base CX0 k fI fd ["self", f] (spXi C f)) (hr : Room (k + 1) X.A) (hb : Binds X.K fd ["self", f] []) (hg : Gl X x) (hm : X.mg x = some (.ref C)) (ha : PA X [e] ta)
    (hdb : (x == ("__debug__" : Str)) = false := by decide) (he : starEach (e :: []) X.env = (false, eval e X.env) :: starEach [] X.env := by rfl) (hpl : (backTo pos (starEach [] X.env)).any (·.1) = false := by rfl) :
    PMk X (.Call (.Name x p) [e] [] pos) (tXrs C f ta) := by
  intro pins s σ H Q I h
  refine wpAny_Call_Name_kw (ld_glob I hg hm ?_ hdb)
  refine PySem.W.callWith_K (h₀ := X.base) I.ok.mod.kin T.kC (thn (ha.run pos pins s σ H _ I h) fun us s1 hh => ?_) he hpl
  obtain ⟨vs, H1, I1, r1, y, ev, q1⟩ := hh
  subst ev
  refine ⟨I1.kIn, ?_⟩
  cases r1 with
  | @cons _ u0 _ ur ry rn =>
    cases rn
    obtain ⟨nm, N, qn, bs, bm, hdct, sn, sub, ab, col, dd, k0, k1, k2, k3, k5, hC, hT⟩ := PySem.W.excInit_of I1.kIn T.made
    obtain ⟨hp, g, dr, tk, os⟩ := s1
    have I2 := setup (C := C) [u0] I1
    have hn : H1 (hp.objs.size + 1) = none := I1.hok.fresh (Nat.le_succ _)
    have kk : ∀ b o, hp.get? b = some o → ((hp.push (PySem.W.kdv_tup [u0])).push (PySem.HandSPX.excO C hp.objs.size)).get? b = some o := fun b o e =>
      Heap.get?_push_of_some _ (Heap.get?_push_of_some _ e)
    show wpAny _ _ (call (.ref C) [u0]) _ _ _
    refine wpAny_call (PySem.HandSPX.call_own FB hT hC (PySem.W.looks_findIn I1.kIn iC) (fun self => PySem.W.bind_fn I1.kIn self tI) (by rw [sizeLine_eq]; exact (by decide : 1 ≤ 16777216)) (codeAny_mono (F1.run _ X.stack _ _ ⟨[Value.ref (hp.objs.size + 1), u0], []⟩ [Value.ref (hp.objs.size + 1), u0] [.ref (hp.objs.size + 1), y]
      (fun v H2 => v = .non ∧ ∃ d, H1 d = none ∧ d ≠ hp.objs.size + 1 ∧ H2 = upd (upd H1 (hp.objs.size + 1) (exo (hp.objs.size + 1) C (some d))) d (exd d [(f, y)])) (fun _ _ _ => False)
      (hr.make C [u0] []) (I2.env0.make C [u0] []) (hb _ [Value.ref (hp.objs.size + 1), u0] I2.kIn rfl) (.cons rfl (.cons ry .nil)) ?_) fun r s' hq' => ?_))
    · refine ⟨_, y, rfl, upd_same, fun d hd nd => ⟨rfl, d, ?_, nd, ?_⟩⟩
      · rw [upd_ne nd] at hd
        exact hd
      · congr 1
        funext b
        by_cases h2 : b = hp.objs.size + 1
        · rw [h2, upd_same, upd_same]
        · rw [upd_ne h2, upd_ne h2, upd_ne h2]
    · cases r with
      | error er => exact False.elim hq'
      | ok fl =>
        cases fl with
        | ret u =>
          obtain ⟨v, H2, os2, bare2, un2, hok2, rv, ev, d, hd, nd, rfl⟩ := hq'
          subst ev
          obtain ⟨h2, g2, d2, t2, os'⟩ := s'
          have q2 := q1 d hd
          have eq : upd (del (upd (upd H1 (hp.objs.size + 1) (exo (hp.objs.size + 1) C (some d))) d (exd d [(f, y)])) (hp.objs.size + 1)) d (.xd [(f, y)]) = upd H1 d (.xd [(f, y)]) := by
            funext b
            by_cases h1 : b = d
            · rw [h1, upd_same, upd_same]
            · rw [upd_ne h1, upd_ne h1]
              by_cases h2 : b = hp.objs.size + 1
              · rw [h2, del_same, hn]
              · rw [del_ne h2, upd_ne h1, upd_ne h2]
          rw [← eq] at q2
          exact ⟨rv, mk_end (raises_own T.exC T.tyC) I1 (Nat.le_succ _) kk un2 hok2 os2 bare2 (by rw [upd_ne nd.symm, upd_same]) upd_same hd q2⟩
        | next => exact False.elim hq'
        | brk => exact False.elim hq'
        | cont => exact False.elim hq'
theorem suiteT {a : Addr} (I : Inv X pins σ H s) : Inv (X.suite a (X.pn ++ pins)) [] σ H s :=
  ⟨I.ok.suite _ _, I.os, I.bare, I.base, I.loc, I.cell, I.free, I.freeC, fun p hp => I.pin p (by rw [List.append_nil] at hp; exact hp), I.hok, I.len⟩
theorem unsuiteT {a : Addr} {pn' : List (Addr × Obj)} (I : Inv (X.suite a (X.pn ++ pins)) pn' σ H s) (ok : X.Ok) : Inv X pins σ H s :=
  ⟨ok, I.os, I.bare, I.base, I.loc, I.cell, I.free, I.freeC, fun p hp => I.pin p (List.mem_append_left _ hp), I.hok, I.len⟩
end
/-- what «except x as n» wishes: behind it the exception stands as a value -/
def wAsT (K : PySem.W.Frag) (c : Value) (i : Nat) (ts : Addr → TS) (Wout : WX) (D : Ends) : WX := fun cls d σ H => ∃ b, PySem.W.exmOne K cls c = some b ∧
  (b = true → ∀ a, H a = none → ts a { nx := fun σ' H' => D.nx (σ'.set i none) H', rt := D.rt, bk := fun σ' H' => D.bk (σ'.set i none) H', ct := fun σ' H' => D.ct (σ'.set i none) H' } (σ.set i (some (.ref a))) (upd H a (exv a cls d))) ∧ (b = false → Wout cls d σ H)
section
variable {X : Cx} {x n : Str} {c : Value} {i : Nat} {body suite : List Stmt} {b₀ : Stmt} {np pos pos' : Pos} {tb : WX → TS} {ts : Addr → TS} {Wout : WX}
theorem ps_try_asT (hs : X.stack = X.env :: X.outer) (hf : X.env.frame = some X.env.locals) (hN : X.N.Nodup) (hi : X.N[i]? = some n) (hln : X.env.kindOf n = some .local) (hc : Names X x c) (tk : Takes X Wout)
    (hb : ∀ (W : WX) (pn : List (Addr × Obj)) (xe : Value → Shared → Prop), Takes (X.tr pn xe) W → PassesOwn (model X.prog X.w) X.A X.env xe → PSs (X.tr pn xe) body (tb W))
    (hsu : ∀ (a : Addr) (pn : List (Addr × Obj)), PSs (X.suite a pn) (b₀ :: suite) (ts a)) :
    PS X (.Try body [.ExceptHandler (some (.Name x np)) (some n) (b₀ :: suite) pos'] [] [] pos) (fun D σ H => tb (wAsT X.K c i ts Wout D) D σ H) := by
  refine ⟨fun pins s σ H D I h => ?_⟩
  have ok := I.ok
  have hfr : X.A.frames = some (X.env :: X.outer) := by
    rw [ok.frames, hs]
  have hloc : Loc X.env.scope n := .inl hln
  refine wpAny_Try_except ?_
  refine wpAny_mono ((hb (wAsT X.K c i ts Wout D) (X.pn ++ pins) _ (fun u s' xx => ?_) PassesOwn.looking).run [] s σ H D (I.toTry _) h) (fun fl s1 hsp => ?_) (fun _ _ z => z)
  · obtain ⟨a, GB, sI, pins', σ', H', cls, d, rfl, J', nb, up, sky, na, os, ag, b, hb1, hyes, hno⟩ := xx
    have J : Inv X pins σ' H' sI := J'.ofTry ok
    have sky2 : Sky GB (X.env :: X.outer) a (Zc cls d) X.env.locals s'.heap := by
      rw [← hs]
      exact sky
    show wpAny (model X.prog X.w) X.A (noteFrame (.ref a) X.env) _ _ _
    refine Sky.land Zc.steady hfr hf sky2 fun h3 fl3 up3 => ?_
    have J3 : Inv X pins σ' H' { s' with heap := h3 } := J.landed nb fl3.1 (up.trans up3) os ag
    obtain ⟨oe3, vs3, he3, hz3, hd3⟩ := fl3.there
    have nfr : a ∉ frs (X.env :: X.outer) := fun hm => by
      obtain ⟨_, o2, e2, hnf⟩ := fl3.2.2.1.mem hm
      rw [he3] at e2
      cases e2
      exact hnf _ hd3
    have nL : a ≠ X.env.locals := fun z => nfr (List.mem_filterMap.mpr ⟨X.env, List.mem_cons_self, by rw [hf, z]⟩)
    have nF : a ∉ X.fs := fun hm => by
      obtain ⟨v, hv, q⟩ := List.mem_filterMap.mp hm
      exact nfr (List.mem_filterMap.mpr ⟨v, List.mem_cons_of_mem _ hv, q⟩)
    have S3 := J3.suite he3 hd3 na nL nF
    refine wpAny_handleBy_cons (codeAny_handlers_test ?_) (by intro q; cases q)
    have LT : PySem.W.Looks (model X.prog X.w) h3 (typeOf (.ref a)) cls := fun A Q E s k q => by
      refine wpAny_typeOf_ref (k _ _ he3) ?_
      rw [hz3.1]
      exact q
    have LM := PySem.W.exm_one (M := model X.prog X.w) (J3.kIn) LT hb1
    have test : ∀ {Q : Value → Shared → Prop} {E : Value → Shared → Prop}, Q c { s' with heap := h3 } → wpAny (model X.prog X.w) (X.A.mark (some (.ref a))) (eval (.Name x np) X.env) Q E { s' with heap := h3 } := fun {Q E} q => by
      obtain ⟨hg, hdbg, hm | ⟨hm, hv, hnn⟩⟩ := hc
      · exact ld_glob (X := X.suite a ((a, oe3) :: (X.pn ++ pins))) S3 hg hm q hdbg
      · exact ld_blt (X := X.suite a ((a, oe3) :: (X.pn ++ pins))) S3 hg hm hv q hnn hdbg
    refine test (LM.here ?_)
    cases b with
    | true =>
      refine codeAny_handlers_suite_as ?_
      refine HandSPX.lands_againZ fl3 fun h4 fl4 up4 => ?_
      obtain ⟨oe4, vs4, he4, hz4, hd4⟩ := fl4.there
      -- the exception is tracked from here on
      obtain ⟨G, g1, g2⟩ := restrict h4 fun q => decide (q ≠ a)
      have gk : ∀ q, q ≠ a → G.get? q = h4.get? q := fun q hq => g1 q (decide_eq_true hq)
      have gn : G.get? a = none := g2 a (decide_eq_false fun z => z rfl)
      have notB : ∀ q o, GB.get? q = some o → q ≠ a := fun q o e z => by
        rw [z, fl4.2.1] at e
        cases e
      have notI : ∀ q o, sI.heap.get? q = some o → q ≠ a := fun q o e z => by
        by_cases hm : q ∈ frs X.stack
        · rw [hs, z] at hm
          exact nfr hm
        · exact notB q o (nb q o e hm) z
      have J4 : Inv X pins σ' H' { s' with heap := G } := J.landed nb (fun q o e => (gk q (notB q o e)).trans (fl4.1 q o e)) (fun q o e hno => by
        obtain ⟨sl, w⟩ := ((up.trans up3).trans up4) q o e hno
        exact ⟨sl, (gk q (notI q o e)).trans w⟩) os ag
      have J5 : Inv X pins σ' (upd H' a (exv a cls d)) { s' with heap := h4 } := lay1 (s := { s' with heap := G }) (h' := h4) (t' := s'.toks) J4 (fun q o e => by
        by_cases hq : q = a
        · rw [hq, gn] at e
          cases e
        · exact (gk q hq).symm.trans e) gn na (exv_ok he4 hz4 hd4)
      refine store_ok (X := X.suite a (X.pn ++ pins)) (v := .ref a) (suiteT J5) hN hi hloc rfl (fun s5 S5 => ?_) (.inr hln)
      refine wpAny_mono ((hsu a (X.pn ++ pins)).run [] s5 _ _ _ S5 (hyes rfl a na)) (fun fl s6 hsp => ?_) (fun _ _ z => False.elim z)
      have fin : ∀ {σ6 : L2.St} {H6 : Hp} {Q : Shared → Prop}, Inv (X.suite a (X.pn ++ pins)) [] σ6 H6 s6 → (∀ s7, Inv X pins (σ6.set i none) H6 s7 → Q s7) →
          wpAny (model X.prog X.w) X.A (do bindName X.env n .none; unbindBehindTheSuite X.env n pos') (fun _ s7 => Q s7) X.xe s6 := fun {σ6 H6 Q} S6 hq => gone_ok (unsuiteT S6 ok) hN hi hln hq
      cases fl with
      | next =>
        obtain ⟨σ6, H6, S6, q6⟩ := hsp
        exact fin S6 fun s7 J7 => ⟨_, _, J7, q6⟩
      | brk =>
        obtain ⟨σ6, H6, S6, q6⟩ := hsp
        exact fin S6 fun s7 J7 => ⟨_, _, J7, q6⟩
      | cont =>
        obtain ⟨σ6, H6, S6, q6⟩ := hsp
        exact fin S6 fun s7 J7 => ⟨_, _, J7, q6⟩
      | ret u =>
        obtain ⟨v6, σ6, H6, S6, r6, q6⟩ := hsp
        exact fin S6 fun s7 J7 => ⟨_, _, _, J7, r6, q6⟩
    | false =>
      show wpAny _ X.A (handleBy (.ref a) X.env []) _ _ _
      refine wpAny_handleBy_nil ?_
      obtain ⟨k1, k2, k3, oe, vs, T, oT, ts', he, hz, hd, h1, hr⟩ := id fl3
      unfold PySem.passOn
      refine wpAny_bind (wpAny_field he hd h1 ?_)
      rw [if_neg (show ¬ ((Value.ref T == Value.none) = true) from by simp)]
      have fin : wpAny (model X.prog X.w) X.A (setFlight (.ref a) X.env.frame) (fun _ s4 => wpAny (model X.prog X.w) X.A (throw (.ref a) : Sem Flow) (SP X pins D) X.xe s4) X.xe { s' with heap := h3 } := by
        rw [hf]
        refine HandSPX.setFlight_upZ fl3 fun h4 hh4 up4 => wpAny_throw (tk _ _ ?_)
        exact ⟨a, GB, sI, pins, σ', H', cls, d, rfl, J, nb, (up.trans up3).trans up4, .inr (.inr (by rw [hs]; exact hh4)), na, os, ag, hno rfl⟩
      first
        | exact wpAny_bind (wpAny_pure (wpAny_bind fin))
        | exact wpAny_bind fin
  · cases fl with
    | next =>
      obtain ⟨σ', H', J', q⟩ := hsp
      exact wpAny_execs_nil ⟨σ', H', J'.ofTry ok, q⟩
    | brk =>
      obtain ⟨σ', H', J', q⟩ := hsp
      exact ⟨σ', H', J'.ofTry ok, q⟩
    | cont =>
      obtain ⟨σ', H', J', q⟩ := hsp
      exact ⟨σ', H', J'.ofTry ok, q⟩
    | ret u =>
      obtain ⟨v, σ', H', J', r, q⟩ := hsp
      exact ⟨v, σ', H', J'.ofTry ok, r, q⟩
end
end TR

/-! data: what all laws share -/
namespace TR
open PySem PySem.Spec PyProof.Rows L2
abbrev Ex (H H' : Hp) : Prop := ∀ a o, H a = some o → H' a = some o
theorem ex_refl (H : Hp) : Ex H H := fun _ _ h => h
theorem ex_trans {H H1 H2 : Hp} (a : Ex H H1) (b : Ex H1 H2) : Ex H H2 := fun x o h => b x o (a x o h)
theorem ex_new {H : Hp} {p : Addr} {o : HO} (h : H p = none) : Ex H (upd H p o) := fun a u e => by
  rw [upd_ne (ne_of_none e h)]
  exact e
theorem ex_newT {H H1 : Hp} {p : Addr} {o : HO} (e : Ex H H1) (h : H1 p = none) : Ex H (upd H1 p o) := ex_trans e (ex_new h)
/-- what H did not know may change -/
theorem ex_mut {H H' : Hp} {p : Addr} {o : HO} (e : Ex H H') (h : H p = none) : Ex H (upd H' p o) := fun a u ha => by
  rw [upd_ne (ne_of_none ha h)]
  exact e a u ha
theorem ex_back {H H' : Hp} {p : Addr} (e : Ex H H') (h : H' p = none) : H p = none := by
  cases h1 : H p with
  | none => rfl
  | some o =>
    rw [e p o h1] at h
    cases h
mutual
theorem dp_mono {K : PySem.W.Frag} {H H' : Hp} (e : Ex H H') : ∀ {v : V} {d : PyData}, Dp K H v d → Dp K H' v d
  | _, _, .non => .non
  | _, _, .bl b => .bl b
  | _, _, .int i => .int i
  | _, _, .str x => .str x
  | _, _, .lst h t => .lst (Evl.ex_l e h) (dpAll_mono e t)
  | _, _, .tup h t => .tup (Evl.ex_t e h) (dpAll_mono e t)
theorem dpAll_mono {K : PySem.W.Frag} {H H' : Hp} (e : Ex H H') : ∀ {vs : List V} {ds : List PyData}, DpAll K H vs ds → DpAll K H' vs ds
  | _, _, .nil => .nil
  | _, _, .cons h t => .cons (dp_mono e h) (dpAll_mono e t)
end
theorem dpAll_len {K : PySem.W.Frag} {H : Hp} : ∀ {vs : List V} {ds : List PyData}, DpAll K H vs ds → vs.length = ds.length
  | _, _, .nil => rfl
  | _, _, .cons _ t => congrArg Nat.succ (dpAll_len t)
theorem dpAll_at {K : PySem.W.Frag} {H : Hp} : ∀ {vs : List V} {ds : List PyData} {i : Nat} {v : V}, DpAll K H vs ds → vs[i]? = some v → ∃ d, ds[i]? = some d ∧ Dp K H v d
  | _, _, _, _, .nil, h => by simp at h
  | _, _, 0, _, .cons h t, q => by
    have e := Option.some.inj q
    subst e
    exact ⟨_, rfl, h⟩
  | _, _, i + 1, v, .cons h t, q => dpAll_at (i := i) (v := v) t q
theorem dpAll_map {K : PySem.W.Frag} {H : Hp} {α : Type} {f : α → V} {g : α → PyData} (h : ∀ a, Dp K H (f a) (g a)) : ∀ l : List α, DpAll K H (l.map f) (l.map g)
  | [] => .nil
  | a :: l => .cons (h a) (dpAll_map h l)
/-- data of at most n levels, its rows short -/
def okD : Nat → PyData → Prop
  | 0, _ => False
  | n + 1, .list ds => ds.length ≤ 100000 ∧ ∀ d ∈ ds, okD n d
  | n + 1, .tuple ds => ds.length ≤ 100000 ∧ ∀ d ∈ ds, okD n d
  | _ + 1, .dict _ => False
  | _ + 1, _ => True
/-- the name of its type -/
def tyN : PyData → String
  | .none => "NoneType"
  | .bool _ => "bool"
  | .int _ => "int"
  | .str _ => "str"
  | .list _ => "list"
  | .tuple _ => "tuple"
  | .dict _ => "dict"
theorem tyX_l {K : PySem.W.Frag} {H : Hp} {a : Addr} {xs : List V} (h : SqL K H a xs) : TyX K H (.ref a) (.type "list") := by
  rcases h with (h | ⟨o, h⟩) | ⟨o, its, n, h1, h2, _⟩
  · exact .base (.lst h)
  · exact .base (.frz h)
  · exact .kList h1 h2
theorem tyX_t {K : PySem.W.Frag} {H : Hp} {a : Addr} {xs : List V} (h : SqT K H a xs) : TyX K H (.ref a) (.type "tuple") := by
  rcases h with (h | ⟨o, h⟩) | ⟨o, its, n, h1, h2, _⟩
  · exact .base (.tup h)
  · exact .fTuple h
  · exact .kTuple h1 h2
theorem tyX_of {K : PySem.W.Frag} {H : Hp} {v : V} {d : PyData} (h : Dp K H v d) : TyX K H v (.type (tyN d)) := by
  cases h with
  | non => exact .base .non
  | bl b => exact .base (.bl b)
  | int i => exact .base (.int i)
  | str x => exact .base (.str x)
  | lst h _ => exact tyX_l h
  | tup h _ => exact tyX_t h
end TR

namespace TR
open PySem PySem.Spec PyProof.Rows L2
def isSeq : PyData → Bool
  | .list _ => true
  | .tuple _ => true
  | _ => false
theorem kit1 (K : PySem.W.Frag) (a b : String) (r : Bool) (h : kitB a b = some r) : PySem.W.kitOne K (.type a) (.type b) = some r := h
theorem kit2 {K : PySem.W.Frag} {a b c : String} {r q : Bool} (h : kitB a b = some r) (h' : kitB a c = some q) : PySem.W.kitAny K (.type a) [.type b, .type c] = some (r || q) := by
  unfold PySem.W.kitAny
  rw [kit1 K a b r h]
  cases r with
  | true => rfl
  | false =>
    show PySem.W.kitAny K (.type a) [.type c] = some q
    unfold PySem.W.kitAny
    rw [kit1 K a c q h']
    cases q <;> rfl
/-- the type's name is T -/
def isTy (T : String) (d : PyData) : Bool := tyN d == T || (T == "int" && tyN d == "bool")
theorem kitB_ok : ∀ a ∈ ["NoneType", "bool", "int", "str", "list", "tuple"], ∀ b ∈ ["list", "tuple", "bool", "str", "int"], kitB a b = some (a == b || (b == "int" && a == "bool")) := by
  decide +kernel
theorem tyN_mem {K : PySem.W.Frag} {H : Hp} {v : V} {d : PyData} (h : Dp K H v d) : tyN d ∈ ["NoneType", "bool", "int", "str", "list", "tuple"] := by
  cases h <;> simp [tyN]
theorem kitD {K : PySem.W.Frag} {H : Hp} {v : V} {d : PyData} (h : Dp K H v d) {b : String} (hb : b ∈ ["list", "tuple", "bool", "str", "int"]) : PySem.W.kitOne K (.type (tyN d)) (.type b) = some (isTy b d) :=
  kitB_ok _ (tyN_mem h) b hb
theorem kitD2 {K : PySem.W.Frag} {H : Hp} {v : V} {d : PyData} (h : Dp K H v d) {b c : String} (hb : b ∈ ["list", "tuple", "bool", "str", "int"]) (hc : c ∈ ["list", "tuple", "bool", "str", "int"]) :
    PySem.W.kitAny K (.type (tyN d)) [.type b, .type c] = some (isTy b d || isTy c d) := kit2 (kitB_ok _ (tyN_mem h) b hb) (kitB_ok _ (tyN_mem h) c hc)
/-- the built-in names that the program's and the laws' texts use stand for the built-ins -/
structure Bi (mg : Str → Option Value) : Prop where
  isinstance : mg "isinstance" = none
  list : mg "list" = none
  tuple : mg "tuple" = none
  bool : mg "bool" = none
  str : mg "str" = none
  int : mg "int" = none
  abs : mg "abs" = none
  len : mg "len" = none
  all : mg "all" = none
  zip : mg "zip" = none
  enumerate : mg "enumerate" = none
  range : mg "range" = none
end TR
namespace TR
open PySem PySem.Spec PyProof.Rows L2
/-- a def that may be called by its name, letting nothing out -/
def Cal (P : Program) (w : World) (K : PySem.W.Frag) (mg : Str → Option Value) (base : Heap) (k : Nat) (x : Str) (ps : List Str) (sp : Sp) : Prop :=
  ∃ (f : Addr) (fd : FuncData), FnOk P w K mg base CX0 k f fd ps sp ∧ Binds K fd ps [] ∧ mg x = some (.ref f) ∧ PySem.W.keepIn K (.ref f) = true
theorem Cal.mono {P : Program} {w : World} {K : PySem.W.Frag} {mg : Str → Option Value} {base : Heap} {j k : Nat} {x : Str} {ps : List Str} {sp : Sp} (c : Cal P w K mg base j x ps sp) (h : j ≤ k) : Cal P w K mg base k x ps sp := by
  obtain ⟨f, fd, F, b, m, kp⟩ := c
  exact ⟨f, fd, F.mono h, b, m, kp⟩
section
variable {X : Cx} {k : Nat} {x : Str} {ps : List Str} {sp : Sp} {e : Expr} {es : List Expr} {t : TA} {p pos : Pos}
theorem pe_cal (c : Cal X.prog X.w X.K X.mg X.base k x ps sp) (hr : Room k X.A) (hg : Gl X x) (ha : PA X (e :: es) t) (hdb : (x == ("__debug__" : Str)) = false := by decide) (he : starEach (e :: es) X.env = (false, eval e X.env) :: starEach es X.env := by rfl)
    (hpl : (backTo pos (starEach es X.env)).any (·.1) = false := by rfl) : PE X (.Call (.Name x p) (e :: es) [] pos) (tCall sp [] E0 t) := by
  obtain ⟨f, fd, F, b, m, kp⟩ := c
  exact pe_call F hr hg m kp b .nil pass0 ha hdb he hpl
theorem pe_cal0 (c : Cal X.prog X.w X.K X.mg X.base k x ps sp) (hr : Room k X.A) (hg : Gl X x) (hdb : (x == ("__debug__" : Str)) = false := by decide) : PE X (.Call (.Name x p) [] [] pos) (tCall sp [] E0 tNil) := by
  obtain ⟨f, fd, F, b, m, kp⟩ := c
  exact pe_call0 F hr hg m kp b .nil pass0 hdb
end
end TR

namespace TR
open PySem PySem.Spec PyProof.Rows L2
/-- an exception class whose __init__ stores its one argument under f: all that making, raising, reading and asking want -/
def XMk (P : Program) (w : World) (K : PySem.W.Frag) (mg : Str → Option Value) (base : Heap) (C : Addr) (f : Str) : Prop :=
  ∃ (fI : Addr) (fd : FuncData) (bmB : List Value) (newId B initId : String), XCls K C bmB newId ∧ ExcBaseFacts B newId initId bmB ∧ PySem.W.findIn K (.ref C) "__init__" = some (some (.ref fI)) ∧ PySem.W.typeIn K (.ref fI) = some (.type "function") ∧
    FnOk P w K mg base CX0 1 fI fd ["self", f] (spXi C f) ∧ Binds K fd ["self", f] [] ∧ (∀ (s : Shared) (u v : Value), K.In s.heap → BindsTo s fd ⟨[u], [(f, v)]⟩ [("self", u), (f, v)]) ∧ PySem.W.findIn K (.ref C) f = some none
/-- one without -/
def XMk0 (K : PySem.W.Frag) (C : Addr) : Prop := ∃ (bmB : List Value) (newId B initId : String), XCls K C bmB newId ∧ ExcBaseFacts B newId initId bmB ∧ PySem.W.excIn K C bmB newId = true
/-- of either kind -/
def XC (K : PySem.W.Frag) (C : Addr) : Prop := ∃ (bmB : List Value) (newId : String), XCls K C bmB newId
section
variable {X : Cx} {x f : Str} {C : Addr} {e : Expr} {te : TE} {ta : TA} {p pos kpos : Pos}
theorem pe_xm (M : XMk X.prog X.w X.K X.mg X.base C f) (hr : Room 2 X.A) (hg : Gl X x) (hm : X.mg x = some (.ref C)) (ha : PA X [e] ta) (hdb : (x == ("__debug__" : Str)) = false := by decide)
    (he : starEach (e :: []) X.env = (false, eval e X.env) :: starEach [] X.env := by rfl) (hpl : (backTo pos (starEach [] X.env)).any (·.1) = false := by rfl) : PE X (.Call (.Name x p) [e] [] pos) (tXmk C f ta) := by
  obtain ⟨fI, fd, bmB, newId, B, initId, T, FB, iC, tI, F1, b, bk, _⟩ := M
  exact pe_xmk T FB iC tI F1 hr b hg hm ha hdb he hpl
theorem pe_xmk' (M : XMk X.prog X.w X.K X.mg X.base C f) (hr : Room 2 X.A) (hg : Gl X x) (hm : X.mg x = some (.ref C)) (ha : PE X e te) (hdb : (x == ("__debug__" : Str)) = false := by decide) :
    PE X (.Call (.Name x p) [] [⟨some f, e, kpos⟩] pos) (tXmk C f (tCons te tNil)) := by
  obtain ⟨fI, fd, bmB, newId, B, initId, T, FB, iC, tI, F1, b, bk, _⟩ := M
  exact pe_xmkK T FB iC tI F1 hr bk hg hm ha hdb
theorem pe_xm0 (M : XMk0 X.K C) (hg : Gl X x) (hm : X.mg x = some (.ref C)) (hdb : (x == ("__debug__" : Str)) = false := by decide) : PE X (.Call (.Name x p) [] [] pos) (tXmk0 C) := by
  obtain ⟨bmB, newId, B, initId, T, FB, q⟩ := M
  exact pe_xmk0 FB q T.kC hg hm hdb
theorem pmk_xm (M : XMk X.prog X.w X.K X.mg X.base C f) (hr : Room 2 X.A) (hg : Gl X x) (hm : X.mg x = some (.ref C)) (ha : PA X [e] ta) (hdb : (x == ("__debug__" : Str)) = false := by decide)
    (he : starEach (e :: []) X.env = (false, eval e X.env) :: starEach [] X.env := by rfl) (hpl : (backTo pos (starEach [] X.env)).any (·.1) = false := by rfl) : PMk X (.Call (.Name x p) [e] [] pos) (tXrs C f ta) := by
  obtain ⟨fI, fd, bmB, newId, B, initId, T, FB, iC, tI, F1, b, bk, _⟩ := M
  exact pmk_x T FB iC tI F1 hr b hg hm ha hdb he hpl
/-- the reading of e.f for a made one -/
theorem xget_go {K : PySem.W.Frag} {P : Program} {w : World} {mg : Str → Option Value} {base : Heap} {H : Hp} {a : Addr} {fs : List (Str × V)} {v : V} {Q : VK} (M : XMk P w K mg base C f) (h : XV H a C fs) (hl : fs.lookup f = some v) (q : Q v H) :
    ∃ (a' C : Addr) (bmB : List Value) (newId : String) (fs : List (Str × V)) (v : V), V.ref a = .ref a' ∧ XV H a' C fs ∧ XCls K C bmB newId ∧ PySem.W.findIn K (.ref C) f = some none ∧ fs.lookup f = some v ∧ Q v H := by
  obtain ⟨fI, fd, bmB, newId, B, initId, T, FB, iC, tI, F1, b, bk, no⟩ := M
  exact ⟨a, C, bmB, newId, fs, v, rfl, h, T, no, hl, q⟩
theorem XV.mono {H H' : Hp} {a : Addr} {fs : List (Str × V)} (h : XV H a C fs) (e : Ex H H') : XV H' a C fs := by
  obtain ⟨d, h1, h2⟩ := h
  exact ⟨d, e _ _ h1, e _ _ h2⟩
/-- an exception of the class at C, of either kind -/
def XA (H : Hp) (a C : Addr) : Prop := (∃ fs, XV H a C fs) ∨ XV0 H a C
theorem XA.mono {H H' : Hp} {a : Addr} (h : XA H a C) (e : Ex H H') : XA H' a C := by
  rcases h with ⟨fs, h⟩ | h
  · exact .inl ⟨fs, h.mono e⟩
  · exact .inr (e _ _ h)
end
end TR

namespace TR
open PySem PySem.Spec PyProof.Rows L2
/-! the head's facts, with a test of one's own -/
abbrev AlM : Type := Bool × He.AlD
def obsM (fa : List He.Fa) (fn : List He.DefD) (test : PySem.W.Frag → Bool) (K : PySem.W.Frag) : AlM := (test K, He.obsD fa fn K)
def obsMG (n : Nat) (fa : List He.Fa) (fn : List He.DefD) (test : PySem.W.Frag → Bool) (g : Addr → Option Obj) : AlM := obsM fa fn test (He.frG g (He.asD g n))
def hookM (n : Nat) (fa : List He.Fa) (fn : List He.DefD) (test : PySem.W.Frag → Bool) : PySem.W.Hook where
  α := AlM
  obs := fun s => obsMG n fa fn test s.heap.get?
  val := fun _ => (true, He.valD fn)
  says := fun _ h => ∃ K : PySem.W.Frag, K.In h ∧ test K = true ∧ He.SaysD fa fn K
  of := fun _ _ e => ⟨_, He.frG_in, congrArg (fun z : AlM => z.1) e, congrArg (fun z : AlM => z.2) e⟩
  keeps := fun _ _ _ h k => by
    obtain ⟨K, hK, t, c⟩ := h
    exact ⟨K, PySem.W.Frag.In.keeps hK k, t, c⟩
theorem obsMG_eq {n : Nat} {fa : List He.Fa} {fn : List He.DefD} {test : PySem.W.Frag → Bool} {g : Addr → Option Obj} {s : Shared} (h : ∀ a, g a = s.heap.get? a) : obsMG n fa fn test g = (hookM n fa fn test).obs s := by
  have e : g = s.heap.get? := funext h
  rw [e]
  rfl
/-! the exception classes' facts as a test -/
def leB : List Value := [.type "LookupError", .type "Exception", .type "BaseException", .type "object"]
def veB : List Value := [.type "ValueError", .type "Exception", .type "BaseException", .type "object"]
def xclsB (K : PySem.W.Frag) (C : Addr) (bmB : List Value) (newId : String) : Bool :=
  PySem.W.excInitIn K C bmB newId && (PySem.W.excOver K C bmB && (decide (PySem.W.findIn K (.ref C) "__setattr__" = some (some (.builtin "object.__setattr__"))) && (decide (PySem.W.findIn K (.ref C) "__getattribute__" = some (some (.builtin "BaseException.__getattribute__"))) &&
  (decide (PySem.W.findIn K (.ref C) "__getattr__" = some none) && (decide (PySem.W.subIn K (.ref C) (.type "BaseException") = some true) && (decide (PySem.W.typeIn K (.ref C) = some (.type "type")) && (PySem.W.keepIn K (.ref C) && (PySem.W.hasDictIn K C &&
  (decide (PySem.W.findIn K (.ref C) "__class__" = some (some (.builtin "object.__class__"))) && decide (PySem.W.mroIn K C (.type "object") = some true))))))))))
theorem band {a b : Bool} (h : (a && b) = true) : a = true ∧ b = true := Bool.and_eq_true_iff.mp h
theorem xclsB_ok {K : PySem.W.Frag} {C : Addr} {bmB : List Value} {newId : String} (h : xclsB K C bmB newId = true) : XCls K C bmB newId := by
  obtain ⟨h1, h⟩ := band h
  obtain ⟨h2, h⟩ := band h
  obtain ⟨h3, h⟩ := band h
  obtain ⟨h4, h⟩ := band h
  obtain ⟨h5, h⟩ := band h
  obtain ⟨h6, h⟩ := band h
  obtain ⟨h7, h⟩ := band h
  obtain ⟨h8, h⟩ := band h
  obtain ⟨h9, h⟩ := band h
  obtain ⟨h10, h11⟩ := band h
  exact ⟨h1, h2, of_decide_eq_true h3, of_decide_eq_true h4, of_decide_eq_true h5, of_decide_eq_true h6, of_decide_eq_true h7, h8, h9, of_decide_eq_true h10, of_decide_eq_true h11⟩
/-- the class's __init__ and its field -/
def xiniB (K : PySem.W.Frag) (x f : Str) : Bool :=
  decide (PySem.W.findIn K (.ref (He.ga K x)) "__init__" = some (some (.ref (He.fAd K (x, some "__init__"))))) && (decide (PySem.W.typeIn K (.ref (He.fAd K (x, some "__init__"))) = some (.type "function")) && decide (PySem.W.findIn K (.ref (He.ga K x)) f = some none))
theorem xiniB_ok {K : PySem.W.Frag} {x f : Str} (h : xiniB K x f = true) : PySem.W.findIn K (.ref (He.ga K x)) "__init__" = some (some (.ref (He.fAd K (x, some "__init__")))) ∧ PySem.W.typeIn K (.ref (He.fAd K (x, some "__init__"))) = some (.type "function") ∧ PySem.W.findIn K (.ref (He.ga K x)) f = some none := by
  obtain ⟨h1, h⟩ := band h
  obtain ⟨h2, h3⟩ := band h
  exact ⟨of_decide_eq_true h1, of_decide_eq_true h2, of_decide_eq_true h3⟩
end TR

namespace TR
open PySem PySem.Spec PyProof.Rows L2
def topS (i : Nat) : Stmt := PySem.Challenge.pw_touchrights_k00_errors_made_by_hand.main.body.getD i (.Pass ⟨0, 0, 0, 0⟩)
abbrev FnP (K : PySem.W.Frag) (x qual : Str) (st : Stmt) (f : Addr) (fd : FuncData) : Prop := FunD K x qual (defArgs st) (defBody st) (defScope st) [] [] f fd
abbrev sSame : Stmt := topS 13
abbrev nSame : List Str := ["_law_got", "_law_due", "_law_mine", "_law_its"]
theorem scSame : FnScope nSame ["_law_got", "_law_due"] (defScope sSame) := ⟨rfl, rfl, rfl, by decide +kernel, rfl, by decide +kernel, by decide +kernel⟩
theorem go_and {b : Bool} {A B : Prop} (hb : b = true) (h : A) : ∃ c, V.bl b = V.bl c ∧ (if c = true then A else B) := ⟨true, by rw [hb], by rw [if_pos rfl]; exact h⟩
/-- _law_same: two of the same data are the same -/
def spSame (K : PySem.W.Frag) (n : Nat) : Sp := fun vs H Q _ => ∃ (x y : V) (d : PyData), vs = [x, y] ∧ okD n d ∧ Dp K H x d ∧ Dp K H y d ∧ ∀ H', Ex H H' → Q (.bl true) H'
theorem walk_zipT {K : PySem.W.Frag} {a b : Addr} {xs ys : List V} {n : Nat} (hn : n = min xs.length ys.length) :
    Walk (RZ.ItzT K a b) n (fun H => SqT K H a xs ∧ SqT K H b ys) (YPair (fun i => xs[i]?) (fun i => ys[i]?)) := by
  subst hn
  refine ⟨fun i _ hi q => ?_, fun H q => ?_, fun i H v H' hi q y => ?_⟩
  · have h1 : i < xs.length := by
      omega
    have h2 : i < ys.length := by
      omega
    exact ⟨xs, ys, xs[i], ys[i], q.1, q.2, by simp [h1], by simp [h2]⟩
  · exact ⟨xs, ys, q.1, q.2, by omega⟩
  · obtain ⟨T, x, z, h1, h2, h3, h4, h5⟩ := y
    exact ⟨T, x, z, h1, h2, h3, h4 xs q.1, h5 ys q.2⟩
theorem lc_same {K : PySem.W.Frag} {J : It} {G : Hp → Prop} {H1 : Hp} {D : Addr} {xs ys : List V} {ds : List PyData} {n : Nat} {x y : V} {Qd : Hp → Prop} (w : Walk J xs.length G (YPair (fun i => xs[i]?) (fun i => ys[i]?))) (hG : ∀ Hc, Ex H1 Hc → G Hc)
    (dx : DpAll K H1 xs ds) (dy : DpAll K H1 ys ds) (hn : ds.length ≤ 100000) (ok : ∀ d ∈ ds, okD n d) (hD : H1 D = none) (k : ∀ Hc, Ex H1 Hc → Hc D = some (.lst (List.replicate xs.length (V.bl true))) → Qd Hc) :
    ∃ W : Nat → Nat → Hp → Prop, (∃ m, W 0 m (upd H1 D (.lst []))) ∧ ∀ i m H, W i m H →
      (J.stop i H ∧ Qd H) ∨ (J.go i H ∧ ∃ Nx : Hp → Prop, (∀ H', Nx H' → ∃ m', m' < m ∧ W (i + 1) m' H') ∧ ∀ v H', J.yld i H v H' → gTup K 2 (gCons (gName 2) (gCons (gName 3) gNil)) v (wipe [some x, some y, none, none] [2, 3]) H' fun σ2 H2 =>
        wipe σ2 [2, 3] = wipe [some x, some y, none, none] [2, 3] ∧ tYes σ2 H2 fun b H3 =>
        if b = true then tCall (spSame K n) [] E0 (tCons (tVar 2) (tCons (tVar 3) tNil)) σ2 H3 fun z H4 => ∃ acc, H4 D = some (.lst acc) ∧ acc.length < sizeLine ∧ Nx (upd H4 D (.lst (acc ++ [z]))) else Nx H3) := by
  refine lc_it w (fun i Hc => Ex H1 Hc ∧ Hc D = some (.lst (List.replicate i (V.bl true)))) ⟨ex_new hD, upd_same⟩ (fun i Hc _ p => hG Hc p.1) (fun i v Hc H' hi p y => ?_) (fun Hc p => k Hc p.1 p.2)
  obtain ⟨T, x1, y1, rfl, nT, rfl, h1, h2⟩ := y
  obtain ⟨p1, p2⟩ := p
  refine ⟨T, [x1, y1], rfl, .inl (.inl upd_same), rfl, x1, [y1], rfl, y1, [], rfl, rfl, rfl, ?_⟩
  obtain ⟨d, hd, ex⟩ := dpAll_at dx h1
  obtain ⟨d', hd', ey⟩ := dpAll_at dy h2
  rw [hd] at hd'
  cases hd'
  have e2 : Ex H1 (upd Hc T (.tup [x1, y1])) := ex_newT p1 nT
  refine ⟨x1, rfl, y1, rfl, x1, y1, d, rfl, ok d (List.mem_of_getElem? hd), dp_mono e2 ex, dp_mono e2 ey, fun H4 e4 => ?_⟩
  have hl : xs.length = ds.length := dpAll_len dx
  refine ⟨List.replicate i (V.bl true), e4 _ _ (ex_new nT _ _ p2), ?_, ex_mut (ex_trans e2 e4) hD, ?_⟩
  · rw [List.length_replicate]
    exact Evl.sz_lt (by omega)
  · rw [upd_same, List.replicate_succ']
section
variable {P : Program} {w : World} {K : PySem.W.Frag} {mg : Str → Option Value} {base : Heap} {f : Addr} {fd : FuncData}
theorem ok_same {n : Nat} (F : FnP K "_law_same" "_law_same" sSame f fd) (B : Bi mg) (G : FnOk P w K mg base CX0 n f fd ["_law_got", "_law_due"] (spSame K n)) (kp : Binds K fd ["_law_got", "_law_due"] []) (mG : mg "_law_same" = some (.ref f)) :
    FnOk P w K mg base CX0 (n + 1) f fd ["_law_got", "_law_due"] (spSame K (n + 1)) := by
  refine F.ok scSame (fun vs H Q E h => ?_) (fun cdv A outer s H vs Q E hr h => ?_)
  · obtain ⟨x, y, d, rfl, _⟩ := h
    rfl
  obtain ⟨x, y, d, rfl, hn, hx, hy, k⟩ := h
  refine ⟨_, PSs.nox (pss_cons
    (ps_if (pt_val (pe_callB call_isiT (by rfl) B.isinstance PyProof.Rows.boot_isinstance (pa_cons (pv 1) (pa_cons (pe_tup (pa_cons (pe_bltn (v := .ty "list") (by rfl) B.list (by decide +kernel) rfl) (pa_cons (pe_bltn (v := .ty "tuple") (by rfl) B.tuple (by decide +kernel) rfl) pa_nil))) pa_nil))))
      (pss_cons
        (ps_if (PW.pt (pw_or (pt_cmpR op_ne (pe_callB call_isi (by rfl) B.isinstance PyProof.Rows.boot_isinstance (pa_cons (pv 0) (pa_cons (pe_bltn (v := .ty "list") (by rfl) B.list (by decide +kernel) rfl) pa_nil)))
              (pe_callB call_isi (by rfl) B.isinstance PyProof.Rows.boot_isinstance (pa_cons (pv 1) (pa_cons (pe_bltn (v := .ty "list") (by rfl) B.list (by decide +kernel) rfl) pa_nil))) (nomark _))
            (pw_or1 (pt_cmpR op_ne (pe_callB call_isi (by rfl) B.isinstance PyProof.Rows.boot_isinstance (pa_cons (pv 0) (pa_cons (pe_bltn (v := .ty "tuple") (by rfl) B.tuple (by decide +kernel) rfl) pa_nil)))
              (pe_callB call_isi (by rfl) B.isinstance PyProof.Rows.boot_isinstance (pa_cons (pv 1) (pa_cons (pe_bltn (v := .ty "tuple") (by rfl) B.tuple (by decide +kernel) rfl) pa_nil))) (nomark _)))))
          (pss_one (ps_ret pe_bl)) pss_nil)
        (pss_one (ps_ret (pe_and (pe_cmpR op_eq (pe_callB call_len_seq (by rfl) B.len PySem.boot_len (pa_cons (pv 0) pa_nil)) (pe_callB call_len_seq (by rfl) B.len PySem.boot_len (pa_cons (pv 1) pa_nil)) (nomark _))
          (pe_one (pe_callB (cr_all rfl) (by rfl) B.all PyProof.Rows.boot_all (pa_cons (pe_lc (g := gTup K 2 (gCons (gName 2) (gCons (gName 3) gNil))) (own := [("_law_mine", 2), ("_law_its", 3)]) rfl scSame.nd (RZ.pi_zipA (by rfl) B.zip (pa_cons (pv 0) (pa_cons (pv 1) pa_nil)))
            (blkOk_by (N := nSame) (sc := defScope sSame) (by decide +kernel))
            (fun _ _ _ _ _ => pg_tup rfl (pgs_cons (pg_name (i := 2) scSame.nd rfl (Or.inl rfl) (Or.inr rfl)) (pgs_cons (pg_name (i := 3) scSame.nd rfl (Or.inl rfl) (Or.inr rfl)) pgs_nil)))
            (fun _ _ _ _ _ => pts_nil)
            (fun _ _ _ _ _ => pe_call G hr (by rfl) mG F.kp kp .nil pass0 (pa_cons (pv 2) (pa_cons (pv 3) pa_nil)))) pa_nil)))))))
      pss_nil)
    (pss_cons (ps_if (PW.pt (pw_or (pt_cmpR op_isN (pv 1) pe_non (by rfl)) (pw_or1 (pt_val (pe_callB call_isiT (by rfl) B.isinstance PyProof.Rows.boot_isinstance (pa_cons (pv 1) (pa_cons (pe_tup (pa_cons (pe_bltn (v := .ty "bool") (by rfl) B.bool (by decide +kernel) rfl) (pa_cons (pe_bltn (v := .ty "str") (by rfl) B.str (by decide +kernel) rfl) pa_nil))) pa_nil)))))))
        (pss_one (ps_ret (pe_and (pe_cmpR op_eq (pv 0) (pv 1) (nomark _)) (pe_and (pe_cmpR op_eq (pe_callB call_isi (by rfl) B.isinstance PyProof.Rows.boot_isinstance (pa_cons (pv 0) (pa_cons (pe_bltn (v := .ty "bool") (by rfl) B.bool (by decide +kernel) rfl) pa_nil)))
            (pe_callB call_isi (by rfl) B.isinstance PyProof.Rows.boot_isinstance (pa_cons (pv 1) (pa_cons (pe_bltn (v := .ty "bool") (by rfl) B.bool (by decide +kernel) rfl) pa_nil))) (nomark _))
          (pe_one (pe_cmpR op_eq (pe_cmpR op_isN (pv 0) pe_non (by rfl)) (pe_cmpR op_isN (pv 1) pe_non (by rfl)) (nomark _)))))))
        pss_nil)
      (pss_one (ps_ret (pe_and (pe_callB call_isi (by rfl) B.isinstance PyProof.Rows.boot_isinstance (pa_cons (pv 0) (pa_cons (pe_bltn (v := .ty "int") (by rfl) B.int (by decide +kernel) rfl) pa_nil)))
        (pe_and (pe_not (pe_callB call_isi (by rfl) B.isinstance PyProof.Rows.boot_isinstance (pa_cons (pv 0) (pa_cons (pe_bltn (v := .ty "bool") (by rfl) B.bool (by decide +kernel) rfl) pa_nil))))
          (pe_one (pe_cmpR op_eq (pv 0) (pv 1) (nomark _))))))))), ?_⟩
  -- isinstance(due, (list, tuple))
  refine ⟨y, rfl, Evl.sz_of (by decide), fun p hp => ?_⟩
  have e1 : Ex H (upd H p (.tup [.ty "list", .ty "tuple"])) := ex_new hp
  refine ⟨y, p, _, _, _, _, rfl, upd_same, .cons (.ty _) (.cons (.ty _) .nil), tyX_of (dp_mono e1 hy), kitD2 hy (by decide) (by decide), _, rfl, ?_⟩
  generalize hH1 : upd H p (.tup [.ty "list", .ty "tuple"]) = H1 at e1 ⊢
  have hx1 := dp_mono e1 hx
  have hy1 := dp_mono e1 hy
  by_cases hs : isSeq d = true
  · have c1 : (isTy "list" d || isTy "tuple" d) = true := by
      cases d <;> first | rfl | (simp [isTy, tyN]; done) | (simp [isSeq] at hs; done)
    rw [c1]
    refine iteT ?_
    -- both are lists, both are tuples
    refine ⟨x, rfl, x, _, _, _, _, rfl, .ty _, tyX_of hx1, kitD hx1 (by decide), y, rfl, y, _, _, _, _, rfl, .ty _, tyX_of hy1, kitD hy1 (by decide), rfl, _, rfl, ?_⟩
    have c2 : (!decide (V.bl (isTy "list" d) = V.bl (isTy "list" d))) = false := by simp
    rw [c2]
    refine iteF ?_
    refine ⟨x, rfl, x, _, _, _, _, rfl, .ty _, tyX_of hx1, kitD hx1 (by decide), y, rfl, y, _, _, _, _, rfl, .ty _, tyX_of hy1, kitD hy1 (by decide), rfl, _, rfl, ?_⟩
    have c3 : (!decide (V.bl (isTy "tuple" d) = V.bl (isTy "tuple" d))) = false := by simp
    rw [c3]
    refine iteF ?_
    have two : ∃ (a b : Addr) (xs ys : List V) (ds : List PyData), x = .ref a ∧ y = .ref b ∧ DpAll K H1 xs ds ∧ DpAll K H1 ys ds ∧ ((SqL K H1 a xs ∧ SqL K H1 b ys) ∨ (SqT K H1 a xs ∧ SqT K H1 b ys)) ∧ ds.length ≤ 100000 ∧ ∀ d ∈ ds, okD n d := by
      cases hx1 with
      | lst s1 a1 =>
        cases hy1 with
        | lst s2 a2 => exact ⟨_, _, _, _, _, rfl, rfl, a1, a2, .inl ⟨s1, s2⟩, hn.1, hn.2⟩
      | tup s1 a1 =>
        cases hy1 with
        | tup s2 a2 => exact ⟨_, _, _, _, _, rfl, rfl, a1, a2, .inr ⟨s1, s2⟩, hn.1, hn.2⟩
      | _ => simp [isSeq] at hs
    obtain ⟨a, b, xs, ys, ds, rfl, rfl, dx, dy, hq, hz, hok⟩ := two
    have hlx := dpAll_len dx
    have hly := dpAll_len dy
    have hl : xs.length = ys.length := hlx.trans hly.symm
    have q1 : SqL K H1 a xs ∨ SqT K H1 a xs := hq.elim (fun z => .inl z.1) fun z => .inr z.1
    have q2 : SqL K H1 b ys ∨ SqT K H1 b ys := hq.elim (fun z => .inl z.2) fun z => .inr z.2
    refine ⟨_, rfl, a, xs, rfl, q1, _, rfl, b, ys, rfl, q2, rfl, _, rfl, ?_⟩
    have c4 : decide (V.int (xs.length : Int) = V.int (ys.length : Int)) = true := by
      rw [hl]
      simp
    rw [c4]
    refine iteT ?_
    have fin : ∀ (D : Addr) Hc, H1 D = none → Ex H1 Hc → Hc D = some (.lst (List.replicate xs.length (V.bl true))) → rAll K [.ref D] Hc fun v H' => Q v H' := fun D Hc hD e he => by
      refine ⟨D, List.replicate xs.length true, rfl, .inl (.inl (by rw [he, List.map_replicate])), ?_⟩
      have c5 : (List.replicate xs.length true).all id = true := by
        simp
      rw [c5]
      exact k Hc (ex_trans e1 e)
    rcases hq with ⟨s1, s2⟩ | ⟨s1, s2⟩
    · refine ⟨_, rfl, _, rfl, a, b, xs, ys, rfl, .inl ⟨s1, s2, fun D hD => ?_⟩⟩
      exact lc_same (walk_zip (by omega)) (fun Hc e => ⟨Evl.ex_l e s1, Evl.ex_l e s2⟩) dx dy hz hok hD fun Hc e he => fin D Hc hD e he
    · refine ⟨_, rfl, _, rfl, a, b, xs, ys, rfl, .inr ⟨s1, s2, fun D hD => ?_⟩⟩
      exact lc_same (walk_zipT (by omega)) (fun Hc e => ⟨Evl.ex_t e s1, Evl.ex_t e s2⟩) dx dy hz hok hD fun Hc e he => fin D Hc hD e he
  · have c1 : (isTy "list" d || isTy "tuple" d) = false := by
      cases d <;> first | (simp [isTy, tyN]; done) | (simp [isSeq] at hs; done) | (cases hx; done)
    rw [c1]
    refine iteF ?_
    cases hx1 with
    | lst _ _ => simp [isSeq] at hs
    | tup _ _ => simp [isSeq] at hs
    | non =>
      cases hy1
      refine ⟨_, rfl, rfl, _, rfl, ?_⟩
      refine ⟨_, rfl, _, rfl, rfl, go_and (by simp) ?_⟩
      refine ⟨_, rfl, _, _, _, _, _, rfl, .ty _, tyX_of .non, kitD (H := H1) .non (by decide), _, rfl, _, _, _, _, _, rfl, .ty _, tyX_of .non, kitD (H := H1) .non (by decide), rfl, go_and (by simp) ?_⟩
      refine ⟨_, rfl, rfl, _, rfl, rfl, rfl, ?_⟩
      exact (show decide (V.bl (decide (V.non = V.non)) = V.bl (decide (V.non = V.non))) = true by simp) ▸ k _ e1
    | bl b =>
      cases hy1
      refine ⟨_, rfl, rfl, _, rfl, ?_⟩
      refine ⟨_, rfl, Evl.sz_of (by decide), fun p2 hp2 => ?_⟩
      have e2 : Ex H (upd H1 p2 (.tup [.ty "bool", .ty "str"])) := ex_newT e1 hp2
      refine ⟨_, p2, _, _, _, _, rfl, upd_same, .cons (.ty _) (.cons (.ty _) .nil), tyX_of (.bl b), kitD2 (H := H1) (.bl b) (by decide) (by decide), _, rfl, ?_⟩
      rw [show (isTy "bool" (.bool b) || isTy "str" (.bool b)) = true by simp [isTy, tyN]]
      refine ⟨_, rfl, _, rfl, rfl, go_and (by simp) ?_⟩
      refine ⟨_, rfl, _, _, _, _, _, rfl, .ty _, tyX_of (.bl b), kitD (H := H1) (.bl b) (by decide), _, rfl, _, _, _, _, _, rfl, .ty _, tyX_of (.bl b), kitD (H := H1) (.bl b) (by decide), rfl, go_and (by simp) ?_⟩
      refine ⟨_, rfl, rfl, _, rfl, rfl, rfl, ?_⟩
      exact (show decide (V.bl (decide (V.bl b = V.non)) = V.bl (decide (V.bl b = V.non))) = true by simp) ▸ k _ e2
    | int z =>
      cases hy1
      refine ⟨_, rfl, rfl, _, rfl, ?_⟩
      refine ⟨_, rfl, Evl.sz_of (by decide), fun p2 hp2 => ?_⟩
      have e2 : Ex H (upd H1 p2 (.tup [.ty "bool", .ty "str"])) := ex_newT e1 hp2
      refine ⟨_, p2, _, _, _, _, rfl, upd_same, .cons (.ty _) (.cons (.ty _) .nil), tyX_of (.int z), kitD2 (H := H1) (.int z) (by decide) (by decide), _, rfl, ?_⟩
      rw [show (isTy "bool" (.int z) || isTy "str" (.int z)) = false by simp [isTy, tyN]]
      refine ⟨_, rfl, _, _, _, _, _, rfl, .ty _, tyX_of (.int z), kitD (H := H1) (.int z) (by decide), go_and (by simp [isTy, tyN]) ?_⟩
      refine ⟨_, rfl, _, _, _, _, _, rfl, .ty _, tyX_of (.int z), kitD (H := H1) (.int z) (by decide), _, rfl, go_and (by simp [isTy, tyN]) ?_⟩
      refine ⟨_, rfl, _, rfl, rfl, ?_⟩
      exact (show decide (V.int z = V.int z) = true by simp) ▸ k _ e2
    | str z =>
      cases hy1
      refine ⟨_, rfl, rfl, _, rfl, ?_⟩
      refine ⟨_, rfl, Evl.sz_of (by decide), fun p2 hp2 => ?_⟩
      have e2 : Ex H (upd H1 p2 (.tup [.ty "bool", .ty "str"])) := ex_newT e1 hp2
      refine ⟨_, p2, _, _, _, _, rfl, upd_same, .cons (.ty _) (.cons (.ty _) .nil), tyX_of (.str z), kitD2 (H := H1) (.str z) (by decide) (by decide), _, rfl, ?_⟩
      rw [show (isTy "bool" (.str z) || isTy "str" (.str z)) = true by simp [isTy, tyN]]
      refine ⟨_, rfl, _, rfl, rfl, go_and (by simp) ?_⟩
      refine ⟨_, rfl, _, _, _, _, _, rfl, .ty _, tyX_of (.str z), kitD (H := H1) (.str z) (by decide), _, rfl, _, _, _, _, _, rfl, .ty _, tyX_of (.str z), kitD (H := H1) (.str z) (by decide), rfl, go_and (by simp) ?_⟩
      refine ⟨_, rfl, rfl, _, rfl, rfl, rfl, ?_⟩
      exact (show decide (V.bl (decide (V.str z = V.non)) = V.bl (decide (V.str z = V.non))) = true by simp) ▸ k _ e2
theorem none_same : FnOk P w K mg base CX0 0 f fd ["_law_got", "_law_due"] (spSame K 0) := by
  have no : ∀ vs H Q E, ¬ spSame K 0 vs H Q E := fun vs H Q E h => by
    obtain ⟨x, y, d, _, h, _⟩ := h
    exact h
  exact ⟨fun vs H Q E h => absurd h (no vs H Q E), fun A outer s H args us vs Q E _ _ _ _ h => absurd h (no vs H Q E)⟩
theorem all_same (F : FnP K "_law_same" "_law_same" sSame f fd) (B : Bi mg) (kp : Binds K fd ["_law_got", "_law_due"] []) (mG : mg "_law_same" = some (.ref f)) : ∀ n, FnOk P w K mg base CX0 n f fd ["_law_got", "_law_due"] (spSame K n)
  | 0 => none_same
  | n + 1 => ok_same F B (all_same F B kp mG n) kp mG
end
end TR

namespace TR
open PySem PySem.Spec PyProof.Rows L2
abbrev sBox : Stmt := topS 10
abbrev nBox : List Str := ["_law_script", "_law_nth_so", "_law_cell"]
theorem scBox : FnScope nBox ["_law_script", "_law_nth_so"] (defScope sBox) := ⟨rfl, rfl, rfl, by decide +kernel, rfl, by decide +kernel, by decide +kernel⟩
/-- what a box of draws holds -/
def BoxAt (H : Hp) (p : Addr) (n : Int) : Prop := ∃ b0 b1 b2 : Int, H p = some (.lst [.int b0, .int b1, .int b2]) ∧ 0 ≤ b0 ∧ 0 ≤ b1 ∧ b1 < 2 ^ 62 ∧ 0 ≤ b2 ∧ b2 ≤ n
def spBox (K : PySem.W.Frag) : Sp := fun vs H Q _ => ∃ (a : Addr) (ns : List Int) (n : Nat), vs = [.ref a, .int (n : Int)] ∧ SqL K H a (ns.map V.int) ∧ n < ns.length ∧ n ≤ 100 ∧ ∀ p H', H p = none → Ex H H' → BoxAt H' p 0 → Q (.ref p) H'
section
variable {P : Program} {w : World} {K : PySem.W.Frag} {mg : Str → Option Value} {base : Heap} {f : Addr} {fd : FuncData}
theorem ok_box {k : Nat} (F : FnP K "_law_box" "_law_box" sBox f fd) (B : Bi mg) : FnOk P w K mg base CX0 (k + 1) f fd ["_law_script", "_law_nth_so"] (spBox K) := by
  refine F.ok scBox (fun vs H Q E h => ?_) (fun cdv A outer s H vs Q E hr h => ?_)
  · obtain ⟨a, ns, n, rfl, _⟩ := h
    rfl
  obtain ⟨a, ns, n, rfl, hS, hn, hn2, k⟩ := h
  refine ⟨_, PSs.nox (pss_cons (ps_set (i := 2) scBox.nd rfl (Or.inl rfl) (pe_ifExp (pt_cmpR op_lt (pv 1) (pe_callB call_len_seq (by rfl) B.len PySem.boot_len (pa_cons (pv 0) pa_nil)) (nomark _)) (pe_ix ix_list (pv 0) (pv 1) (fun _ _ => rfl)) pe_int))
    (pss_one (ps_ret (pe_lst (pa_cons (pe_op op_mul (pe_callB call_abs (by rfl) B.abs PyProof.Rows.boot_abs (pa_cons (pv 2) pa_nil)) (pe_callTy call_int1 (by rfl) B.int PyProof.Rows.boot_int (pa_cons (pe_cmpR op_ge (pe_callB call_abs (by rfl) B.abs PyProof.Rows.boot_abs (pa_cons (pv 2) pa_nil)) (pe_op op_pow pe_int pe_int) (nomark _)) pa_nil)))
      (pa_cons (pe_op op_add (pe_op op_add (pe_op op_mod (pe_callTy call_int1 (by rfl) B.int PyProof.Rows.boot_int (pa_cons (pv 2) pa_nil)) pe_int) (pe_op op_mul pe_int (pv 1))) pe_int) (pa_cons pe_int pa_nil))))))), ?_⟩
  refine ⟨_, rfl, _, rfl, a, _, rfl, .inl hS, _, _, rfl, rfl, _, rfl, ?_⟩
  have c1 : decide ((n : Int) < (((ns.map V.int).length : Nat) : Int)) = true := by
    rw [List.length_map]
    exact decide_eq_true (by omega)
  rw [c1]
  refine iteT ?_
  have hi : (ns.map V.int)[n]? = some (.int ns[n]) := by
    rw [List.getElem?_map, List.getElem?_eq_getElem hn]
    rfl
  refine ⟨_, rfl, _, rfl, a, _, _, _, rfl, rfl, hS, atI_nat hi, ?_⟩
  generalize ns[n] = c
  refine ⟨_, rfl, c, rfl, _, rfl, c, rfl, _, _, rfl, rfl, ⟨by decide, by decide, by decide⟩, _, _, rfl, rfl, .inr ⟨_, rfl, _, _, rfl, rfl, ?_, ?_⟩⟩
  · exact .inr (by
      have z : ∀ b : Bool, -(2 ^ 64) < (if b = true then (1 : Int) else 0) ∧ (if b = true then (1 : Int) else 0) < 2 ^ 64 := by decide
      exact z _)
  refine ⟨_, rfl, .inl ⟨c, rfl, _, _, rfl, rfl, (by show (0 : Int) < 2305843009213693951; decide), _, rfl, _, _, rfl, rfl, .inl ⟨by decide, by decide⟩, _, _, rfl, rfl, _, _, rfl, rfl, Evl.sz_of (n := 3) (by decide), fun p hp => ?_⟩⟩
  refine k p _ hp (ex_new hp) ⟨_, _, _, upd_same, ?_, ?_, ?_, Int.le_refl _, Int.le_refl _⟩
  · have h1 : 0 ≤ (if c < 0 then -c else c) := by
      split <;> omega
    by_cases h2 : decide ((10 : Int) ^ (18 : Int).toNat ≤ if c < 0 then -c else c) = true
    · rw [h2, if_pos rfl]
      omega
    · rw [Bool.eq_false_iff.mpr h2, if_neg Bool.false_ne_true]
      omega
  · have h1 := Int.emod_nonneg c (show (2305843009213693951 : Int) ≠ 0 by decide)
    omega
  · have h1 := Int.emod_lt_of_pos c (show (0 : Int) < 2305843009213693951 by decide)
    omega
abbrev sTake : Stmt := topS 11
abbrev nTake : List Str := ["_law_box_here", "_law_below_so", "_law_drawn", "_law_once", "_law_far", "_law_twice"]
theorem scTake : FnScope nTake ["_law_box_here", "_law_below_so"] (defScope sTake) := ⟨rfl, rfl, rfl, by decide +kernel, rfl, by decide +kernel, by decide +kernel⟩
/-- _law_take: a draw below that number; the box stays a box -/
def spTake : Sp := fun vs H Q _ => ∃ (p : Addr) (b n : Int), vs = [.ref p, .int b] ∧ 0 < b ∧ b < 1000000 ∧ BoxAt H p n ∧ n ≤ 1000000 ∧ ∀ r H', 0 ≤ r → r < b → BoxAt H' p (n + 1) → (∀ a o, a ≠ p → H a = some o → H' a = some o) → (∀ a, H a = none → H' a = none) → Q (.int r) H'
theorem ok_take {k : Nat} (F : FnP K "_law_take" "_law_take" sTake f fd) (B : Bi mg) : FnOk P w K mg base CX0 (k + 1) f fd ["_law_box_here", "_law_below_so"] spTake := by
  refine F.ok scTake (fun vs H Q E h => ?_) (fun cdv A outer s H vs Q E hr h => ?_)
  · obtain ⟨p, b, n, rfl, _⟩ := h
    rfl
  obtain ⟨p, b, n, rfl, hb, hb2, ⟨b0, b1, b2, hp, h0, h1, h12, h2, h2n⟩, hn, k⟩ := h
  refine ⟨_, PSs.nox (pss_cons (ps_if (pt_cmpR op_gt (pe_ix ix_list (pv 0) pe_int (fun _ _ => rfl)) pe_int (nomark _))
      (pss_cons (ps_set (i := 2) scTake.nd rfl (Or.inl rfl) (pe_op op_mod (pe_callTy call_int1 (by rfl) B.int PyProof.Rows.boot_int (pa_cons (pe_ix ix_list (pv 0) pe_int (fun _ _ => rfl)) pa_nil)) (pv 1)))
      (pss_cons (ps_asg (pe_op op_fdiv (pe_ix ix_list (pv 0) pe_int (fun _ _ => rfl)) (pv 1)) (pg_sub (pv 0) pe_int set_list))
      (pss_one (ps_ret (pv 2))))) pss_nil)
    (pss_cons (ps_asg (pe_op op_add (pe_ix ix_list (pv 0) pe_int (fun _ _ => rfl)) pe_int) (pg_sub (pv 0) pe_int set_list))
    (pss_cons (ps_set (i := 3) scTake.nd rfl (Or.inl rfl) (pe_op op_mod (pe_callTy call_int1 (by rfl) B.int PyProof.Rows.boot_int (pa_cons (pe_op op_mul (pe_op op_add (pe_ix ix_list (pv 0) pe_int (fun _ _ => rfl)) (pe_op op_mul pe_int (pe_ix ix_list (pv 0) pe_int (fun _ _ => rfl)))) (pe_op op_add pe_int (pe_ix ix_list (pv 0) pe_int (fun _ _ => rfl)))) pa_nil)) pe_int))
    (pss_cons (ps_set (i := 4) scTake.nd rfl (Or.inl rfl) (pe_op op_add (pe_op op_mod (pe_callTy call_int1 (by rfl) B.int PyProof.Rows.boot_int (pa_cons (pv 3) pa_nil)) pe_int) pe_int))
    (pss_cons (ps_set (i := 5) scTake.nd rfl (Or.inl rfl) (pe_op op_mod (pe_callTy call_int1 (by rfl) B.int PyProof.Rows.boot_int (pa_cons (pe_op op_mul (pe_op op_add (pe_op op_add (pv 3) (pe_ix ix_list (pv 0) pe_int (fun _ _ => rfl))) (pe_op op_fdiv (pe_ix ix_list (pv 0) pe_int (fun _ _ => rfl)) pe_int)) (pv 4)) pa_nil)) pe_int))
    (pss_one (ps_ret (pe_op op_mod (pe_callTy call_int1 (by rfl) B.int PyProof.Rows.boot_int (pa_cons (pe_op op_fdiv (pe_op op_mod (pe_callTy call_int1 (by rfl) B.int PyProof.Rows.boot_int (pa_cons (pe_op op_add (pe_op op_mul (pv 5) pe_int) (pv 3)) pa_nil)) pe_int) pe_int) pa_nil)) (pv 1))))))))), ?_⟩
  have SL : SqL K H p [.int b0, .int b1, .int b2] := .inl (.inl hp)
  refine ⟨_, rfl, p, _, _, _, rfl, rfl, SL, rfl, _, _, rfl, rfl, _, rfl, ?_⟩
  by_cases hb0 : 0 < b0
  · rw [show decide (0 < b0) = true from decide_eq_true hb0]
    refine iteT ?_
    refine ⟨_, rfl, p, _, _, _, rfl, rfl, SL, rfl, .inl ⟨b0, rfl, _, rfl, _, _, rfl, rfl, hb, ?_⟩⟩
    refine ⟨_, rfl, p, _, _, _, rfl, rfl, SL, rfl, _, rfl, _, _, rfl, rfl, ⟨hb, by omega⟩, _, rfl, p, _, _, _, rfl, rfl, hp, rfl, ?_⟩
    refine ⟨_, rfl, ?_⟩
    refine k _ _ (Int.emod_nonneg _ (by omega)) (Int.emod_lt_of_pos _ hb) ⟨_, _, _, upd_same, Int.ediv_nonneg h0 (by omega), h1, h12, h2, by omega⟩ (fun a o ha e => by rw [upd_ne ha]; exact e) (fun a e => ?_)
    rw [upd_ne (fun z => by rw [z, hp] at e; cases e)]
    exact e
  · rw [show decide (0 < b0) = false from decide_eq_false hb0]
    refine iteF ?_
    refine ⟨_, rfl, p, _, _, _, rfl, rfl, SL, rfl, _, _, rfl, rfl, _, rfl, p, _, _, _, rfl, rfl, hp, rfl, ?_⟩
    have hp1 : (upd H p (.lst [.int b0, .int b1, .int (b2 + 1)])) p = some (.lst [.int b0, .int b1, .int (b2 + 1)]) := upd_same
    have SL1 : SqL K (upd H p (.lst [.int b0, .int b1, .int (b2 + 1)])) p [.int b0, .int b1, .int (b2 + 1)] := .inl (.inl hp1)
    -- once
    refine ⟨_, rfl, p, _, _, _, rfl, rfl, SL1, rfl, _, rfl, p, _, _, _, rfl, rfl, SL1, rfl, _, _, rfl, rfl, .inl ⟨by decide, by decide⟩, _, _, rfl, rfl, _, rfl, p, _, _, _, rfl, rfl, SL1, rfl, _, _, rfl, rfl, ?_⟩
    refine ⟨_, _, rfl, rfl, .inr ⟨by omega, by omega⟩, .inl ⟨_, rfl, _, _, rfl, rfl, (by show (0 : Int) < 2147483647; decide), ?_⟩⟩
    dsimp only
    generalize hon : (b1 + 48271 * (b2 + 1)) * (39373 + (b2 + 1)) % 2147483647 = once
    have o1 : 0 ≤ once := by
      rw [← hon]
      exact Int.emod_nonneg _ (by decide)
    have o2 : once < 2147483647 := by
      rw [← hon]
      exact Int.emod_lt_of_pos _ (by decide)
    -- far
    refine ⟨_, rfl, .inl ⟨once, rfl, _, _, rfl, rfl, (by show (0 : Int) < 40009; decide), _, _, rfl, rfl, ?_⟩⟩
    have f1 : 0 ≤ once % 40009 := Int.emod_nonneg _ (by decide)
    have f2 : once % 40009 < 40009 := Int.emod_lt_of_pos _ (by decide)
    dsimp only
    generalize hfa : once % 40009 + 7 = far
    -- twice
    refine ⟨_, rfl, _, rfl, p, _, _, _, rfl, rfl, SL1, rfl, _, _, rfl, rfl, _, rfl, p, _, _, _, rfl, rfl, SL1, rfl, _, _, rfl, rfl, ⟨by decide, by decide⟩, _, _, rfl, rfl, _, rfl, ?_⟩
    refine ⟨_, _, rfl, rfl, .inr ⟨by omega, by omega⟩, .inl ⟨_, rfl, _, _, rfl, rfl, (by show (0 : Int) < 2147483629; decide), ?_⟩⟩
    dsimp only
    generalize htw : (once + (b2 + 1) + b1 / 1000003) * far % 2147483629 = twice
    -- the draw
    refine ⟨_, rfl, _, _, rfl, rfl, .inr ⟨by decide, by decide⟩, _, rfl, _, _, rfl, rfl, .inl ⟨_, rfl, _, _, rfl, rfl, (by show (0 : Int) < 2147483587; decide), _, _, rfl, rfl, ⟨by decide, by decide⟩, .inl ⟨_, rfl, _, rfl, _, _, rfl, rfl, hb, ?_⟩⟩⟩
    refine k _ _ (Int.emod_nonneg _ (by omega)) (Int.emod_lt_of_pos _ hb) ⟨_, _, _, upd_same, h0, h1, h12, by omega, by omega⟩ (fun a o ha e => by rw [upd_ne ha]; exact e) (fun a e => ?_)
    rw [upd_ne (fun z => by rw [z, hp] at e; cases e)]
    exact e
end
end TR

namespace TR
open PySem PySem.Spec PyProof.Rows L2
/-- only p has changed, nothing is new -/
def Only1 (p : Addr) (H H' : Hp) : Prop := (∀ a o, a ≠ p → H a = some o → H' a = some o) ∧ ∀ a, H a = none → H' a = none
abbrev sOf : Stmt := topS 14
theorem scOf : FnScope ["_law_box_here", "_law_pool_so"] ["_law_box_here", "_law_pool_so"] (defScope sOf) := ⟨rfl, rfl, rfl, by decide +kernel, rfl, by decide +kernel, by decide +kernel⟩
def spOf : Sp := fun vs H Q _ => ∃ (p q : Addr) (n : Int) (xs : List V), vs = [.ref p, .ref q] ∧ BoxAt H p n ∧ n ≤ 1000000 ∧ H q = some (.lst xs) ∧ q ≠ p ∧ 0 < xs.length ∧ xs.length ≤ 1000 ∧ ∀ v H', v ∈ xs → BoxAt H' p (n + 1) → Only1 p H H' → Q v H'
section
variable {P : Program} {w : World} {K : PySem.W.Frag} {mg : Str → Option Value} {base : Heap} {f : Addr} {fd : FuncData}
theorem ok_of {k : Nat} (F : FnP K "_law_of" "_law_of" sOf f fd) (B : Bi mg) (c_take : Cal P w K mg base k "_law_take" ["_law_box_here", "_law_below_so"] spTake) : FnOk P w K mg base CX0 (k + 1) f fd ["_law_box_here", "_law_pool_so"] spOf := by
  refine F.ok scOf (fun vs H Q E h => ?_) (fun cdv A outer s H vs Q E hr h => ?_)
  · obtain ⟨p, q, n, xs, rfl, _⟩ := h
    rfl
  obtain ⟨p, q, n, xs, rfl, hB, hn, hq, hqp, h0, h1, k⟩ := h
  refine ⟨_, PSs.nox (pss_one (ps_ret (pe_ix ix_list (pv 1) (pe_cal c_take hr (by rfl) (pa_cons (pv 0) (pa_cons (pe_callB call_len_seq (by rfl) B.len PySem.boot_len (pa_cons (pv 1) pa_nil)) pa_nil))) (fun _ _ => rfl)))), ?_⟩
  refine ⟨_, rfl, _, rfl, _, rfl, q, xs, rfl, .inl (.inl (.inl hq)), ?_⟩
  refine ⟨p, _, n, rfl, by omega, by omega, hB, hn, fun r H' r0 r1 hB' fr1 fr2 => ?_⟩
  have hr' : r.toNat < xs.length := by omega
  have hi : xs[r.toNat]? = some xs[r.toNat] := List.getElem?_eq_getElem hr'
  have er : r = ((r.toNat : Nat) : Int) := by omega
  refine ⟨q, xs, r, xs[r.toNat], rfl, rfl, .inl (.inl (fr1 q _ hqp hq)), ?_, k _ H' (List.getElem_mem hr') hB' ⟨fr1, fr2⟩⟩
  have q2 : atI xs ((r.toNat : Nat) : Int) = some xs[r.toNat] := atI_nat hi
  rw [← er] at q2
  exact q2
end
theorem cut_int (ns : List Int) (lo hi : Option Int) : ∃ cs : List Int, cutV (ns.map V.int) lo hi = cs.map V.int ∧ cs.length = (cutV (ns.map V.int) lo hi).length := by
  refine ⟨(ns.drop (HT.sIx (ns.map V.int).length 0 lo)).take (HT.sIx (ns.map V.int).length (ns.map V.int).length hi - HT.sIx (ns.map V.int).length 0 lo), ?_, ?_⟩
  · unfold cutV
    rw [List.map_take, List.map_drop]
  · unfold cutV
    rw [← List.map_drop, ← List.map_take, List.length_map, List.length_map]
theorem cut_len1 (xs : List V) (t : Nat) : (cutV xs none (some (t : Int))).length = min t xs.length := by
  unfold cutV
  rw [HT.sIx_none, HT.sIx_nat]
  simp
theorem cut_len2 (xs : List V) (t u : Nat) (h : xs.length ≤ u) : (cutV xs (some (t : Int)) (some (u : Int))).length = xs.length - t := by
  unfold cutV
  rw [HT.sIx_nat, HT.sIx_nat]
  simp
  omega
abbrev sCells : Stmt := topS 12
abbrev nCells : List Str := ["_law_script", "_law_top_so", "_law_cells_so", "_law_nth_so", "_law_cell", "_law_at_so"]
theorem scCells : FnScope nCells ["_law_script", "_law_top_so"] (defScope sCells) := ⟨rfl, rfl, rfl, by decide +kernel, rfl, by decide +kernel, by decide +kernel⟩
def spCells (K : PySem.W.Frag) : Sp := fun vs H Q _ => ∃ (a : Addr) (ns : List Int) (t : Nat), vs = [.ref a, .int (t : Int)] ∧ 0 < t ∧ t ≤ 10 ∧ SqL K H a (ns.map V.int) ∧ ns.length ≤ 63 ∧
  ∀ p (cs : List Int) H', H p = none → Ex H H' → H' p = some (.lst (cs.map V.int)) → 0 < cs.length → cs.length ≤ t → Q (.ref p) H'
section
variable {P : Program} {w : World} {K : PySem.W.Frag} {mg : Str → Option Value} {base : Heap} {f : Addr} {fd : FuncData}
theorem ok_cells {k : Nat} (F : FnP K "_law_cells" "_law_cells" sCells f fd) (B : Bi mg) : FnOk P w K mg base CX0 (k + 1) f fd ["_law_script", "_law_top_so"] (spCells K) := by
  refine F.ok scCells (fun vs H Q E h => ?_) (fun cdv A outer s H vs Q E hr h => ?_)
  · obtain ⟨a, ns, t, rfl, _⟩ := h
    rfl
  obtain ⟨a, ns, t, rfl, t0, t1, hS, hl, k⟩ := h
  refine ⟨_, PSs.nox (pss_cons (ps_set (i := 2) scCells.nd rfl (Or.inl rfl) (pe_orT (pe_callTy call_list_of (by rfl) B.list (by decide +kernel) (pa_cons (pe_slice sl_list (pv 0) po_none (po_some (pv 1))) pa_nil)) (pe_one (pe_lst (pa_cons pe_int pa_nil)))))
    (pss_cons (ps_for PassesOwn.never rfl (pi_enum (by rfl) B.enumerate (pa_cons (pe_slice sl_list (pv 0) (po_some (pv 1)) (po_some pe_int)) pa_nil)) (pg_tup rfl (pgs_cons (pg_name (i := 3) scCells.nd rfl (Or.inl rfl)) (pgs_cons (pg_name (i := 4) scCells.nd rfl (Or.inl rfl)) pgs_nil)))
      (pss_cons (ps_set (i := 5) scCells.nd rfl (Or.inl rfl) (pe_op op_mod (pe_callTy call_int1 (by rfl) B.int PyProof.Rows.boot_int (pa_cons (pv 3) pa_nil)) (pv 1)))
      (pss_one (ps_asg (pe_op op_add (pe_ix ix_list (pv 2) (pv 5) (fun _ _ => rfl)) (pe_op op_mul (pv 4) (pe_op op_add (pv 3) pe_int))) (pg_sub (pv 2) (pv 5) set_list)))))
    (pss_one (ps_ret (pv 2))))), ?_⟩
  refine ⟨_, rfl, _, rfl, (t : Int), rfl, a, _, rfl, hS, fun q hq => ?_⟩
  obtain ⟨cs, ecs, lcs⟩ := cut_int ns none (some (t : Int))
  rw [cut_len1, List.length_map] at lcs
  rw [ecs]
  have e1 : Ex H (upd H q (.lst (cs.map V.int))) := ex_new hq
  refine ⟨q, cs.map V.int, rfl, .inl (.inl (.inl upd_same)), fun l hl2 => ?_⟩
  have e2 : Ex H (upd (upd H q (.lst (cs.map V.int))) l (.lst (cs.map V.int))) := ex_newT e1 hl2
  have nl : H l = none := ex_back e1 hl2
  -- the loop, for whatever list the cells are
  have loop : ∀ (p : Addr) (c0 : List Int) (H2 : Hp), H p = none → Ex H H2 → H2 p = some (.lst (c0.map V.int)) → 0 < c0.length → c0.length ≤ t → (t < ns.length → c0.length = t) →
      (tSeq (tFor (iEnum K (tCons (tSl (rSlL K) (tVar 0) (tPart (tVar 1)) (tPart (tC (.int 63)))) tNil)) (gTup K 2 (gCons (gName 3) (gCons (gName 4) gNil)))
        (tSeq (tAsg (tOp (rI (fun _ j => 0 < j) fun i j => .int (i % j)) (tCB (fun xs H Q => (∃ i, xs = [.int i] ∧ Q (.int i) H) ∨ ∃ k, xs = [.bl k] ∧ Q (.int (if k then 1 else 0)) H) (tCons (tVar 3) tNil)) (tVar 1)) (gName 5))
          (tAsg (tOp (rI0 fun i j => .int (i + j)) (tOp (rIxL K) (tVar 2) (tVar 5)) (tOp (rI CMul fun i j => .int (i * j)) (tVar 4) (tOp (rI0 fun i j => .int (i + j)) (tVar 3) (tC (.int 2))))) (gSub (tVar 2) (tVar 5) rSetL)))) (tRet (tVar 2)))
        { nx := fun _ H' => Q .non H', rt := Q } [some (.ref a), some (.int (t : Int)), some (.ref p), none, none, none] H2 := fun p c0 H2 np e hp c1 c2 c3 => by
    refine ⟨_, rfl, _, rfl, (t : Int), rfl, (63 : Int), rfl, a, _, rfl, Evl.ex_l e hS, fun s hs => ?_⟩
    obtain ⟨zs, ezs, lzs⟩ := cut_int ns (some (t : Int)) (some (63 : Int))
    have z63 : (63 : Int) = ((63 : Nat) : Int) := rfl
    rw [z63, cut_len2 _ _ _ (by rw [List.length_map]; exact hl), List.length_map] at lzs
    rw [ezs]
    have nps : p ≠ s := ne_of_none hp hs
    have hs1 : upd H2 s (.lst (zs.map V.int)) s = some (.lst (zs.map V.int)) := upd_same
    refine ⟨s, _, rfl, .inl (.inl hs1), ?_⟩
    refine for_it (walk_enum (K := K) (a := s) (xs := zs.map V.int)) (fun i σ H' => ∃ (ds : List Int) (v3 v4 v5 : Option V), σ = [some (.ref a), some (.int (t : Int)), some (.ref p), v3, v4, v5] ∧ ds.length = c0.length ∧ H' p = some (.lst (ds.map V.int)) ∧ Ex H H' ∧ H' s = some (.lst (zs.map V.int)))
      ⟨c0, none, none, none, rfl, rfl, by rw [upd_ne nps]; exact hp, ex_newT e hs, hs1⟩ (fun i σ H' _ h => ?_) (fun i x σ H3 H4 hi h y => ?_) (fun σ H' h => ?_)
    · obtain ⟨_, _, _, _, _, _, _, _, h⟩ := h
      exact .inl (.inl h)
    · obtain ⟨ds, v3, v4, v5, rfl, ld, hp3, e3, hs3⟩ := h
      obtain ⟨T, x1, x2, rfl, nT, rfl, f1, f2⟩ := y
      have ex1 : x1 = .int (i : Int) := (Option.some.inj f1).symm
      have hi2 : i < zs.length := by
        rw [List.length_map] at hi
        exact hi
      have ex2 : x2 = .int zs[i] := by
        have f2' : (zs.map V.int)[i]? = some x2 := f2
        rw [List.getElem?_map, List.getElem?_eq_getElem hi2] at f2'
        exact (Option.some.inj f2').symm
      subst ex1
      subst ex2
      have npT : p ≠ T := ne_of_none hp3 nT
      have nsT : s ≠ T := ne_of_none hs3 nT
      refine ⟨T, [_, _], rfl, .inl (.inl upd_same), rfl, _, [_], rfl, _, [], rfl, rfl, ?_⟩
      have tpos : (0 : Int) < (t : Int) := by omega
      refine ⟨_, rfl, .inl ⟨(i : Int), rfl, _, rfl, _, _, rfl, rfl, tpos, ?_⟩⟩
      have lt : ds.length = t := by omega
      have hm : i % t < ds.length := by
        rw [lt]
        exact Nat.mod_lt _ t0
      have eix : (i : Int) % (t : Int) = ((i % t : Nat) : Int) := by omega
      have hget : (ds.map V.int)[i % t]? = some (.int ds[i % t]) := by
        rw [List.getElem?_map, List.getElem?_eq_getElem hm]
        rfl
      have at1 : atI (ds.map V.int) ((i : Int) % (t : Int)) = some (.int ds[i % t]) := by
        rw [eix]
        exact atI_nat hget
      have hp4 : upd H3 T (.tup [.int (i : Int), .int zs[i]]) p = some (.lst (ds.map V.int)) := by
        rw [upd_ne npT]
        exact hp3
      refine ⟨_, rfl, _, rfl, p, _, _, _, rfl, rfl, .inl (.inl hp4), at1, _, rfl, _, rfl, _, _, rfl, rfl, _, _, rfl, rfl, .inr ⟨by omega, by omega⟩, _, _, rfl, rfl, _, rfl, _, rfl, p, _, _, i % t, rfl, rfl, hp4, ?_, ?_⟩
      · show ixN (ds.map V.int).length ((i : Int) % (t : Int)) = some (i % t)
        rw [eix, List.length_map]
        exact Evl.ixN_nat hm
      · refine ⟨ds.set (i % t) (ds[i % t] + zs[i] * ((i : Int) + 2)), _, _, _, rfl, by rw [List.length_set]; exact ld, ?_, ?_, ?_⟩
        · rw [upd_same, List.map_set]
        · exact ex_mut (ex_newT e3 nT) np
        · rw [upd_ne nps.symm, upd_ne nsT]
          exact hs3
    · obtain ⟨ds, v3, v4, v5, rfl, ld, hp3, e3, _⟩ := h
      refine ⟨_, rfl, ?_⟩
      exact k p ds H' np e3 hp3 (by omega) (by omega)
  by_cases hc : cs = []
  · subst hc
    have n0 : ns.length = 0 := by
      have z : ([] : List Int).length = 0 := rfl
      omega
    refine ⟨false, .inl ⟨[], .inl (.inl upd_same), rfl⟩, ?_⟩
    refine iteF ?_
    refine ⟨Evl.sz_of (n := 1) (by decide), fun p hp => ?_⟩
    exact loop p [0] _ (ex_back e2 hp) (ex_newT e2 hp) upd_same (by decide) t0 (fun z => by omega)
  · have c1 : 0 < cs.length := List.length_pos_iff.mpr hc
    refine ⟨true, .inl ⟨cs.map V.int, .inl (.inl upd_same), ?_⟩, ?_⟩
    · cases cs with
      | nil => exact absurd rfl hc
      | cons _ _ => rfl
    refine iteT ?_
    exact loop l cs _ nl e2 upd_same c1 (by omega) (fun z => by omega)
end
end TR

namespace TR
open PySem PySem.Spec PyProof.Rows L2
/-- the classes, in the order in which the law asks -/
def xn : Nat → Str
  | 0 => "BadLine"
  | 1 => "Barred"
  | 2 => "Twice"
  | 3 => "Unfit"
  | 4 => "NoHold"
  | 5 => "NoMember"
  | 6 => "NoNumber"
  | _ => "NothingDone"
/-- where the i-th stands -/
def cA (K : PySem.W.Frag) (i : Nat) : Addr := He.ga K (xn i)
structure XTxt (K : PySem.W.Frag) (mg : Str → Option Value) : Prop where
  g : ∀ i, mg (xn i) = some (.ref (cA K i))
  xc : ∀ i, XC K (cA K i)
  own : ∀ i j, i < 8 → j < 8 → PySem.W.kitOne K (.ref (cA K i)) (.ref (cA K j)) = some (decide (i = j))
  isV : ∀ i, i < 8 → PySem.W.kitOne K (.ref (cA K i)) (.type "ValueError") = some (decide ((i : Int) < 4))
  isL : ∀ i, i < 8 → PySem.W.kitOne K (.ref (cA K i)) (.type "LookupError") = some (decide ((3 : Int) < (i : Int)))
  isKI : ∀ i, i < 8 → PySem.W.kitAny K (.ref (cA K i)) [.type "KeyError", .type "IndexError"] = some false
  ex4 : PySem.W.exmOne K (.ref (cA K 4)) (.ref (cA K 4)) = some true
  ex5 : PySem.W.exmOne K (.ref (cA K 5)) (.ref (cA K 5)) = some true
  bV : mg "ValueError" = none
  bL : mg "LookupError" = none
  bK : mg "KeyError" = none
  bI : mg "IndexError" = none
abbrev sWhich : Stmt := topS 15
theorem scWhich : FnScope ["_law_made_so", "_law_found"] ["_law_made_so"] (defScope sWhich) := ⟨rfl, rfl, rfl, by decide +kernel, rfl, by decide +kernel, by decide +kernel⟩
def spWhich (K : PySem.W.Frag) : Sp := fun vs H Q _ => ∃ (a : Addr) (i : Nat), vs = [.ref a] ∧ i < 8 ∧ XA H a (cA K i) ∧ ∀ p H', H p = none → Ex H H' → H' p = some (.lst ((List.range 8).map fun j => V.bl (decide (i = j)))) → Q (.ref p) H'
section
variable {P : Program} {w : World} {K : PySem.W.Frag} {mg : Str → Option Value} {base : Heap} {f : Addr} {fd : FuncData}
theorem ok_which {k : Nat} (F : FnP K "_law_which" "_law_which" sWhich f fd) (B : Bi mg) (T : XTxt K mg) : FnOk P w K mg base CX0 (k + 1) f fd ["_law_made_so"] (spWhich K) := by
  refine F.ok scWhich (fun vs H Q E h => ?_) (fun cdv A outer s H vs Q E hr h => ?_)
  · obtain ⟨a, i, rfl, _⟩ := h
    rfl
  obtain ⟨a, i, rfl, hi, hx, k⟩ := h
  refine ⟨_, PSs.nox (pss_cons (ps_set (i := 1) scWhich.nd rfl (Or.inl rfl) (pe_lst
        (pa_cons (pe_callB call_isX (by rfl) B.isinstance PyProof.Rows.boot_isinstance (pa_cons (pv 0) (pa_cons (pe_glob (v := .ref (cA K 0)) (by rfl) (T.g 0) rfl) pa_nil)))
        (pa_cons (pe_callB call_isX (by rfl) B.isinstance PyProof.Rows.boot_isinstance (pa_cons (pv 0) (pa_cons (pe_glob (v := .ref (cA K 1)) (by rfl) (T.g 1) rfl) pa_nil)))
        (pa_cons (pe_callB call_isX (by rfl) B.isinstance PyProof.Rows.boot_isinstance (pa_cons (pv 0) (pa_cons (pe_glob (v := .ref (cA K 2)) (by rfl) (T.g 2) rfl) pa_nil))) pa_nil)))))
    (pss_cons (ps_set (i := 1) scWhich.nd rfl (Or.inl rfl) (pe_op op_cat (pv 1) (pe_lst
        (pa_cons (pe_callB call_isX (by rfl) B.isinstance PyProof.Rows.boot_isinstance (pa_cons (pv 0) (pa_cons (pe_glob (v := .ref (cA K 3)) (by rfl) (T.g 3) rfl) pa_nil)))
        (pa_cons (pe_callB call_isX (by rfl) B.isinstance PyProof.Rows.boot_isinstance (pa_cons (pv 0) (pa_cons (pe_glob (v := .ref (cA K 4)) (by rfl) (T.g 4) rfl) pa_nil)))
        (pa_cons (pe_callB call_isX (by rfl) B.isinstance PyProof.Rows.boot_isinstance (pa_cons (pv 0) (pa_cons (pe_glob (v := .ref (cA K 5)) (by rfl) (T.g 5) rfl) pa_nil))) pa_nil))))))
    (pss_one (ps_ret (pe_op op_cat (pv 1) (pe_lst
        (pa_cons (pe_callB call_isX (by rfl) B.isinstance PyProof.Rows.boot_isinstance (pa_cons (pv 0) (pa_cons (pe_glob (v := .ref (cA K 6)) (by rfl) (T.g 6) rfl) pa_nil)))
        (pa_cons (pe_callB call_isX (by rfl) B.isinstance PyProof.Rows.boot_isinstance (pa_cons (pv 0) (pa_cons (pe_glob (v := .ref (cA K 7)) (by rfl) (T.g 7) rfl) pa_nil))) pa_nil))))))))
    , ?_⟩
  obtain ⟨bmB, newId, XX⟩ := T.xc i
  refine ⟨_, rfl, a, cA K i, bmB, newId, _, _, _, rfl, hx, XX, .own _, T.own i 0 hi (by decide), _, rfl, a, cA K i, bmB, newId, _, _, _, rfl, hx, XX, .own _, T.own i 1 hi (by decide), _, rfl, a, cA K i, bmB, newId, _, _, _, rfl, hx, XX, .own _, T.own i 2 hi (by decide), Evl.sz_of (n := 3) (by decide), fun p1 h1 => ?_⟩
  have e1 := ex_new (o := .lst [.bl (decide (i = 0)), .bl (decide (i = 1)), .bl (decide (i = 2))]) h1
  have x1 := hx.mono e1
  refine ⟨_, rfl, _, rfl, a, cA K i, bmB, newId, _, _, _, rfl, x1, XX, .own _, T.own i 3 hi (by decide), _, rfl, a, cA K i, bmB, newId, _, _, _, rfl, x1, XX, .own _, T.own i 4 hi (by decide), _, rfl, a, cA K i, bmB, newId, _, _, _, rfl, x1, XX, .own _, T.own i 5 hi (by decide), Evl.sz_of (n := 3) (by decide), fun p2 h2 => ?_⟩
  have e2 := ex_new (o := .lst [.bl (decide (i = 3)), .bl (decide (i = 4)), .bl (decide (i = 5))]) h2
  refine ⟨p1, p2, _, _, rfl, rfl, e2 _ _ upd_same, upd_same, Evl.sz_of (n := 6) (by decide), fun p3 h3 => ?_⟩
  have e3 := ex_new (o := .lst ([.bl (decide (i = 0)), .bl (decide (i = 1)), .bl (decide (i = 2))] ++ [.bl (decide (i = 3)), .bl (decide (i = 4)), .bl (decide (i = 5))])) h3
  have x3 := (x1.mono e2).mono e3
  refine ⟨_, rfl, _, rfl, a, cA K i, bmB, newId, _, _, _, rfl, x3, XX, .own _, T.own i 6 hi (by decide), _, rfl, a, cA K i, bmB, newId, _, _, _, rfl, x3, XX, .own _, T.own i 7 hi (by decide), Evl.sz_of (n := 2) (by decide), fun p4 h4 => ?_⟩
  have e4 := ex_new (o := .lst [.bl (decide (i = 6)), .bl (decide (i = 7))]) h4
  refine ⟨p3, p4, _, _, rfl, rfl, e4 _ _ upd_same, upd_same, Evl.sz_of (n := 8) (by decide), fun p5 h5 => ?_⟩
  have e5 := ex_trans (ex_trans (ex_trans e1 e2) e3) e4
  exact k p5 _ (ex_back e5 h5) (ex_newT e5 h5) upd_same
abbrev sPlace : Stmt := topS 16
abbrev nPlace : List Str := ["_law_made_so", "_law_spot_so", "_law_above_so", "_law_lap"]
theorem scPlace : FnScope nPlace ["_law_made_so", "_law_spot_so"] (defScope sPlace) := ⟨rfl, rfl, rfl, by decide +kernel, rfl, by decide +kernel, by decide +kernel⟩
def spPlace (K : PySem.W.Frag) : Sp := fun vs H Q _ => ∃ (a : Addr) (i : Nat), vs = [.ref a, .int (i : Int)] ∧ i < 8 ∧ XA H a (cA K i) ∧ ∀ H', Ex H H' → Q (.bl true) H'
theorem ok_place {k : Nat} (F : FnP K "_law_place_right" "_law_place_right" sPlace f fd) (B : Bi mg) (T : XTxt K mg) (c_same : Cal P w K mg base k "_law_same" ["_law_got", "_law_due"] (spSame K 3)) (c_which : Cal P w K mg base k "_law_which" ["_law_made_so"] (spWhich K)) :
    FnOk P w K mg base CX0 (k + 1) f fd ["_law_made_so", "_law_spot_so"] (spPlace K) := by
  refine F.ok scPlace (fun vs H Q E h => ?_) (fun cdv A outer s H vs Q E hr h => ?_)
  · obtain ⟨a, i, rfl, _⟩ := h
    rfl
  obtain ⟨a, i, rfl, hi, hx, k⟩ := h
  refine ⟨_, PSs.nox (pss_cons (ps_set (i := 2) scPlace.nd rfl (Or.inl rfl) (pe_lst
        (pa_cons (pe_callB call_isX (by rfl) B.isinstance PyProof.Rows.boot_isinstance (pa_cons (pv 0) (pa_cons (pe_bltn (v := .ty "ValueError") (by rfl) T.bV (by decide +kernel) rfl) pa_nil)))
        (pa_cons (pe_callB call_isX (by rfl) B.isinstance PyProof.Rows.boot_isinstance (pa_cons (pv 0) (pa_cons (pe_bltn (v := .ty "LookupError") (by rfl) T.bL (by decide +kernel) rfl) pa_nil))) pa_nil))))
    (pss_cons (ps_set (i := 2) scPlace.nd rfl (Or.inl rfl) (pe_op op_cat (pv 2) (pe_lst
        (pa_cons (pe_callB call_isXT (by rfl) B.isinstance PyProof.Rows.boot_isinstance (pa_cons (pv 0) (pa_cons (pe_tup (pa_cons (pe_bltn (v := .ty "KeyError") (by rfl) T.bK (by decide +kernel) rfl) (pa_cons (pe_bltn (v := .ty "IndexError") (by rfl) T.bI (by decide +kernel) rfl) pa_nil))) pa_nil))) pa_nil))))
    (pss_cons (ps_if (pt_not (pt_val (pe_cal c_same hr (by rfl) (pa_cons (pv 2) (pa_cons (pe_lst (pa_cons (pe_cmpR op_lt (pv 1) pe_int (nomark _)) (pa_cons (pe_cmpR op_gt (pv 1) pe_int (nomark _)) (pa_cons pe_bl pa_nil)))) pa_nil)))))
        (pss_one (ps_ret pe_bl)) pss_nil)
    (pss_one (ps_ret (pe_cal c_same hr (by rfl) (pa_cons (pe_cal c_which hr (by rfl) (pa_cons (pv 0) pa_nil)) (pa_cons (pe_lc (own := [("_law_lap", 3)]) (g := gName 3) rfl scPlace.nd (pi_range1 (by rfl) B.range (pa_cons pe_int pa_nil))
        (blkOk_by (N := nPlace) (sc := defScope sPlace) (by decide +kernel)) (fun _ _ _ _ _ => pg_name (i := 3) scPlace.nd rfl (Or.inl rfl) (Or.inr rfl)) (fun _ _ _ _ _ => pts_nil) (fun _ _ _ _ _ => pe_cmpR op_eq (pv 3) (pv 1) (nomark _))) pa_nil)))))))), ?_⟩
  obtain ⟨bmB, newId, XX⟩ := T.xc i
  refine ⟨_, rfl, a, cA K i, bmB, newId, _, _, _, rfl, hx, XX, .ty _, T.isV i hi, _, rfl, a, cA K i, bmB, newId, _, _, _, rfl, hx, XX, .ty _, T.isL i hi, Evl.sz_of (n := 2) (by decide), fun p1 h1 => ?_⟩
  have e1 := ex_new (o := .lst [.bl (decide ((i : Int) < 4)), .bl (decide ((3 : Int) < (i : Int)))]) h1
  refine ⟨_, rfl, _, rfl, Evl.sz_of (n := 2) (by decide), fun p2 h2 => ?_⟩
  have e2 := ex_newT (o := .tup [.ty "KeyError", .ty "IndexError"]) e1 h2
  refine ⟨a, cA K i, bmB, newId, p2, _, _, _, rfl, upd_same, .cons (.ty _) (.cons (.ty _) .nil), hx.mono e2, XX, T.isKI i hi, Evl.sz_of (n := 1) (by decide), fun p3 h3 => ?_⟩
  have e3 := ex_newT (o := .lst [.bl false]) e2 h3
  refine ⟨p1, p3, _, _, rfl, rfl, (ex_trans (ex_new h2) (ex_new h3)) _ _ upd_same, upd_same, Evl.sz_of (n := 3) (by decide), fun p4 h4 => ?_⟩
  have e4 := ex_newT (o := .lst ([.bl (decide ((i : Int) < 4)), .bl (decide ((3 : Int) < (i : Int)))] ++ [.bl false])) e3 h4
  refine ⟨_, rfl, _, rfl, _, _, rfl, rfl, _, rfl, _, _, rfl, rfl, Evl.sz_of (n := 3) (by decide), fun p5 h5 => ?_⟩
  have e5 := ex_newT (o := .lst [.bl (decide ((i : Int) < 4)), .bl (decide ((3 : Int) < (i : Int))), .bl false]) e4 h5
  have dA : ∀ {Hc : Hp} {p : Addr}, Hc p = some (.lst [.bl (decide ((i : Int) < 4)), .bl (decide ((3 : Int) < (i : Int))), .bl false]) → Dp K Hc (.ref p) (.list [.bool (decide ((i : Int) < 4)), .bool (decide ((3 : Int) < (i : Int))), .bool false]) := fun h =>
    .lst (.inl (.inl h)) (.cons (.bl _) (.cons (.bl _) (.cons (.bl _) .nil)))
  refine ⟨_, _, .list [.bool (decide ((i : Int) < 4)), .bool (decide ((3 : Int) < (i : Int))), .bool false], rfl, ⟨by simp, fun d hd => ?_⟩, dA ((ex_new h5) _ _ upd_same), dA upd_same, fun H6 e6 => ⟨true, rfl, ?_⟩⟩
  · simp only [List.mem_cons, List.not_mem_nil, or_false] at hd
    rcases hd with rfl | rfl | rfl <;> trivial
  have e7 := ex_trans e5 e6
  refine ⟨_, rfl, a, i, rfl, hi, hx.mono e7, fun p7 H7 n7 e8 hp7 => ?_⟩
  have e9 := ex_trans e7 e8
  refine ⟨(8 : Int), rfl, by decide, by decide, fun D hD => ?_⟩
  refine lc_range (lo := 0) (n := 8) (fun n Hc => Ex H7 Hc ∧ Hc D = some (.lst ((List.range n).map fun (j : Nat) => V.bl (decide (V.int (0 + (j : Int)) = V.int (i : Int)))))) ⟨ex_new hD, upd_same⟩ (fun j Hc hj p => ?_) (fun Hc p => ?_)
  · obtain ⟨p1, p2⟩ := p
    refine ⟨rfl, _, rfl, _, rfl, rfl, _, p2, ?_, ex_mut p1 hD, ?_⟩
    · rw [List.length_map, List.length_range]
      exact Evl.sz_lt (by omega)
    · rw [upd_same, List.range_succ, List.map_append]
      rfl
  · obtain ⟨p1, p2⟩ := p
    have ee : ((List.range 8).map fun (j : Nat) => V.bl (decide (V.int (0 + (j : Int)) = V.int (i : Int)))) = (List.range 8).map fun j => V.bl (decide (i = j)) := by
      refine List.map_congr_left fun j _ => ?_
      congr 1
      refine decide_eq_decide.mpr ⟨fun h => ?_, fun h => ?_⟩
      · have z := V.int.inj h
        omega
      · rw [h]
        congr 1
        omega
    rw [ee] at p2
    have dB : ∀ {Hc : Hp} {p : Addr}, Hc p = some (.lst ((List.range 8).map fun j => V.bl (decide (i = j)))) → Dp K Hc (.ref p) (.list ((List.range 8).map fun j => PyData.bool (decide (i = j)))) := fun h =>
      .lst (.inl (.inl h)) (dpAll_map (fun j => .bl _) _)
    refine ⟨_, _, .list ((List.range 8).map fun j => PyData.bool (decide (i = j))), rfl, ⟨by simp, fun d hd => ?_⟩, dB (p1 _ _ hp7), dB p2, fun H8 e10 => k H8 (ex_trans (ex_trans e9 p1) e10)⟩
    obtain ⟨j, _, rfl⟩ := List.mem_map.mp hd
    trivial
end
end TR

namespace TR
open PySem PySem.Spec PyProof.Rows L2
theorem tk0 {X : Cx} : Takes X (fun _ _ _ _ => False) := fun _ _ z => by
  obtain ⟨_, _, _, _, _, _, _, _, _, _, _, _, _, _, _, _, q⟩ := z
  exact q.elim
/-- the reading «y is x, of the class C» behind a caught one -/
theorem xv_new {H : Hp} {a d C : Addr} {fs : List (Str × V)} (hd : H d = none) (ha : upd H d (.xd fs) a = none) : XV (upd (upd H d (.xd fs)) a (exv a (.ref C) (some d))) a C fs ∧ Ex H (upd (upd H d (.xd fs)) a (exv a (.ref C) (some d))) := by
  have n : d ≠ a := fun z => by
    rw [← z, upd_same] at ha
    cases ha
  exact ⟨⟨d, upd_same, by rw [upd_ne n, upd_same]⟩, ex_newT (ex_new hd) ha⟩
abbrev sCaught : Stmt := topS 17
abbrev nCaught : List Str := ["_law_tie_so", "_law_tag_so", "_law_caught_so", "_law_far", "error_a", "error_b"]
theorem scCaught : FnScope nCaught ["_law_tie_so", "_law_tag_so"] (defScope sCaught) := ⟨rfl, rfl, rfl, by decide +kernel, rfl, by decide +kernel, by decide +kernel⟩
def spCaught (K : PySem.W.Frag) : Sp := fun vs H Q _ => ∃ (x y : V) (d e : PyData), vs = [x, y] ∧ okD 2 d ∧ okD 2 e ∧ Dp K H x d ∧ Dp K H y e ∧ ∀ H', Ex H H' → Q (.bl true) H'
section
variable {P : Program} {w : World} {K : PySem.W.Frag} {mg : Str → Option Value} {base : Heap} {f : Addr} {fd : FuncData}
theorem ok_caught {k : Nat} (F : FnP K "_law_caught" "_law_caught" sCaught f fd) (T : XTxt K mg) (M4 : XMk P w K mg base (cA K 4) "hold") (M5 : XMk P w K mg base (cA K 5) "name") (hk : 2 ≤ k) (c_same : Cal P w K mg base k "_law_same" ["_law_got", "_law_due"] (spSame K 3)) :
    FnOk P w K mg base CX0 (k + 1) f fd ["_law_tie_so", "_law_tag_so"] (spCaught K) := by
  refine F.ok scCaught (fun vs H Q E h => ?_) (fun cdv A outer s H vs Q E hr h => ?_)
  · obtain ⟨x, y, d, e, rfl, _⟩ := h
    rfl
  obtain ⟨x, y, d, e, rfl, od, oe, hx, hy, k⟩ := h
  have hr2 : Room 2 (A.deeper (envOfC "_law_caught" (defScope sCaught) s.heap.objs.size f cdv)) := hr.mono hk
  refine ⟨_, PSs.nox (pss_cons (ps_asg (pe_tup (pa_cons pe_non (pa_cons pe_non pa_nil))) (pg_tup rfl (pgs_cons (pg_name (i := 2) scCaught.nd rfl (Or.inl rfl)) (pgs_cons (pg_name (i := 3) scCaught.nd rfl (Or.inl rfl)) pgs_nil))))
    (pss_cons (ps_try_asT (i := 4) (ts := fun _ => tAsg (tVar 4) (gName 2)) (tb := fun W => fun _ σ H => tXrs (cA K 4) "hold" (tCons (tVar 0) tNil) σ H fun cls d H' => W cls d σ H') (Wout := fun _ _ _ _ => False) rfl rfl scCaught.nd rfl rfl ⟨rfl, by decide, .inl (T.g 4)⟩ tk0
      (fun W pn xe tk _ => pss_one (ps_raise rfl tk (pmk_xm M4 hr2 (by rfl) (T.g 4) (pa_cons (pv 0) pa_nil)))) (fun a pn => pss_one (ps_set (i := 2) scCaught.nd rfl (Or.inl rfl) (pv 4))))
    (pss_cons (ps_try_asT (i := 5) (ts := fun _ => tAsg (tVar 5) (gName 3)) (tb := fun W => fun _ σ H => tXrs (cA K 5) "name" (tCons (tVar 1) tNil) σ H fun cls d H' => W cls d σ H') (Wout := fun _ _ _ _ => False) rfl rfl scCaught.nd rfl rfl ⟨rfl, by decide, .inl (T.g 5)⟩ tk0
      (fun W pn xe tk _ => pss_one (ps_raise rfl tk (pmk_xm M5 hr2 (by rfl) (T.g 5) (pa_cons (pv 1) pa_nil)))) (fun a pn => pss_one (ps_set (i := 3) scCaught.nd rfl (Or.inl rfl) (pv 5))))
    (pss_one (ps_ret (pe_cal c_same hr (by rfl) (pa_cons (pe_lst (pa_cons (pe_xget (pv 2)) (pa_cons (pe_xget (pv 3)) pa_nil))) (pa_cons (pe_lst (pa_cons (pv 0) (pa_cons (pv 1) pa_nil))) pa_nil)))))))), ?_⟩
  refine ⟨Evl.sz_of (n := 2) (by decide), fun p0 h0 => ⟨p0, [.non, .non], rfl, .inl (.inl upd_same), rfl, _, [_], rfl, _, [], rfl, rfl, ?_⟩⟩
  have e0 := ex_new (o := .tup [.non, .non]) h0
  refine ⟨x, rfl, x, rfl, fun d1 hd1 => ⟨true, T.ex4, fun _ a1 ha1 => ⟨_, rfl, ?_⟩, fun q => Bool.noConfusion q⟩⟩
  obtain ⟨v1, e1⟩ := xv_new (C := cA K 4) hd1 ha1
  refine ⟨y, rfl, y, rfl, fun d2 hd2 => ⟨true, T.ex5, fun _ a2 ha2 => ⟨_, rfl, ?_⟩, fun q => Bool.noConfusion q⟩⟩
  obtain ⟨v2, e2⟩ := xv_new (C := cA K 5) hd2 ha2
  have e3 := ex_trans (ex_trans e0 e1) e2
  obtain ⟨_, _, bm4, n4, _, _, X4, _, _, _, _, _, _, no4⟩ := id M4
  obtain ⟨_, _, bm5, n5, _, _, X5, _, _, _, _, _, _, no5⟩ := id M5
  refine ⟨_, rfl, a1, cA K 4, bm4, n4, _, x, rfl, v1.mono e2, X4, no4, rfl, ?_⟩
  refine ⟨_, rfl, a2, cA K 5, bm5, n5, _, y, rfl, v2, X5, no5, rfl, Evl.sz_of (n := 2) (by decide), fun p3 h3 => ?_⟩
  have e4 := ex_newT (o := .lst [x, y]) e3 h3
  refine ⟨x, rfl, y, rfl, Evl.sz_of (n := 2) (by decide), fun p4 h4 => ?_⟩
  have e5 := ex_newT (o := .lst [x, y]) e4 h4
  refine ⟨_, _, .list [d, e], rfl, ⟨by simp, fun z hz => ?_⟩, .lst (.inl (.inl ((ex_new h4) _ _ upd_same))) (.cons (dp_mono e5 hx) (.cons (dp_mono e5 hy) .nil)), .lst (.inl (.inl upd_same)) (.cons (dp_mono e5 hx) (.cons (dp_mono e5 hy) .nil)), fun H' e6 => k H' (ex_trans e5 e6)⟩
  simp only [List.mem_cons, List.not_mem_nil, or_false] at hz
  rcases hz with rfl | rfl
  · exact od
  · exact oe
end
end TR

namespace TR
open PySem PySem.Spec PyProof.Rows L2
/-- all but p stays -/
def Fr (p : Addr) (H H' : Hp) : Prop := ∀ a o, a ≠ p → H a = some o → H' a = some o
theorem Fr.trans {p : Addr} {H H1 H2 : Hp} (a : Fr p H H1) (b : Fr p H1 H2) : Fr p H H2 := fun x o h e => b x o h (a x o h e)
theorem Fr.ex {p : Addr} {H H' : Hp} (e : Ex H H') : Fr p H H' := fun a o _ h => e a o h
theorem BoxAt.new {H : Hp} {p q : Addr} {n : Int} {o : HO} (h : BoxAt H p n) (hq : H q = none) : BoxAt (upd H q o) p n ∧ q ≠ p := by
  obtain ⟨b0, b1, b2, hp, r⟩ := h
  have n : q ≠ p := (ne_of_none hp hq).symm
  exact ⟨⟨b0, b1, b2, by rw [upd_ne n.symm]; exact hp, r⟩, n⟩
theorem go_of {σ : L2.St} {H : Hp} {p : Addr} {n : Int} {xs : List V} {ta : TA} {Q : VK} (h0 : σ[0]? = some (some (.ref p))) (hB : BoxAt H p n) (hn : n ≤ 1000) (ht : ∀ (H1 : Hp) (Q' : List V → Hp → Prop), Q' xs H1 → ta σ H1 Q') (hl : 0 < xs.length) (hl2 : xs.length ≤ 1000)
    (k : ∀ v H', v ∈ xs → BoxAt H' p (n + 1) → Fr p H H' → Q v H') : tCall spOf [] E0 (tCons (tVar 0) (tCons (tLst ta) tNil)) σ H Q := by
  refine ⟨_, h0, ht H _ ⟨Evl.sz_of (by omega), fun q hq => ?_⟩⟩
  obtain ⟨hB', nq⟩ := hB.new (o := .lst xs) hq
  exact ⟨p, q, n, xs, rfl, hB', by omega, upd_same, nq, hl, hl2, fun v H' hv hb fr => k v H' hv hb (Fr.trans (Fr.ex (ex_new hq)) fr.1)⟩
theorem xmk_new {H : Hp} {a d C : Addr} {fs : List (Str × V)} (ha : H a = none) (hd : H d = none) (n : d ≠ a) : XV (upd (upd H a (exv a (.ref C) (some d))) d (.xd fs)) a C fs ∧ Ex H (upd (upd H a (exv a (.ref C) (some d))) d (.xd fs)) :=
  ⟨⟨d, by rw [upd_ne n.symm, upd_same], upd_same⟩, ex_newT (ex_new ha) (by rw [upd_ne n]; exact hd)⟩
theorem xmk0_new {H : Hp} {a C : Addr} (ha : H a = none) : XV0 (upd H a (exv a (.ref C) none)) a C ∧ Ex H (upd H a (exv a (.ref C) none)) := ⟨upd_same, ex_new ha⟩
/-- the eight of one row -/
def Eight (K : PySem.W.Frag) (H : Hp) (l : Addr) (z : Int) (t : Str) (q : Addr) : Prop := ∃ a0 a1 a2 a3 a4 a5 a6 a7 : Addr, H l = some (.lst [.ref a0, .ref a1, .ref a2, .ref a3, .ref a4, .ref a5, .ref a6, .ref a7]) ∧
  XV H a0 (cA K 0) [(("number" : Str), .int z)] ∧ XV H a1 (cA K 1) [(("number" : Str), .int z)] ∧ XV H a2 (cA K 2) [(("name" : Str), .str t)] ∧ XV0 H a3 (cA K 3) ∧ XV H a4 (cA K 4) [(("hold" : Str), .ref q)] ∧ XV H a5 (cA K 5) [(("name" : Str), .str t)] ∧
  XV H a6 (cA K 6) [(("number" : Str), .int z)] ∧ XV0 H a7 (cA K 7)
theorem Eight.mono {K : PySem.W.Frag} {H H' : Hp} {l : Addr} {z : Int} {t : Str} {q : Addr} (h : Eight K H l z t q) (e : Ex H H') : Eight K H' l z t q := by
  obtain ⟨a0, a1, a2, a3, a4, a5, a6, a7, h, x0, x1, x2, x3, x4, x5, x6, x7⟩ := h
  exact ⟨a0, a1, a2, a3, a4, a5, a6, a7, e _ _ h, x0.mono e, x1.mono e, x2.mono e, e _ _ x3, x4.mono e, x5.mono e, x6.mono e, e _ _ x7⟩
abbrev sRight : Stmt := topS 18
abbrev nRight : List Str := ["_law_box_here", "_law_size_so", "_law_tag_so", "_law_tie_so", "_law_near", "_law_far", "_law_made_so", "_law_got", "_law_lap", "_law_own"]
theorem scRight : FnScope nRight ["_law_box_here"] (defScope sRight) := ⟨rfl, rfl, rfl, by decide +kernel, rfl, by decide +kernel, by decide +kernel⟩
def spRight : Sp := fun vs H Q _ => ∃ (p : Addr) (n : Int), vs = [.ref p] ∧ BoxAt H p n ∧ n ≤ 900 ∧ ∀ H', Fr p H H' → Q (.bl true) H'
/-- the class's own __init__s and makers -/
structure XAll (P : Program) (w : World) (K : PySem.W.Frag) (mg : Str → Option Value) (base : Heap) : Prop where
  m0 : XMk P w K mg base (cA K 0) "number"
  m1 : XMk P w K mg base (cA K 1) "number"
  m2 : XMk P w K mg base (cA K 2) "name"
  m3 : XMk0 K (cA K 3)
  m4 : XMk P w K mg base (cA K 4) "hold"
  m5 : XMk P w K mg base (cA K 5) "name"
  m6 : XMk P w K mg base (cA K 6) "number"
  m7 : XMk0 K (cA K 7)
section
variable {P : Program} {w : World} {K : PySem.W.Frag} {mg : Str → Option Value} {base : Heap} {f : Addr} {fd : FuncData}
theorem ok_right {k : Nat} (F : FnP K "_law_right" "_law_right" sRight f fd) (B : Bi mg) (T : XTxt K mg) (M : XAll P w K mg base) (hk : 2 ≤ k) (c_same : Cal P w K mg base k "_law_same" ["_law_got", "_law_due"] (spSame K 3)) (c_take : Cal P w K mg base k "_law_take" ["_law_box_here", "_law_below_so"] spTake)
    (c_of : Cal P w K mg base k "_law_of" ["_law_box_here", "_law_pool_so"] spOf) (c_place : Cal P w K mg base k "_law_place_right" ["_law_made_so", "_law_spot_so"] (spPlace K)) (c_caught : Cal P w K mg base k "_law_caught" ["_law_tie_so", "_law_tag_so"] (spCaught K)) :
    FnOk P w K mg base CX0 (k + 1) f fd ["_law_box_here"] spRight := by
  refine F.ok scRight (fun vs H Q E h => ?_) (fun cdv A outer s H vs Q E hr h => ?_)
  · obtain ⟨p, n, rfl, _⟩ := h
    rfl
  obtain ⟨p, n, rfl, hB, hn, k⟩ := h
  have hr2 : Room 2 (A.deeper (envOfC "_law_right" (defScope sRight) s.heap.objs.size f cdv)) := hr.mono hk
  refine ⟨_, PSs.nox (pss_cons (ps_par (i := 1) (j := 2) rfl scRight.nd rfl rfl (by decide) rfl rfl
      (pa_cons (pe_op op_mul (pe_op op_sub (pe_cal c_take hr (by rfl) (pa_cons (pv 0) (pa_cons pe_int pa_nil))) pe_int) (pe_cal c_of hr (by rfl) (pa_cons (pv 0) (pa_cons (pe_lst (pa_cons pe_int (pa_cons (pe_op op_pow pe_int pe_int) pa_nil))) pa_nil))))
        (pa_cons (pe_cal c_of hr (by rfl) (pa_cons (pv 0) (pa_cons (pe_lst (pa_cons pe_str (pa_cons pe_str (pa_cons pe_str pa_nil)))) pa_nil))) pa_nil)) rfl)
    (pss_cons (ps_set (i := 3) scRight.nd rfl (Or.inl rfl) (pe_tup (pa_cons (pv 2) (pa_cons (pe_cal c_of hr (by rfl) (pa_cons (pv 0) (pa_cons (pe_lst (pa_cons pe_str (pa_cons pe_str pa_nil))) pa_nil)))
        (pa_cons (pe_cal c_of hr (by rfl) (pa_cons (pv 0) (pa_cons (pe_lst (pa_cons pe_str (pa_cons pe_str pa_nil))) pa_nil))) pa_nil)))))
    (pss_cons (ps_set (i := 4) scRight.nd rfl (Or.inl rfl) (pe_lst (pa_cons (pe_xm M.m0 hr2 (by rfl) (T.g 0) (pa_cons (pv 1) pa_nil)) (pa_cons (pe_xm M.m1 hr2 (by rfl) (T.g 1) (pa_cons (pv 1) pa_nil)) (pa_cons (pe_xm M.m2 hr2 (by rfl) (T.g 2) (pa_cons (pv 2) pa_nil))
        (pa_cons (pe_xm0 M.m3 (by rfl) (T.g 3)) (pa_cons (pe_xm M.m4 hr2 (by rfl) (T.g 4) (pa_cons (pv 3) pa_nil)) (pa_cons (pe_xm M.m5 hr2 (by rfl) (T.g 5) (pa_cons (pv 2) pa_nil)) pa_nil))))))))
    (pss_cons (ps_set (i := 4) scRight.nd rfl (Or.inl rfl) (pe_op op_cat (pv 4) (pe_lst (pa_cons (pe_xm M.m6 hr2 (by rfl) (T.g 6) (pa_cons (pv 1) pa_nil)) (pa_cons (pe_xm0 M.m7 (by rfl) (T.g 7)) pa_nil)))))
    (pss_cons (ps_set (i := 5) scRight.nd rfl (Or.inl rfl) (pe_lst (pa_cons (pe_xmk' M.m0 hr2 (by rfl) (T.g 0) (pv 1)) (pa_cons (pe_xmk' M.m1 hr2 (by rfl) (T.g 1) (pv 1)) (pa_cons (pe_xmk' M.m2 hr2 (by rfl) (T.g 2) (pv 2))
        (pa_cons (pe_xm0 M.m3 (by rfl) (T.g 3)) (pa_cons (pe_xmk' M.m4 hr2 (by rfl) (T.g 4) (pv 3)) pa_nil)))))))
    (pss_cons (ps_set (i := 5) scRight.nd rfl (Or.inl rfl) (pe_op op_cat (pv 5) (pe_lst (pa_cons (pe_xmk' M.m5 hr2 (by rfl) (T.g 5) (pv 2)) (pa_cons (pe_xmk' M.m6 hr2 (by rfl) (T.g 6) (pv 1)) (pa_cons (pe_xm0 M.m7 (by rfl) (T.g 7)) pa_nil))))))
    (pss_cons (ps_for PassesOwn.never rfl (pi_list (pe_lst (pa_cons (pv 4) (pa_cons (pv 5) pa_nil)))) (pg_name (i := 6) scRight.nd rfl (Or.inl rfl))
      (pss_cons (ps_set (i := 7) scRight.nd rfl (Or.inl rfl) (pe_lst (pa_cons (pe_xget (pe_ix ix_list (pv 6) pe_int (fun _ _ => rfl))) (pa_cons (pe_xget (pe_ix ix_list (pv 6) pe_int (fun _ _ => rfl))) (pa_cons (pe_xget (pe_ix ix_list (pv 6) pe_int (fun _ _ => rfl)))
          (pa_cons (pe_xget (pe_ix ix_list (pv 6) pe_int (fun _ _ => rfl))) (pa_cons (pe_xget (pe_ix ix_list (pv 6) pe_int (fun _ _ => rfl))) pa_nil)))))))
      (pss_cons (ps_if (pt_not (pt_val (pe_cal c_same hr (by rfl) (pa_cons (pe_op op_cat (pv 7) (pe_lst (pa_cons (pe_xget (pe_ix ix_list (pv 6) pe_int (fun _ _ => rfl))) pa_nil))) (pa_cons (pe_lst (pa_cons (pv 1) (pa_cons (pv 1) (pa_cons (pv 2) (pa_cons (pv 3) (pa_cons (pv 2) (pa_cons (pv 1) pa_nil))))))) pa_nil)))))
        (pss_one (ps_ret pe_bl)) pss_nil)
      (pss_one (ps_if (pt_not (pt_val (pe_callB (cr_all rfl) (by rfl) B.all PyProof.Rows.boot_all (pa_cons (pe_lc (own := [("_law_lap", 8), ("_law_own", 9)]) (g := gTup K 2 (gCons (gName 8) (gCons (gName 9) gNil))) rfl scRight.nd (pi_enum (by rfl) B.enumerate (pa_cons (pv 6) pa_nil))
          (blkOk_by (N := nRight) (sc := defScope sRight) (by decide +kernel)) (fun _ _ _ _ _ => pg_tup rfl (pgs_cons (pg_name (i := 8) scRight.nd rfl (Or.inl rfl) (Or.inr rfl)) (pgs_cons (pg_name (i := 9) scRight.nd rfl (Or.inl rfl) (Or.inr rfl)) pgs_nil))) (fun _ _ _ _ _ => pts_nil)
          (fun _ _ _ _ _ => pe_cal c_place hr (by rfl) (pa_cons (pv 9) (pa_cons (pv 8) pa_nil)))) pa_nil))))
        (pss_one (ps_ret pe_bl)) pss_nil)))))
    (pss_one (ps_ret (pe_and (pe_cal c_caught hr (by rfl) (pa_cons (pv 3) (pa_cons (pv 2) pa_nil))) (pe_one (pe_cal c_same hr (by rfl) (pa_cons (pe_xget (pe_xm M.m1 hr2 (by rfl) (T.g 1) (pa_cons (pe_op op_pow pe_int pe_int) pa_nil))) (pa_cons (pe_op op_pow pe_int pe_int) pa_nil)))))))))))))), ?_⟩
  -- the draws
  refine ⟨_, rfl, p, 999, n, rfl, by decide, by decide, hB, by omega, fun r H1 r0 r1 hB1 F1 f2 => ⟨_, _, rfl, rfl, ?_⟩⟩
  refine go_of (n := n + 1) (xs := [.int 1, .int ((10 : Int) ^ (6 : Int).toNat)]) rfl hB1 (by omega) (fun H1 Q' q => ⟨_, _, rfl, rfl, ⟨by decide, by decide, by decide⟩, q⟩) (by simp) (by simp) (fun v H2 hv hB2 F2 => ?_)
  obtain ⟨j, rfl⟩ : ∃ j, v = .int j := by
    simp only [List.mem_cons, List.not_mem_nil, or_false] at hv
    rcases hv with rfl | rfl <;> exact ⟨_, rfl⟩
  refine ⟨_, _, rfl, rfl, .inl ⟨by omega, by omega⟩, ?_⟩
  refine go_of (n := n + 1 + 1) (xs := [.str "ann", .str "take", .str ""]) rfl hB2 (by omega) (fun _ _ q => q) (by simp) (by simp) (fun v H3 hv hB3 F3 => ?_)
  obtain ⟨t, rfl⟩ : ∃ t, v = .str t := by
    simp only [List.mem_cons, List.not_mem_nil, or_false] at hv
    rcases hv with rfl | rfl | rfl <;> exact ⟨_, rfl⟩
  refine ⟨_, _, rfl, ?_⟩
  refine ⟨_, rfl, ?_⟩
  refine go_of (n := n + 1 + 1 + 1) (xs := [.str "own", .str "hand"]) rfl hB3 (by omega) (fun _ _ q => q) (by simp) (by simp) (fun v H4 hv hB4 F4 => ?_)
  obtain ⟨u, rfl⟩ : ∃ u, v = .str u := by
    simp only [List.mem_cons, List.not_mem_nil, or_false] at hv
    rcases hv with rfl | rfl <;> exact ⟨_, rfl⟩
  refine go_of (n := n + 1 + 1 + 1 + 1) (xs := [.str "box", .str "bob"]) rfl hB4 (by omega) (fun _ _ q => q) (by simp) (by simp) (fun v H5 hv hB5 F5 => ?_)
  obtain ⟨o, rfl⟩ : ∃ o, v = .str o := by
    simp only [List.mem_cons, List.not_mem_nil, or_false] at hv
    rcases hv with rfl | rfl <;> exact ⟨_, rfl⟩
  refine ⟨Evl.sz_of (n := 3) (by decide), fun q hq => ?_⟩
  have G0 : Fr p H (upd H5 q (.tup [.str t, .str u, .str o])) := ((((Fr.trans F1 F2).trans F3).trans F4).trans F5).trans (Fr.ex (ex_new hq))
  have dT : Dp K (upd H5 q (.tup [.str t, .str u, .str o])) (.ref q) (.tuple [.str t, .str u, .str o]) := .tup (.inl (.inl upd_same)) (.cons (.str _) (.cons (.str _) (.cons (.str _) .nil)))
  generalize upd H5 q (.tup [.str t, .str u, .str o]) = I0 at G0 dT ⊢
  dsimp only
  generalize hz : (r - 400) * j = z

  refine ⟨_, rfl, _, rfl, fun a0 d0 ha0 hd0 n0 => ?_⟩
  obtain ⟨x0, e0⟩ := xmk_new (C := cA K 0) (fs := [(("number" : Str), .int z)]) ha0 hd0 n0
  generalize upd (upd I0 a0 (exv a0 (.ref (cA K 0)) (some d0))) d0 (.xd [(("number" : Str), .int z)]) = I1 at x0 e0 ⊢
  refine ⟨_, rfl, _, rfl, fun a1 d1 ha1 hd1 n1 => ?_⟩
  obtain ⟨x1, e1⟩ := xmk_new (C := cA K 1) (fs := [(("number" : Str), .int z)]) ha1 hd1 n1
  generalize upd (upd I1 a1 (exv a1 (.ref (cA K 1)) (some d1))) d1 (.xd [(("number" : Str), .int z)]) = I2 at x1 e1 ⊢
  refine ⟨_, rfl, _, rfl, fun a2 d2 ha2 hd2 n2 => ?_⟩
  obtain ⟨x2, e2⟩ := xmk_new (C := cA K 2) (fs := [(("name" : Str), .str t)]) ha2 hd2 n2
  generalize upd (upd I2 a2 (exv a2 (.ref (cA K 2)) (some d2))) d2 (.xd [(("name" : Str), .str t)]) = I3 at x2 e2 ⊢
  refine fun a3 ha3 => ?_
  obtain ⟨x3, e3⟩ := xmk0_new (C := cA K 3) ha3
  generalize upd I3 a3 (exv a3 (.ref (cA K 3)) none) = I4 at x3 e3 ⊢
  refine ⟨_, rfl, _, rfl, fun a4 d4 ha4 hd4 n4 => ?_⟩
  obtain ⟨x4, e4⟩ := xmk_new (C := cA K 4) (fs := [(("hold" : Str), .ref q)]) ha4 hd4 n4
  generalize upd (upd I4 a4 (exv a4 (.ref (cA K 4)) (some d4))) d4 (.xd [(("hold" : Str), .ref q)]) = I5 at x4 e4 ⊢
  refine ⟨_, rfl, _, rfl, fun a5 d5 ha5 hd5 n5 => ?_⟩
  obtain ⟨x5, e5⟩ := xmk_new (C := cA K 5) (fs := [(("name" : Str), .str t)]) ha5 hd5 n5
  generalize upd (upd I5 a5 (exv a5 (.ref (cA K 5)) (some d5))) d5 (.xd [(("name" : Str), .str t)]) = I6 at x5 e5 ⊢
  refine ⟨Evl.sz_of (n := 6) (by decide), fun l1 hl1 => ?_⟩
  have pl1 : upd I6 l1 (.lst [.ref a0, .ref a1, .ref a2, .ref a3, .ref a4, .ref a5]) l1 = some (.lst [.ref a0, .ref a1, .ref a2, .ref a3, .ref a4, .ref a5]) := upd_same
  have e6 := ex_new (o := .lst [.ref a0, .ref a1, .ref a2, .ref a3, .ref a4, .ref a5]) hl1
  generalize upd I6 l1 (.lst [.ref a0, .ref a1, .ref a2, .ref a3, .ref a4, .ref a5]) = I7 at pl1 e6 ⊢
  refine ⟨_, rfl, ?_⟩
  refine ⟨_, rfl, _, rfl, fun a7 d7 ha7 hd7 n7 => ?_⟩
  obtain ⟨x7, e7⟩ := xmk_new (C := cA K 6) (fs := [(("number" : Str), .int z)]) ha7 hd7 n7
  generalize upd (upd I7 a7 (exv a7 (.ref (cA K 6)) (some d7))) d7 (.xd [(("number" : Str), .int z)]) = I8 at x7 e7 ⊢
  refine fun a8 ha8 => ?_
  obtain ⟨x8, e8⟩ := xmk0_new (C := cA K 7) ha8
  generalize upd I8 a8 (exv a8 (.ref (cA K 7)) none) = I9 at x8 e8 ⊢
  refine ⟨Evl.sz_of (n := 2) (by decide), fun l2 hl2 => ?_⟩
  have pl2 : upd I9 l2 (.lst [.ref a7, .ref a8]) l2 = some (.lst [.ref a7, .ref a8]) := upd_same
  have e9 := ex_new (o := .lst [.ref a7, .ref a8]) hl2
  generalize upd I9 l2 (.lst [.ref a7, .ref a8]) = I10 at pl2 e9 ⊢
  refine ⟨l1, l2, _, _, rfl, rfl, (ex_trans (ex_trans (e7) e8) e9) _ _ pl1, pl2, Evl.sz_of (n := 8) (by decide), fun near hnear => ?_⟩
  have pnear : upd I10 near (.lst [.ref a0, .ref a1, .ref a2, .ref a3, .ref a4, .ref a5, .ref a7, .ref a8]) near = some (.lst [.ref a0, .ref a1, .ref a2, .ref a3, .ref a4, .ref a5, .ref a7, .ref a8]) := upd_same
  have e10 := ex_new (o := .lst [.ref a0, .ref a1, .ref a2, .ref a3, .ref a4, .ref a5, .ref a7, .ref a8]) hnear
  dsimp only [List.cons_append, List.nil_append]
  generalize upd I10 near (.lst [.ref a0, .ref a1, .ref a2, .ref a3, .ref a4, .ref a5, .ref a7, .ref a8]) = I11 at pnear e10 ⊢
  refine ⟨_, rfl, _, rfl, fun a11 d11 ha11 hd11 n11 => ?_⟩
  obtain ⟨x11, e11⟩ := xmk_new (C := cA K 0) (fs := [(("number" : Str), .int z)]) ha11 hd11 n11
  generalize upd (upd I11 a11 (exv a11 (.ref (cA K 0)) (some d11))) d11 (.xd [(("number" : Str), .int z)]) = I12 at x11 e11 ⊢
  refine ⟨_, rfl, _, rfl, fun a12 d12 ha12 hd12 n12 => ?_⟩
  obtain ⟨x12, e12⟩ := xmk_new (C := cA K 1) (fs := [(("number" : Str), .int z)]) ha12 hd12 n12
  generalize upd (upd I12 a12 (exv a12 (.ref (cA K 1)) (some d12))) d12 (.xd [(("number" : Str), .int z)]) = I13 at x12 e12 ⊢
  refine ⟨_, rfl, _, rfl, fun a13 d13 ha13 hd13 n13 => ?_⟩
  obtain ⟨x13, e13⟩ := xmk_new (C := cA K 2) (fs := [(("name" : Str), .str t)]) ha13 hd13 n13
  generalize upd (upd I13 a13 (exv a13 (.ref (cA K 2)) (some d13))) d13 (.xd [(("name" : Str), .str t)]) = I14 at x13 e13 ⊢
  refine fun a14 ha14 => ?_
  obtain ⟨x14, e14⟩ := xmk0_new (C := cA K 3) ha14
  generalize upd I14 a14 (exv a14 (.ref (cA K 3)) none) = I15 at x14 e14 ⊢
  refine ⟨_, rfl, _, rfl, fun a15 d15 ha15 hd15 n15 => ?_⟩
  obtain ⟨x15, e15⟩ := xmk_new (C := cA K 4) (fs := [(("hold" : Str), .ref q)]) ha15 hd15 n15
  generalize upd (upd I15 a15 (exv a15 (.ref (cA K 4)) (some d15))) d15 (.xd [(("hold" : Str), .ref q)]) = I16 at x15 e15 ⊢
  refine ⟨Evl.sz_of (n := 5) (by decide), fun l3 hl3 => ?_⟩
  have pl3 : upd I16 l3 (.lst [.ref a11, .ref a12, .ref a13, .ref a14, .ref a15]) l3 = some (.lst [.ref a11, .ref a12, .ref a13, .ref a14, .ref a15]) := upd_same
  have e16 := ex_new (o := .lst [.ref a11, .ref a12, .ref a13, .ref a14, .ref a15]) hl3
  generalize upd I16 l3 (.lst [.ref a11, .ref a12, .ref a13, .ref a14, .ref a15]) = I17 at pl3 e16 ⊢
  refine ⟨_, rfl, ?_⟩
  refine ⟨_, rfl, _, rfl, fun a17 d17 ha17 hd17 n17 => ?_⟩
  obtain ⟨x17, e17⟩ := xmk_new (C := cA K 5) (fs := [(("name" : Str), .str t)]) ha17 hd17 n17
  generalize upd (upd I17 a17 (exv a17 (.ref (cA K 5)) (some d17))) d17 (.xd [(("name" : Str), .str t)]) = I18 at x17 e17 ⊢
  refine ⟨_, rfl, _, rfl, fun a18 d18 ha18 hd18 n18 => ?_⟩
  obtain ⟨x18, e18⟩ := xmk_new (C := cA K 6) (fs := [(("number" : Str), .int z)]) ha18 hd18 n18
  generalize upd (upd I18 a18 (exv a18 (.ref (cA K 6)) (some d18))) d18 (.xd [(("number" : Str), .int z)]) = I19 at x18 e18 ⊢
  refine fun a19 ha19 => ?_
  obtain ⟨x19, e19⟩ := xmk0_new (C := cA K 7) ha19
  generalize upd I19 a19 (exv a19 (.ref (cA K 7)) none) = I20 at x19 e19 ⊢
  refine ⟨Evl.sz_of (n := 3) (by decide), fun l4 hl4 => ?_⟩
  have pl4 : upd I20 l4 (.lst [.ref a17, .ref a18, .ref a19]) l4 = some (.lst [.ref a17, .ref a18, .ref a19]) := upd_same
  have e20 := ex_new (o := .lst [.ref a17, .ref a18, .ref a19]) hl4
  generalize upd I20 l4 (.lst [.ref a17, .ref a18, .ref a19]) = I21 at pl4 e20 ⊢
  refine ⟨l3, l4, _, _, rfl, rfl, (ex_trans (ex_trans (ex_trans (e17) e18) e19) e20) _ _ pl3, pl4, Evl.sz_of (n := 8) (by decide), fun far hfar => ?_⟩
  have pfar : upd I21 far (.lst [.ref a11, .ref a12, .ref a13, .ref a14, .ref a15, .ref a17, .ref a18, .ref a19]) far = some (.lst [.ref a11, .ref a12, .ref a13, .ref a14, .ref a15, .ref a17, .ref a18, .ref a19]) := upd_same
  have e21 := ex_new (o := .lst [.ref a11, .ref a12, .ref a13, .ref a14, .ref a15, .ref a17, .ref a18, .ref a19]) hfar
  dsimp only [List.cons_append, List.nil_append]
  generalize upd I21 far (.lst [.ref a11, .ref a12, .ref a13, .ref a14, .ref a15, .ref a17, .ref a18, .ref a19]) = I22 at pfar e21 ⊢
  have hN : Eight K I22 near z t q := ⟨a0, a1, a2, a3, a4, a5, a7, a8, (ex_trans (ex_trans (ex_trans (ex_trans (ex_trans (ex_trans (ex_trans (ex_trans (ex_trans (ex_trans (e11) e12) e13) e14) e15) e16) e17) e18) e19) e20) e21) _ _ pnear, x0.mono (ex_trans (ex_trans (ex_trans (ex_trans (ex_trans (ex_trans (ex_trans (ex_trans (ex_trans (ex_trans (ex_trans (ex_trans (ex_trans (ex_trans (ex_trans (ex_trans (ex_trans (ex_trans (ex_trans (ex_trans (e1) e2) e3) e4) e5) e6) e7) e8) e9) e10) e11) e12) e13) e14) e15) e16) e17) e18) e19) e20) e21), x1.mono (ex_trans (ex_trans (ex_trans (ex_trans (ex_trans (ex_trans (ex_trans (ex_trans (ex_trans (ex_trans (ex_trans (ex_trans (ex_trans (ex_trans (ex_trans (ex_trans (ex_trans (ex_trans (ex_trans (e2) e3) e4) e5) e6) e7) e8) e9) e10) e11) e12) e13) e14) e15) e16) e17) e18) e19) e20) e21), x2.mono (ex_trans (ex_trans (ex_trans (ex_trans (ex_trans (ex_trans (ex_trans (ex_trans (ex_trans (ex_trans (ex_trans (ex_trans (ex_trans (ex_trans (ex_trans (ex_trans (ex_trans (ex_trans (e3) e4) e5) e6) e7) e8) e9) e10) e11) e12) e13) e14) e15) e16) e17) e18) e19) e20) e21), (ex_trans (ex_trans (ex_trans (ex_trans (ex_trans (ex_trans (ex_trans (ex_trans (ex_trans (ex_trans (ex_trans (ex_trans (ex_trans (ex_trans (ex_trans (ex_trans (ex_trans (e4) e5) e6) e7) e8) e9) e10) e11) e12) e13) e14) e15) e16) e17) e18) e19) e20) e21) _ _ x3, x4.mono (ex_trans (ex_trans (ex_trans (ex_trans (ex_trans (ex_trans (ex_trans (ex_trans (ex_trans (ex_trans (ex_trans (ex_trans (ex_trans (ex_trans (ex_trans (ex_trans (e5) e6) e7) e8) e9) e10) e11) e12) e13) e14) e15) e16) e17) e18) e19) e20) e21), x5.mono (ex_trans (ex_trans (ex_trans (ex_trans (ex_trans (ex_trans (ex_trans (ex_trans (ex_trans (ex_trans (ex_trans (ex_trans (ex_trans (ex_trans (ex_trans (e6) e7) e8) e9) e10) e11) e12) e13) e14) e15) e16) e17) e18) e19) e20) e21), x7.mono (ex_trans (ex_trans (ex_trans (ex_trans (ex_trans (ex_trans (ex_trans (ex_trans (ex_trans (ex_trans (ex_trans (ex_trans (ex_trans (e8) e9) e10) e11) e12) e13) e14) e15) e16) e17) e18) e19) e20) e21), (ex_trans (ex_trans (ex_trans (ex_trans (ex_trans (ex_trans (ex_trans (ex_trans (ex_trans (ex_trans (ex_trans (ex_trans (e9) e10) e11) e12) e13) e14) e15) e16) e17) e18) e19) e20) e21) _ _ x8⟩
  have hF : Eight K I22 far z t q := ⟨a11, a12, a13, a14, a15, a17, a18, a19, pfar, x11.mono (ex_trans (ex_trans (ex_trans (ex_trans (ex_trans (ex_trans (ex_trans (ex_trans (ex_trans (e12) e13) e14) e15) e16) e17) e18) e19) e20) e21), x12.mono (ex_trans (ex_trans (ex_trans (ex_trans (ex_trans (ex_trans (ex_trans (ex_trans (e13) e14) e15) e16) e17) e18) e19) e20) e21), x13.mono (ex_trans (ex_trans (ex_trans (ex_trans (ex_trans (ex_trans (ex_trans (e14) e15) e16) e17) e18) e19) e20) e21), (ex_trans (ex_trans (ex_trans (ex_trans (ex_trans (ex_trans (e15) e16) e17) e18) e19) e20) e21) _ _ x14, x15.mono (ex_trans (ex_trans (ex_trans (ex_trans (ex_trans (e16) e17) e18) e19) e20) e21), x17.mono (ex_trans (ex_trans (ex_trans (e18) e19) e20) e21), x18.mono (ex_trans (ex_trans (e19) e20) e21), (ex_trans (e20) e21) _ _ x19⟩
  have eI : Ex I0 I22 := ex_trans (ex_trans (ex_trans (ex_trans (ex_trans (ex_trans (ex_trans (ex_trans (ex_trans (ex_trans (ex_trans (ex_trans (ex_trans (ex_trans (ex_trans (ex_trans (ex_trans (ex_trans (ex_trans (ex_trans (ex_trans (e0) e1) e2) e3) e4) e5) e6) e7) e8) e9) e10) e11) e12) e13) e14) e15) e16) e17) e18) e19) e20) e21
  have G1 : Fr p H I22 := G0.trans (Fr.ex eI)
  have dT1 := dp_mono eI dT
  clear e21 e20 e19 e18 e17 e16 e15 e14 e13 e12 e11 e10 e9 e8 e7 e6 e5 e4 e3 e2 e1 e0 pnear pfar
  generalize I22 = J0 at hN hF eI G1 dT1 ⊢
  obtain ⟨_, _, bm0, nw0, _, _, X0, _, _, _, _, _, _, no0⟩ := id M.m0
  obtain ⟨_, _, bm1, nw1, _, _, X1, _, _, _, _, _, _, no1⟩ := id M.m1
  obtain ⟨_, _, bm2, nw2, _, _, X2, _, _, _, _, _, _, no2⟩ := id M.m2
  obtain ⟨_, _, bm4, nw4, _, _, X4, _, _, _, _, _, _, no4⟩ := id M.m4
  obtain ⟨_, _, bm5, nw5, _, _, X5, _, _, _, _, _, _, no5⟩ := id M.m5
  obtain ⟨_, _, bm6, nw6, _, _, X6, _, _, _, _, _, _, no6⟩ := id M.m6
  refine ⟨_, rfl, _, rfl, Evl.sz_of (n := 2) (by decide), fun lp hlp => ?_⟩
  have eJ := ex_new (o := .lst [.ref near, .ref far]) hlp
  have pJ : upd J0 lp (.lst [.ref near, .ref far]) lp = some (.lst [.ref near, .ref far]) := upd_same
  generalize upd J0 lp (.lst [.ref near, .ref far]) = J1 at eJ pJ ⊢
  refine ⟨lp, rfl, ⟨_, .inl (.inl pJ)⟩, for_list (K := K) (a := lp) (xs := [.ref near, .ref far]) (fun i σ H' => ∃ v6 v7 : Option V, σ = [some (.ref p), some (.int z), some (.str t), some (.ref q), some (.ref near), some (.ref far), v6, v7, none, none] ∧ Ex J1 H')
    ⟨none, none, rfl, ex_refl _⟩ (fun i σ H' _ h => ?_) (fun i x σ H' hi h => ?_) (fun σ H' h => ?_)⟩
  · obtain ⟨_, _, _, e⟩ := h
    exact .inl (.inl (e _ _ pJ))
  · obtain ⟨v6, v7, rfl, eH⟩ := h
    obtain ⟨l, rfl, h8⟩ : ∃ l, x = .ref l ∧ Eight K H' l z t q := by
      match i, hi with
      | 0, hi => exact ⟨near, (Option.some.inj hi).symm, (hN.mono eJ).mono eH⟩
      | 1, hi => exact ⟨far, (Option.some.inj hi).symm, (hF.mono eJ).mono eH⟩
      | k + 2, hi => simp at hi
    have dT2 := dp_mono eH (dp_mono eJ dT1)
    obtain ⟨a0, a1, a2, a3, a4, a5, a6, a7, hl, x0, x1, x2, x3, x4, x5, x6, x7⟩ := id h8
    have SL : SqL K H' l [.ref a0, .ref a1, .ref a2, .ref a3, .ref a4, .ref a5, .ref a6, .ref a7] := .inl (.inl hl)
    refine ⟨_, rfl, l, _, _, _, rfl, rfl, SL, rfl, a0, cA K 0, bm0, nw0, _, _, rfl, x0, X0, no0, rfl, ?_⟩
    refine ⟨_, rfl, l, _, _, _, rfl, rfl, SL, rfl, a1, cA K 1, bm1, nw1, _, _, rfl, x1, X1, no1, rfl, ?_⟩
    refine ⟨_, rfl, l, _, _, _, rfl, rfl, SL, rfl, a2, cA K 2, bm2, nw2, _, _, rfl, x2, X2, no2, rfl, ?_⟩
    refine ⟨_, rfl, l, _, _, _, rfl, rfl, SL, rfl, a4, cA K 4, bm4, nw4, _, _, rfl, x4, X4, no4, rfl, ?_⟩
    refine ⟨_, rfl, l, _, _, _, rfl, rfl, SL, rfl, a5, cA K 5, bm5, nw5, _, _, rfl, x5, X5, no5, rfl, ?_⟩
    refine ⟨Evl.sz_of (n := 5) (by decide), fun g hg => ?_⟩
    have e1 := ex_new (o := .lst [.int z, .int z, .str t, .ref q, .str t]) hg
    have pg : upd H' g (.lst [.int z, .int z, .str t, .ref q, .str t]) g = some (.lst [.int z, .int z, .str t, .ref q, .str t]) := upd_same
    generalize upd H' g (.lst [.int z, .int z, .str t, .ref q, .str t]) = H6 at e1 pg ⊢
    have SL6 := Evl.ex_l e1 SL
    refine ⟨_, rfl, _, rfl, l, _, _, _, rfl, rfl, SL6, rfl, a6, cA K 6, bm6, nw6, _, _, rfl, x6.mono e1, X6, no6, rfl, Evl.sz_of (n := 1) (by decide), fun g2 hg2 => ?_⟩
    have e2 := ex_new (o := .lst [.int z]) hg2
    refine ⟨g, g2, _, _, rfl, rfl, e2 _ _ pg, upd_same, Evl.sz_of (n := 6) (by decide), fun g3 hg3 => ?_⟩
    have e3 := ex_newT (o := .lst [.int z, .int z, .str t, .ref q, .str t, .int z]) e2 hg3
    have pg3 : upd (upd H6 g2 (.lst [.int z])) g3 (.lst [.int z, .int z, .str t, .ref q, .str t, .int z]) g3 = some (.lst [.int z, .int z, .str t, .ref q, .str t, .int z]) := upd_same
    dsimp only [List.cons_append, List.nil_append]
    generalize upd (upd H6 g2 (.lst [.int z])) g3 (.lst [.int z, .int z, .str t, .ref q, .str t, .int z]) = H7 at e3 pg3 ⊢
    refine ⟨_, rfl, _, rfl, _, rfl, _, rfl, _, rfl, _, rfl, Evl.sz_of (n := 6) (by decide), fun g4 hg4 => ?_⟩
    have e4 := ex_new (o := .lst [.int z, .int z, .str t, .ref q, .str t, .int z]) hg4
    have pg4 : upd H7 g4 (.lst [.int z, .int z, .str t, .ref q, .str t, .int z]) g4 = some (.lst [.int z, .int z, .str t, .ref q, .str t, .int z]) := upd_same
    generalize upd H7 g4 (.lst [.int z, .int z, .str t, .ref q, .str t, .int z]) = H8 at e4 pg4 ⊢
    have e8 := ex_trans (ex_trans e1 e3) e4
    have dl : ∀ {g : Addr}, H8 g = some (.lst [.int z, .int z, .str t, .ref q, .str t, .int z]) → Dp K H8 (.ref g) (.list [.int z, .int z, .str t, .tuple [.str t, .str u, .str o], .str t, .int z]) := fun h =>
      .lst (.inl (.inl h)) (.cons (.int _) (.cons (.int _) (.cons (.str _) (.cons (dp_mono e8 dT2) (.cons (.str _) (.cons (.int _) .nil))))))
    refine ⟨_, _, .list [.int z, .int z, .str t, .tuple [.str t, .str u, .str o], .str t, .int z], rfl, ⟨by simp, fun d hd => ?_⟩, dl (e4 _ _ pg3), dl pg4, fun H9 e9 => ⟨true, rfl, ?_⟩⟩
    · simp only [List.mem_cons, List.not_mem_nil, or_false] at hd
      rcases hd with rfl | rfl | rfl | rfl | rfl | rfl
      all_goals first
        | trivial
        | (refine ⟨by simp, fun d hd => ?_⟩
           simp only [List.mem_cons, List.not_mem_nil, or_false] at hd
           rcases hd with rfl | rfl | rfl <;> trivial)
    have e10 := ex_trans e8 e9
    have SL9 := Evl.ex_l e10 SL
    have at8 : ∀ i, i < 8 → ∃ a, ([V.ref a0, V.ref a1, V.ref a2, V.ref a3, V.ref a4, V.ref a5, V.ref a6, V.ref a7])[i]? = some (.ref a) ∧ XA H9 a (cA K i) := fun i hi => by
      match i, hi with
      | 0, _ => exact ⟨a0, rfl, .inl ⟨_, x0.mono e10⟩⟩
      | 1, _ => exact ⟨a1, rfl, .inl ⟨_, x1.mono e10⟩⟩
      | 2, _ => exact ⟨a2, rfl, .inl ⟨_, x2.mono e10⟩⟩
      | 3, _ => exact ⟨a3, rfl, .inr (e10 _ _ x3)⟩
      | 4, _ => exact ⟨a4, rfl, .inl ⟨_, x4.mono e10⟩⟩
      | 5, _ => exact ⟨a5, rfl, .inl ⟨_, x5.mono e10⟩⟩
      | 6, _ => exact ⟨a6, rfl, .inl ⟨_, x6.mono e10⟩⟩
      | 7, _ => exact ⟨a7, rfl, .inr (e10 _ _ x7)⟩
    refine ⟨_, rfl, l, _, rfl, SL9, fun D hD => ?_⟩
    refine lc_it (walk_enum (K := K) (a := l) (xs := [V.ref a0, V.ref a1, V.ref a2, V.ref a3, V.ref a4, V.ref a5, V.ref a6, V.ref a7])) (fun i Hc => Ex H9 Hc ∧ Hc D = some (.lst (List.replicate i (V.bl true)))) ⟨ex_new hD, upd_same⟩ (fun i Hc _ p => Evl.ex_l p.1 SL9) (fun i v Hc Hd hi pp y => ?_) (fun Hc pp => ?_)
    · obtain ⟨T', y1, y2, rfl, nT, rfl, f1, f2⟩ := y
      obtain ⟨p1, p2⟩ := pp
      have ey1 : y1 = .int (i : Int) := (Option.some.inj f1).symm
      subst ey1
      have hi8 : i < 8 := hi
      obtain ⟨a, ha, hx⟩ := at8 i hi8
      have ey2 : y2 = .ref a := Option.some.inj (f2.symm.trans ha)
      subst ey2
      have e11 := ex_newT (o := .tup [.int (i : Int), .ref a]) p1 nT
      refine ⟨T', [_, _], rfl, .inl (.inl upd_same), rfl, _, [_], rfl, _, [], rfl, rfl, rfl, ?_⟩
      refine ⟨_, rfl, _, rfl, a, i, rfl, hi8, hx.mono e11, fun Hf ef => ⟨List.replicate i (V.bl true), ef _ _ (ex_new nT _ _ p2), ?_, ex_mut (ex_trans e11 ef) hD, ?_⟩⟩
      · rw [List.length_replicate]
        exact Evl.sz_lt (by omega)
      · rw [upd_same, List.replicate_succ']
    · obtain ⟨p1, p2⟩ := pp
      refine ⟨D, List.replicate 8 true, rfl, .inl (.inl p2), true, rfl, ?_⟩
      exact ⟨_, _, rfl, ex_trans eH (ex_trans e10 p1)⟩
  · obtain ⟨v6, v7, rfl, eH⟩ := h
    have dT2 := dp_mono eH (dp_mono eJ dT1)
    refine ⟨_, rfl, _, rfl, _, _, .tuple [.str t, .str u, .str o], .str t, rfl, ?_, trivial, dT2, .str _, fun H9 e9 => go_and rfl ?_⟩
    · refine ⟨by simp, fun d hd => ?_⟩
      simp only [List.mem_cons, List.not_mem_nil, or_false] at hd
      rcases hd with rfl | rfl | rfl <;> trivial
    refine ⟨_, _, rfl, rfl, ⟨by decide, by decide, by decide⟩, _, rfl, fun a d ha hd n => ?_⟩
    obtain ⟨xx, ee⟩ := xmk_new (C := cA K 1) (fs := [(("number" : Str), .int ((10 : Int) ^ (9 : Int).toNat))]) ha hd n
    refine ⟨a, cA K 1, bm1, nw1, _, _, rfl, xx, X1, no1, rfl, _, _, rfl, rfl, ⟨by decide, by decide, by decide⟩, _, _, .int ((10 : Int) ^ (9 : Int).toNat), rfl, trivial, .int _, .int _, fun H' e' => ?_⟩
    exact k H' (G1.trans (Fr.ex (ex_trans (ex_trans (ex_trans (ex_trans eJ eH) e9) ee) e')))
end
end TR

namespace TR
open PySem PySem.Spec PyProof.Rows L2
abbrev sLaw : Stmt := topS 19
abbrev nLaw : List Str := ["_law_script", "_law_cells_here", "_law_nth_so"]
theorem scLaw : FnScope nLaw ["_law_script"] (defScope sLaw) := ⟨rfl, rfl, rfl, by decide +kernel, rfl, by decide +kernel, by decide +kernel⟩
def spLaw (K : PySem.W.Frag) : Sp := fun vs H Q _ => ∃ (a : Addr) (ns : List Int), vs = [.ref a] ∧ SqL K H a (ns.map V.int) ∧ ns.length ≤ 63 ∧ ∀ H', Q (.bl true) H'
section
variable {P : Program} {w : World} {K : PySem.W.Frag} {mg : Str → Option Value} {base : Heap} {f : Addr} {fd : FuncData}
theorem ok_law {k : Nat} (F : FnP K "law" "law" sLaw f fd) (B : Bi mg) (c_cells : Cal P w K mg base k "_law_cells" ["_law_script", "_law_top_so"] (spCells K)) (c_box : Cal P w K mg base k "_law_box" ["_law_script", "_law_nth_so"] (spBox K)) (c_right : Cal P w K mg base k "_law_right" ["_law_box_here"] spRight) :
    FnOk P w K mg base CX0 (k + 1) f fd ["_law_script"] (spLaw K) := by
  refine F.ok scLaw (fun vs H Q E h => ?_) (fun cdv A outer s H vs Q E hr h => ?_)
  · obtain ⟨a, ns, rfl, _⟩ := h
    rfl
  obtain ⟨a, ns, rfl, hS, hl, k⟩ := h
  refine ⟨_, PSs.nox (pss_cons (ps_set (i := 1) scLaw.nd rfl (Or.inr rfl) (pe_cal c_cells hr (by rfl) (pa_cons (pv 0) (pa_cons pe_int pa_nil))))
    (pss_one (ps_ret (pe_callB (cr_all rfl) (by rfl) B.all PyProof.Rows.boot_all (pa_cons (pe_lc (own := [("_law_nth_so", 2)]) (g := gName 2) rfl scLaw.nd (pi_range1 (by rfl) B.range (pa_cons (pe_callB call_len_seq (by rfl) B.len PySem.boot_len (pa_cons (pv 1) pa_nil)) pa_nil))
      (blkOk_by (N := nLaw) (sc := defScope sLaw) (by decide +kernel)) (fun _ _ _ _ _ => pg_name (i := 2) scLaw.nd rfl (Or.inl rfl) (Or.inr rfl)) (fun _ _ _ _ _ => pts_nil)
      (fun _ _ _ _ _ => pe_cal c_right hr (by rfl) (pa_cons (pe_cal c_box hr (by rfl) (pa_cons (pv 1) (pa_cons (pv 2) pa_nil))) pa_nil))) pa_nil))))), ?_⟩
  refine ⟨_, rfl, a, ns, 3, rfl, by decide, by decide, hS, hl, fun c cs H1 nc e1 hc c0 c3 => ?_⟩
  have SC : SqL K H1 c (cs.map V.int) := .inl (.inl hc)
  refine ⟨_, rfl, c, _, rfl, .inl SC, ((cs.map V.int).length : Int), rfl, by omega, by rw [List.length_map]; omega, fun D hD => ?_⟩
  have hlen : (((cs.map V.int).length : Nat) : Int).toNat = cs.length := by
    rw [List.length_map]
    exact Int.toNat_natCast _
  rw [hlen]
  refine lc_range (lo := 0) (n := cs.length) (fun i Hc => Ex H1 Hc ∧ Hc D = some (.lst (List.replicate i (V.bl true)))) ⟨ex_new hD, upd_same⟩ (fun i Hc hi p => ?_) (fun Hc p => ?_)
  · obtain ⟨p1, p2⟩ := p
    have e0 : (0 : Int) + (i : Int) = (i : Int) := Int.zero_add _
    rw [e0]
    refine ⟨rfl, _, rfl, _, rfl, c, cs, i, rfl, Evl.ex_l p1 SC, hi, by omega, fun b H2 nb e2 hB => ?_⟩
    refine ⟨b, 0, rfl, hB, by decide, fun H3 fr => ?_⟩
    have keep : ∀ q o, Hc q = some o → H3 q = some o := fun q o e => fr q o (ne_of_none e nb) (e2 q o e)
    refine ⟨List.replicate i (V.bl true), keep _ _ p2, ?_, ex_mut (ex_trans p1 keep) hD, ?_⟩
    · rw [List.length_replicate]
      exact Evl.sz_lt (by omega)
    · rw [upd_same, List.replicate_succ']
  · obtain ⟨p1, p2⟩ := p
    refine ⟨D, List.replicate cs.length true, rfl, .inl (.inl (by rw [p2, List.map_replicate])), ?_⟩
    rw [show (List.replicate cs.length true).all id = true by simp]
    exact k Hc
end
end TR

namespace TR
open PySem PySem.Spec PyProof.Rows L2

abbrev iBadLine : Stmt := inClass (topS 5) 0
theorem scBadLine : FnScope ["self", "number"] ["self", "number"] (defScope iBadLine) := ⟨rfl, rfl, rfl, by decide +kernel, rfl, by decide +kernel, by decide +kernel⟩
theorem mkBadLine {P : Program} {w : World} {K : PySem.W.Frag} {mg : Str → Option Value} {base : Heap} {fd : FuncData} (F : FunD K "__init__" "BadLine.__init__" (defArgs iBadLine) (defBody iBadLine) (defScope iBadLine) [] [] (He.fAd K ("BadLine", some "__init__")) fd)
    (T : XCls K (He.ga K "BadLine") veB "ValueError.__new__") (I : xiniB K "BadLine" "number" = true) : XMk P w K mg base (He.ga K "BadLine") "number" := by
  obtain ⟨iC, tI, no⟩ := xiniB_ok I
  refine ⟨_, fd, veB, _, "ValueError", _, T, PySem.F.excBase_ValueError, iC, tI, ?_, F.bindsN fun _ _ _ _ _ _ us hl => match us, hl with | [_, _], _ => rfl, fun s u v _ => ?_, no⟩
  · refine F.ok scBadLine (fun vs H Q E h => ?_) (fun cdv A outer s H vs Q E hr h => ⟨_, PSs.nox (pss_one (ps_xst (pv 0) (pv 1))), ?_⟩)
    · obtain ⟨a, y, rfl, _⟩ := h
      rfl
    · obtain ⟨a, y, rfl, ha, k⟩ := h
      exact ⟨_, rfl, _, rfl, a, _, _, _, "ValueError", rfl, T, PySem.F.store_ValueError, no, ha, fun dx n1 n2 => k dx n1 n2⟩
  · obtain ⟨oc, od, dV, kV, doc, pm, an, cdv, ct, osl, rfl, lk, hcd, hD, hK⟩ := F.ex
    rcases hD with ⟨_, rfl⟩ | ⟨e, _⟩
    · exact .of_eq rfl
    · exact absurd rfl e
abbrev iBarred : Stmt := inClass (topS 6) 0
theorem scBarred : FnScope ["self", "number"] ["self", "number"] (defScope iBarred) := ⟨rfl, rfl, rfl, by decide +kernel, rfl, by decide +kernel, by decide +kernel⟩
theorem mkBarred {P : Program} {w : World} {K : PySem.W.Frag} {mg : Str → Option Value} {base : Heap} {fd : FuncData} (F : FunD K "__init__" "Barred.__init__" (defArgs iBarred) (defBody iBarred) (defScope iBarred) [] [] (He.fAd K ("Barred", some "__init__")) fd)
    (T : XCls K (He.ga K "Barred") veB "ValueError.__new__") (I : xiniB K "Barred" "number" = true) : XMk P w K mg base (He.ga K "Barred") "number" := by
  obtain ⟨iC, tI, no⟩ := xiniB_ok I
  refine ⟨_, fd, veB, _, "ValueError", _, T, PySem.F.excBase_ValueError, iC, tI, ?_, F.bindsN fun _ _ _ _ _ _ us hl => match us, hl with | [_, _], _ => rfl, fun s u v _ => ?_, no⟩
  · refine F.ok scBarred (fun vs H Q E h => ?_) (fun cdv A outer s H vs Q E hr h => ⟨_, PSs.nox (pss_one (ps_xst (pv 0) (pv 1))), ?_⟩)
    · obtain ⟨a, y, rfl, _⟩ := h
      rfl
    · obtain ⟨a, y, rfl, ha, k⟩ := h
      exact ⟨_, rfl, _, rfl, a, _, _, _, "ValueError", rfl, T, PySem.F.store_ValueError, no, ha, fun dx n1 n2 => k dx n1 n2⟩
  · obtain ⟨oc, od, dV, kV, doc, pm, an, cdv, ct, osl, rfl, lk, hcd, hD, hK⟩ := F.ex
    rcases hD with ⟨_, rfl⟩ | ⟨e, _⟩
    · exact .of_eq rfl
    · exact absurd rfl e
abbrev iTwice : Stmt := inClass (topS 7) 0
theorem scTwice : FnScope ["self", "name"] ["self", "name"] (defScope iTwice) := ⟨rfl, rfl, rfl, by decide +kernel, rfl, by decide +kernel, by decide +kernel⟩
theorem mkTwice {P : Program} {w : World} {K : PySem.W.Frag} {mg : Str → Option Value} {base : Heap} {fd : FuncData} (F : FunD K "__init__" "Twice.__init__" (defArgs iTwice) (defBody iTwice) (defScope iTwice) [] [] (He.fAd K ("Twice", some "__init__")) fd)
    (T : XCls K (He.ga K "Twice") veB "ValueError.__new__") (I : xiniB K "Twice" "name" = true) : XMk P w K mg base (He.ga K "Twice") "name" := by
  obtain ⟨iC, tI, no⟩ := xiniB_ok I
  refine ⟨_, fd, veB, _, "ValueError", _, T, PySem.F.excBase_ValueError, iC, tI, ?_, F.bindsN fun _ _ _ _ _ _ us hl => match us, hl with | [_, _], _ => rfl, fun s u v _ => ?_, no⟩
  · refine F.ok scTwice (fun vs H Q E h => ?_) (fun cdv A outer s H vs Q E hr h => ⟨_, PSs.nox (pss_one (ps_xst (pv 0) (pv 1))), ?_⟩)
    · obtain ⟨a, y, rfl, _⟩ := h
      rfl
    · obtain ⟨a, y, rfl, ha, k⟩ := h
      exact ⟨_, rfl, _, rfl, a, _, _, _, "ValueError", rfl, T, PySem.F.store_ValueError, no, ha, fun dx n1 n2 => k dx n1 n2⟩
  · obtain ⟨oc, od, dV, kV, doc, pm, an, cdv, ct, osl, rfl, lk, hcd, hD, hK⟩ := F.ex
    rcases hD with ⟨_, rfl⟩ | ⟨e, _⟩
    · exact .of_eq rfl
    · exact absurd rfl e
abbrev iNoHold : Stmt := inClass (topS 1) 0
theorem scNoHold : FnScope ["self", "hold"] ["self", "hold"] (defScope iNoHold) := ⟨rfl, rfl, rfl, by decide +kernel, rfl, by decide +kernel, by decide +kernel⟩
theorem mkNoHold {P : Program} {w : World} {K : PySem.W.Frag} {mg : Str → Option Value} {base : Heap} {fd : FuncData} (F : FunD K "__init__" "NoHold.__init__" (defArgs iNoHold) (defBody iNoHold) (defScope iNoHold) [] [] (He.fAd K ("NoHold", some "__init__")) fd)
    (T : XCls K (He.ga K "NoHold") leB "LookupError.__new__") (I : xiniB K "NoHold" "hold" = true) : XMk P w K mg base (He.ga K "NoHold") "hold" := by
  obtain ⟨iC, tI, no⟩ := xiniB_ok I
  refine ⟨_, fd, leB, _, "LookupError", _, T, PySem.F.excBase_LookupError, iC, tI, ?_, F.bindsN fun _ _ _ _ _ _ us hl => match us, hl with | [_, _], _ => rfl, fun s u v _ => ?_, no⟩
  · refine F.ok scNoHold (fun vs H Q E h => ?_) (fun cdv A outer s H vs Q E hr h => ⟨_, PSs.nox (pss_one (ps_xst (pv 0) (pv 1))), ?_⟩)
    · obtain ⟨a, y, rfl, _⟩ := h
      rfl
    · obtain ⟨a, y, rfl, ha, k⟩ := h
      exact ⟨_, rfl, _, rfl, a, _, _, _, "LookupError", rfl, T, PySem.F.store_LookupError, no, ha, fun dx n1 n2 => k dx n1 n2⟩
  · obtain ⟨oc, od, dV, kV, doc, pm, an, cdv, ct, osl, rfl, lk, hcd, hD, hK⟩ := F.ex
    rcases hD with ⟨_, rfl⟩ | ⟨e, _⟩
    · exact .of_eq rfl
    · exact absurd rfl e
abbrev iNoMember : Stmt := inClass (topS 2) 0
theorem scNoMember : FnScope ["self", "name"] ["self", "name"] (defScope iNoMember) := ⟨rfl, rfl, rfl, by decide +kernel, rfl, by decide +kernel, by decide +kernel⟩
theorem mkNoMember {P : Program} {w : World} {K : PySem.W.Frag} {mg : Str → Option Value} {base : Heap} {fd : FuncData} (F : FunD K "__init__" "NoMember.__init__" (defArgs iNoMember) (defBody iNoMember) (defScope iNoMember) [] [] (He.fAd K ("NoMember", some "__init__")) fd)
    (T : XCls K (He.ga K "NoMember") leB "LookupError.__new__") (I : xiniB K "NoMember" "name" = true) : XMk P w K mg base (He.ga K "NoMember") "name" := by
  obtain ⟨iC, tI, no⟩ := xiniB_ok I
  refine ⟨_, fd, leB, _, "LookupError", _, T, PySem.F.excBase_LookupError, iC, tI, ?_, F.bindsN fun _ _ _ _ _ _ us hl => match us, hl with | [_, _], _ => rfl, fun s u v _ => ?_, no⟩
  · refine F.ok scNoMember (fun vs H Q E h => ?_) (fun cdv A outer s H vs Q E hr h => ⟨_, PSs.nox (pss_one (ps_xst (pv 0) (pv 1))), ?_⟩)
    · obtain ⟨a, y, rfl, _⟩ := h
      rfl
    · obtain ⟨a, y, rfl, ha, k⟩ := h
      exact ⟨_, rfl, _, rfl, a, _, _, _, "LookupError", rfl, T, PySem.F.store_LookupError, no, ha, fun dx n1 n2 => k dx n1 n2⟩
  · obtain ⟨oc, od, dV, kV, doc, pm, an, cdv, ct, osl, rfl, lk, hcd, hD, hK⟩ := F.ex
    rcases hD with ⟨_, rfl⟩ | ⟨e, _⟩
    · exact .of_eq rfl
    · exact absurd rfl e
abbrev iNoNumber : Stmt := inClass (topS 3) 0
theorem scNoNumber : FnScope ["self", "number"] ["self", "number"] (defScope iNoNumber) := ⟨rfl, rfl, rfl, by decide +kernel, rfl, by decide +kernel, by decide +kernel⟩
theorem mkNoNumber {P : Program} {w : World} {K : PySem.W.Frag} {mg : Str → Option Value} {base : Heap} {fd : FuncData} (F : FunD K "__init__" "NoNumber.__init__" (defArgs iNoNumber) (defBody iNoNumber) (defScope iNoNumber) [] [] (He.fAd K ("NoNumber", some "__init__")) fd)
    (T : XCls K (He.ga K "NoNumber") leB "LookupError.__new__") (I : xiniB K "NoNumber" "number" = true) : XMk P w K mg base (He.ga K "NoNumber") "number" := by
  obtain ⟨iC, tI, no⟩ := xiniB_ok I
  refine ⟨_, fd, leB, _, "LookupError", _, T, PySem.F.excBase_LookupError, iC, tI, ?_, F.bindsN fun _ _ _ _ _ _ us hl => match us, hl with | [_, _], _ => rfl, fun s u v _ => ?_, no⟩
  · refine F.ok scNoNumber (fun vs H Q E h => ?_) (fun cdv A outer s H vs Q E hr h => ⟨_, PSs.nox (pss_one (ps_xst (pv 0) (pv 1))), ?_⟩)
    · obtain ⟨a, y, rfl, _⟩ := h
      rfl
    · obtain ⟨a, y, rfl, ha, k⟩ := h
      exact ⟨_, rfl, _, rfl, a, _, _, _, "LookupError", rfl, T, PySem.F.store_LookupError, no, ha, fun dx n1 n2 => k dx n1 n2⟩
  · obtain ⟨oc, od, dV, kV, doc, pm, an, cdv, ct, osl, rfl, lk, hcd, hD, hK⟩ := F.ex
    rcases hD with ⟨_, rfl⟩ | ⟨e, _⟩
    · exact .of_eq rfl
    · exact absurd rfl e
/-- what the written part must be -/
def test00 (K : PySem.W.Frag) : Bool :=
  [xclsB K (He.ga K "BadLine") veB "ValueError.__new__",
   xclsB K (He.ga K "Barred") veB "ValueError.__new__",
   xclsB K (He.ga K "Twice") veB "ValueError.__new__",
   xclsB K (He.ga K "Unfit") veB "ValueError.__new__",
   xclsB K (He.ga K "NoHold") leB "LookupError.__new__",
   xclsB K (He.ga K "NoMember") leB "LookupError.__new__",
   xclsB K (He.ga K "NoNumber") leB "LookupError.__new__",
   xclsB K (He.ga K "NothingDone") leB "LookupError.__new__",
   xiniB K "BadLine" "number",
   xiniB K "Barred" "number",
   xiniB K "Twice" "name",
   PySem.W.excIn K (He.ga K "Unfit") veB "ValueError.__new__",
   xiniB K "NoHold" "hold",
   xiniB K "NoMember" "name",
   xiniB K "NoNumber" "number",
   PySem.W.excIn K (He.ga K "NothingDone") leB "LookupError.__new__",
   ((List.range 8).all fun i => (List.range 8).all fun j => decide (PySem.W.kitOne K (.ref (cA K i)) (.ref (cA K j)) = some (decide (i = j)))),
   ((List.range 8).all fun i => decide (PySem.W.kitOne K (.ref (cA K i)) (.type "ValueError") = some (decide ((i : Int) < 4)))),
   ((List.range 8).all fun i => decide (PySem.W.kitOne K (.ref (cA K i)) (.type "LookupError") = some (decide ((3 : Int) < (i : Int))))),
   ((List.range 8).all fun i => decide (PySem.W.kitAny K (.ref (cA K i)) [.type "KeyError", .type "IndexError"] = some false)),
   decide (PySem.W.exmOne K (.ref (cA K 4)) (.ref (cA K 4)) = some true),
   decide (PySem.W.exmOne K (.ref (cA K 5)) (.ref (cA K 5)) = some true)].all id
def d_ (x : Str) (i : Nat) : He.DefD := ⟨(x, none), x, x, defArgs (topS i), defBody (topS i), defScope (topS i), [], []⟩
def dI (x : Str) (q : Str) (i : Nat) : He.DefD := ⟨(x, some "__init__"), "__init__", q, defArgs (inClass (topS i) 0), defBody (inClass (topS i) 0), defScope (inClass (topS i) 0), [], []⟩
def fn00 : List He.DefD := [d_ "_law_box" 10, d_ "_law_take" 11, d_ "_law_cells" 12, d_ "_law_same" 13, d_ "_law_of" 14, d_ "_law_which" 15, d_ "_law_place_right" 16, d_ "_law_caught" 17, d_ "_law_right" 18, d_ "law" 19, dI "BadLine" "BadLine.__init__" 5, dI "Barred" "Barred.__init__" 6, dI "Twice" "Twice.__init__" 7, dI "NoHold" "NoHold.__init__" 1, dI "NoMember" "NoMember.__init__" 2, dI "NoNumber" "NoNumber.__init__" 3]
def fa00 : List He.Fa := [.glo "_law_box", .glo "_law_take", .glo "_law_cells", .glo "_law_same", .glo "_law_of", .glo "_law_which", .glo "_law_place_right", .glo "_law_caught", .glo "_law_right", .glo "law", .glo "BadLine", .glo "Barred", .glo "Twice", .glo "Unfit", .glo "NoHold", .glo "NoMember", .glo "NoNumber", .glo "NothingDone", .free "isinstance", .free "list", .free "tuple", .free "bool", .free "str", .free "int", .free "abs", .free "len", .free "all", .free "zip", .free "enumerate", .free "range", .free "ValueError", .free "LookupError", .free "KeyError", .free "IndexError"]
abbrev R00 : PySem.W.OpenRow := PySem.W.OpenLaw.row PySem.Challenge.rw_touchrights_k00_errors_made_by_hand
abbrev hk00 : PySem.W.Hook := hookM 5 fa00 fn00 test00
def ob00 (s : PySem.W.SharedT) : AlM := obsMG 5 fa00 fn00 test00 (HandSHeadRun.getT s)
theorem ob00_eq (s : PySem.W.SharedT) : ob00 s = hk00.obs s.abs := obsMG_eq (HandSHeadRun.getT_eq s)
def loose00 : List Str := ["BadLine", "Barred", "Twice", "Unfit", "NoHold", "NoMember", "NoNumber", "NothingDone", "_law_box", "_law_take", "_law_cells", "_law_same", "_law_of", "_law_which", "_law_place_right", "_law_caught", "_law_right"]
theorem run00 (w : World) : HandSHeadRun.RunEq R00 (PySem.W.view R00.prog [19]) hk00 ob00 4000 loose00 w := by
  intro os
  kernel_rfl
end TR

namespace TR
open PySem PySem.Spec PyProof.Rows L2
theorem all_of {bs : List Bool} (h : bs.all id = true) (i : Nat) {b : Bool} (e : bs[i]? = some b) : b = true := List.all_eq_true.mp h b (List.mem_of_getElem? e)
theorem range_of {n : Nat} {f : Nat → Bool} (h : (List.range n).all f = true) (i : Nat) (hi : i < n) : f i = true := List.all_eq_true.mp h i (List.mem_range.mpr hi)
theorem facts00 {P : Program} {w : World} {K : PySem.W.Frag} {h : Heap} {mg : Str → Option Value} {f : Addr} (X : K.In h) (G : h.Ns mainGlobals mg) (hfa : mg ("law" : Str) = some (.ref f)) (t : test00 K = true) (c : He.SaysD fa00 fn00 K) :
    ∃ fd : FuncData, (∀ (s : Shared) (v : Value), BindsTo s fd ⟨[v], []⟩ [("_law_script", v)]) ∧ ∀ base : Heap, K.In base → base.Ns mainGlobals mg → FnOk P w K mg base CX0 9 f fd ["_law_script"] (spLaw K) := by
  obtain ⟨fd_box, F_box⟩ := c.def_ 0 (d := d_ "_law_box" 10) rfl
  obtain ⟨fd_take, F_take⟩ := c.def_ 1 (d := d_ "_law_take" 11) rfl
  obtain ⟨fd_cells, F_cells⟩ := c.def_ 2 (d := d_ "_law_cells" 12) rfl
  obtain ⟨fd_same, F_same⟩ := c.def_ 3 (d := d_ "_law_same" 13) rfl
  obtain ⟨fd_of, F_of⟩ := c.def_ 4 (d := d_ "_law_of" 14) rfl
  obtain ⟨fd_which, F_which⟩ := c.def_ 5 (d := d_ "_law_which" 15) rfl
  obtain ⟨fd_place_right, F_place_right⟩ := c.def_ 6 (d := d_ "_law_place_right" 16) rfl
  obtain ⟨fd_caught, F_caught⟩ := c.def_ 7 (d := d_ "_law_caught" 17) rfl
  obtain ⟨fd_right, F_right⟩ := c.def_ 8 (d := d_ "_law_right" 18) rfl
  obtain ⟨fd_law, F_law⟩ := c.def_ 9 (d := d_ "law" 19) rfl
  obtain ⟨fd_BadLine, F_BadLine⟩ := c.def_ 10 (d := dI "BadLine" "BadLine.__init__" 5) rfl
  obtain ⟨fd_Barred, F_Barred⟩ := c.def_ 11 (d := dI "Barred" "Barred.__init__" 6) rfl
  obtain ⟨fd_Twice, F_Twice⟩ := c.def_ 12 (d := dI "Twice" "Twice.__init__" 7) rfl
  obtain ⟨fd_NoHold, F_NoHold⟩ := c.def_ 13 (d := dI "NoHold" "NoHold.__init__" 1) rfl
  obtain ⟨fd_NoMember, F_NoMember⟩ := c.def_ 14 (d := dI "NoMember" "NoMember.__init__" 2) rfl
  obtain ⟨fd_NoNumber, F_NoNumber⟩ := c.def_ 15 (d := dI "NoNumber" "NoNumber.__init__" 3) rfl
  have g_box := He.glo_ok X G (c.fact 0 (f := .glo "_law_box") rfl)
  have g_take := He.glo_ok X G (c.fact 1 (f := .glo "_law_take") rfl)
  have g_cells := He.glo_ok X G (c.fact 2 (f := .glo "_law_cells") rfl)
  have g_same := He.glo_ok X G (c.fact 3 (f := .glo "_law_same") rfl)
  have g_of := He.glo_ok X G (c.fact 4 (f := .glo "_law_of") rfl)
  have g_which := He.glo_ok X G (c.fact 5 (f := .glo "_law_which") rfl)
  have g_place_right := He.glo_ok X G (c.fact 6 (f := .glo "_law_place_right") rfl)
  have g_caught := He.glo_ok X G (c.fact 7 (f := .glo "_law_caught") rfl)
  have g_right := He.glo_ok X G (c.fact 8 (f := .glo "_law_right") rfl)
  have g_law := He.glo_ok X G (c.fact 9 (f := .glo "law") rfl)
  have g_BadLine := He.glo_ok X G (c.fact 10 (f := .glo "BadLine") rfl)
  have g_Barred := He.glo_ok X G (c.fact 11 (f := .glo "Barred") rfl)
  have g_Twice := He.glo_ok X G (c.fact 12 (f := .glo "Twice") rfl)
  have g_Unfit := He.glo_ok X G (c.fact 13 (f := .glo "Unfit") rfl)
  have g_NoHold := He.glo_ok X G (c.fact 14 (f := .glo "NoHold") rfl)
  have g_NoMember := He.glo_ok X G (c.fact 15 (f := .glo "NoMember") rfl)
  have g_NoNumber := He.glo_ok X G (c.fact 16 (f := .glo "NoNumber") rfl)
  have g_NothingDone := He.glo_ok X G (c.fact 17 (f := .glo "NothingDone") rfl)
  have b_isinstance := He.free_ok X G (c.fact 18 (f := .free "isinstance") rfl)
  have b_list := He.free_ok X G (c.fact 19 (f := .free "list") rfl)
  have b_tuple := He.free_ok X G (c.fact 20 (f := .free "tuple") rfl)
  have b_bool := He.free_ok X G (c.fact 21 (f := .free "bool") rfl)
  have b_str := He.free_ok X G (c.fact 22 (f := .free "str") rfl)
  have b_int := He.free_ok X G (c.fact 23 (f := .free "int") rfl)
  have b_abs := He.free_ok X G (c.fact 24 (f := .free "abs") rfl)
  have b_len := He.free_ok X G (c.fact 25 (f := .free "len") rfl)
  have b_all := He.free_ok X G (c.fact 26 (f := .free "all") rfl)
  have b_zip := He.free_ok X G (c.fact 27 (f := .free "zip") rfl)
  have b_enumerate := He.free_ok X G (c.fact 28 (f := .free "enumerate") rfl)
  have b_range := He.free_ok X G (c.fact 29 (f := .free "range") rfl)
  have b_ValueError := He.free_ok X G (c.fact 30 (f := .free "ValueError") rfl)
  have b_LookupError := He.free_ok X G (c.fact 31 (f := .free "LookupError") rfl)
  have b_KeyError := He.free_ok X G (c.fact 32 (f := .free "KeyError") rfl)
  have b_IndexError := He.free_ok X G (c.fact 33 (f := .free "IndexError") rfl)
  have B : Bi mg := ⟨b_isinstance, b_list, b_tuple, b_bool, b_str, b_int, b_abs, b_len, b_all, b_zip, b_enumerate, b_range⟩
  have X_BadLine : XCls K (He.ga K "BadLine") veB "ValueError.__new__" := xclsB_ok (all_of t 0 rfl)
  have X_Barred : XCls K (He.ga K "Barred") veB "ValueError.__new__" := xclsB_ok (all_of t 1 rfl)
  have X_Twice : XCls K (He.ga K "Twice") veB "ValueError.__new__" := xclsB_ok (all_of t 2 rfl)
  have X_Unfit : XCls K (He.ga K "Unfit") veB "ValueError.__new__" := xclsB_ok (all_of t 3 rfl)
  have X_NoHold : XCls K (He.ga K "NoHold") leB "LookupError.__new__" := xclsB_ok (all_of t 4 rfl)
  have X_NoMember : XCls K (He.ga K "NoMember") leB "LookupError.__new__" := xclsB_ok (all_of t 5 rfl)
  have X_NoNumber : XCls K (He.ga K "NoNumber") leB "LookupError.__new__" := xclsB_ok (all_of t 6 rfl)
  have X_NothingDone : XCls K (He.ga K "NothingDone") leB "LookupError.__new__" := xclsB_ok (all_of t 7 rfl)
  have XT : XTxt K mg := {
    g := fun i => by
      match i with
      | 0 => exact g_BadLine
      | 1 => exact g_Barred
      | 2 => exact g_Twice
      | 3 => exact g_Unfit
      | 4 => exact g_NoHold
      | 5 => exact g_NoMember
      | 6 => exact g_NoNumber
      | n + 7 => exact g_NothingDone
    xc := fun i => by
      match i with
      | 0 => exact ⟨_, _, X_BadLine⟩
      | 1 => exact ⟨_, _, X_Barred⟩
      | 2 => exact ⟨_, _, X_Twice⟩
      | 3 => exact ⟨_, _, X_Unfit⟩
      | 4 => exact ⟨_, _, X_NoHold⟩
      | 5 => exact ⟨_, _, X_NoMember⟩
      | 6 => exact ⟨_, _, X_NoNumber⟩
      | n + 7 => exact ⟨_, _, X_NothingDone⟩
    own := fun i j hi hj => of_decide_eq_true (range_of (range_of (all_of t 16 rfl) i hi) j hj)
    isV := fun i hi => of_decide_eq_true (range_of (all_of t 17 rfl) i hi)
    isL := fun i hi => of_decide_eq_true (range_of (all_of t 18 rfl) i hi)
    isKI := fun i hi => of_decide_eq_true (range_of (all_of t 19 rfl) i hi)
    ex4 := of_decide_eq_true (all_of t 20 rfl)
    ex5 := of_decide_eq_true (all_of t 21 rfl)
    bV := b_ValueError
    bL := b_LookupError
    bK := b_KeyError
    bI := b_IndexError }
  have e := hfa.symm.trans g_law
  cases e
  refine ⟨fd_law, fun s v => F_law.bindsA (ps := ["_law_script"]) (fun _ _ _ _ _ _ us hl => match us, hl with | [_], _ => rfl) s [v] rfl, fun base _ _ => ?_⟩
  have XA_ : XAll P w K mg base := {
    m0 := mkBadLine F_BadLine X_BadLine (all_of t 8 rfl)
    m1 := mkBarred F_Barred X_Barred (all_of t 9 rfl)
    m2 := mkTwice F_Twice X_Twice (all_of t 10 rfl)
    m3 := ⟨_, _, _, _, X_Unfit, PySem.F.excBase_ValueError, all_of t 11 rfl⟩
    m4 := mkNoHold F_NoHold X_NoHold (all_of t 12 rfl)
    m5 := mkNoMember F_NoMember X_NoMember (all_of t 13 rfl)
    m6 := mkNoNumber F_NoNumber X_NoNumber (all_of t 14 rfl)
    m7 := ⟨_, _, _, _, X_NothingDone, PySem.F.excBase_LookupError, all_of t 15 rfl⟩
  }
  have bd_box : Binds K fd_box ["_law_script", "_law_nth_so"] [] := F_box.bindsN fun _ _ _ _ _ _ us hl => match us, hl with | [_, _], _ => rfl
  have bd_take : Binds K fd_take ["_law_box_here", "_law_below_so"] [] := F_take.bindsN fun _ _ _ _ _ _ us hl => match us, hl with | [_, _], _ => rfl
  have bd_cells : Binds K fd_cells ["_law_script", "_law_top_so"] [] := F_cells.bindsN fun _ _ _ _ _ _ us hl => match us, hl with | [_, _], _ => rfl
  have bd_same : Binds K fd_same ["_law_got", "_law_due"] [] := F_same.bindsN fun _ _ _ _ _ _ us hl => match us, hl with | [_, _], _ => rfl
  have bd_of : Binds K fd_of ["_law_box_here", "_law_pool_so"] [] := F_of.bindsN fun _ _ _ _ _ _ us hl => match us, hl with | [_, _], _ => rfl
  have bd_which : Binds K fd_which ["_law_made_so"] [] := F_which.bindsN fun _ _ _ _ _ _ us hl => match us, hl with | [_], _ => rfl
  have bd_place_right : Binds K fd_place_right ["_law_made_so", "_law_spot_so"] [] := F_place_right.bindsN fun _ _ _ _ _ _ us hl => match us, hl with | [_, _], _ => rfl
  have bd_caught : Binds K fd_caught ["_law_tie_so", "_law_tag_so"] [] := F_caught.bindsN fun _ _ _ _ _ _ us hl => match us, hl with | [_, _], _ => rfl
  have bd_right : Binds K fd_right ["_law_box_here"] [] := F_right.bindsN fun _ _ _ _ _ _ us hl => match us, hl with | [_], _ => rfl
  have c_box : Cal P w K mg base 1 "_law_box" ["_law_script", "_law_nth_so"] (spBox K) := ⟨_, _, ok_box F_box B, bd_box, g_box, F_box.kp⟩
  have c_take : Cal P w K mg base 1 "_law_take" ["_law_box_here", "_law_below_so"] spTake := ⟨_, _, ok_take F_take B, bd_take, g_take, F_take.kp⟩
  have c_cells : Cal P w K mg base 1 "_law_cells" ["_law_script", "_law_top_so"] (spCells K) := ⟨_, _, ok_cells F_cells B, bd_cells, g_cells, F_cells.kp⟩
  have c_same : Cal P w K mg base 3 "_law_same" ["_law_got", "_law_due"] (spSame K 3) := ⟨_, _, all_same F_same B bd_same g_same 3, bd_same, g_same, F_same.kp⟩
  have c_of : Cal P w K mg base 2 "_law_of" ["_law_box_here", "_law_pool_so"] spOf := ⟨_, _, ok_of F_of B c_take, bd_of, g_of, F_of.kp⟩
  have c_which : Cal P w K mg base 1 "_law_which" ["_law_made_so"] (spWhich K) := ⟨_, _, ok_which F_which B XT, bd_which, g_which, F_which.kp⟩
  have c_place_right : Cal P w K mg base 4 "_law_place_right" ["_law_made_so", "_law_spot_so"] (spPlace K) := ⟨_, _, ok_place F_place_right B XT c_same (c_which.mono (by decide)), bd_place_right, g_place_right, F_place_right.kp⟩
  have c_caught : Cal P w K mg base 4 "_law_caught" ["_law_tie_so", "_law_tag_so"] (spCaught K) := ⟨_, _, ok_caught F_caught XT XA_.m4 XA_.m5 (by decide) c_same, bd_caught, g_caught, F_caught.kp⟩
  have c_right : Cal P w K mg base 5 "_law_right" ["_law_box_here"] spRight := ⟨_, _, ok_right F_right B XT XA_ (by decide) (c_same.mono (by decide)) (c_take.mono (by decide)) (c_of.mono (by decide)) c_place_right c_caught, bd_right, g_right, F_right.kp⟩
  exact (ok_law F_law B (c_cells.mono (by decide)) (c_box.mono (by decide)) c_right (k := 5)).mono (by decide)
end TR
open PySem PySem.W PySem.Calls PyProof.Rows
theorem PySem.Challenge.cw_touchrights_k00_errors_made_by_hand_holds : PySem.Challenge.rw_touchrights_k00_errors_made_by_hand.Holds := by
  w_on; o_law
  refine HandSHeadRun.head_any (r := OpenLaw.row PySem.Challenge.rw_touchrights_k00_errors_made_by_hand) (q := view (OpenLaw.row PySem.Challenge.rw_touchrights_k00_errors_made_by_hand).prog [19]) (H := TR.hk00) (ob := TR.ob00) (M := 4000) (loose := TR.loose00) (d := HandSHeadRun.topDef (OpenLaw.row PySem.Challenge.rw_touchrights_k00_errors_made_by_hand).prog 19) (kwd := []) TR.ob00_eq
    (by kernel_rfl) (fun s => by kernel_rfl) TR.run00 (by kernel_rfl) (by kernel_rfl) (by kernel_rfl) (by rfl) (by first | assumption | decide +kernel) (by decide +kernel) ⟨rfl, rfl, rfl, rfl, rfl, by decide +kernel⟩ ?hw ?hc
  case hw => w_witness2
  case hc =>
    refine L2.walk_ofE (l := PySem.Challenge.rw_touchrights_k00_errors_made_by_hand) (n := 63) (k := 9) (x := "_law_script") (CX := L2.CX0) rfl (by decide) (by kernel_rfl) ⟨rfl, by decide, by decide⟩ ?F (fun _ _ _ _ z => z)
    intro w mg fa h Y G hmg0
    obtain ⟨K, KX, t, c⟩ := Y
    have hmg : mg ("law" : PySem.Str) = some (.ref fa) := by
      have e : (HandSHeadRun.topDef (OpenLaw.row PySem.Challenge.rw_touchrights_k00_errors_made_by_hand).prog 19).name = ("law" : PySem.Str) := by kernel_rfl
      rw [← e]
      exact hmg0
    obtain ⟨fd, hb, hF⟩ := TR.facts00 (P := (PySem.Challenge.rw_touchrights_k00_errors_made_by_hand).prog) (w := w) KX G hmg t c
    exact ⟨K, fd, TR.spLaw K, KX, hb, fun H a ns hl _ hS => ⟨a, ns, rfl, hS, hl, fun _ => rfl⟩, hF⟩
