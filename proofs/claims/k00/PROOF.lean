import PyProof.Rows.All
import Wide.All
import OpenK.AllK
import Wide.FinOn
import PyProof.EqAt
import PyProof.EqKinds
import PyProof.TupleCall
import KE.KExcSuper
import HandS.ForExc
import HandS.ExcInit
import HandS.ExcField
import HandS.Nested
import HandS.Defaults
import HandS.MakeKw
import HandS.ExcIs
import KE.KExcIs
import HandS.TryMany
import HandS.HotCalls
import HandS.FStr
import HandS.FStrTup
import PyProof.ReprNest
import PySem.Challenge.RW_fewbreak_k00_errors_by_themselves
import HandS.ForMost
import HandS.IsInst
import HandS.Zip
import HandS.Walk
import KE.KExcInit
import PyProof.TableCode
set_option Elab.async false
set_option linter.all false
set_option maxRecDepth 100000
set_option maxHeartbeats 4000000
/-! Own exception classes over any built-in base: made, filled, read, as tracked objects. -/
namespace Fb
open PySem PySem.Spec PyProof.Rows L2 Builtin.ObjectAttr

/-- the class at C is an own exception class, its __init__ its own; B: the built-in base -/
structure EB (K : PySem.W.Frag) (C : Addr) (B newId ini : String) (bmB : List Value) : Prop where
  eb : ExcBaseFacts B newId ini bmB
  sf : StoreFacts B bmB "object.__setattr__" "object"
  kx : PySem.W.KxsFacts B ini
  q1 : PySem.W.excInitIn K C bmB newId = true
  q2 : PySem.W.excOver K C bmB = true
  sB : PySem.W.subIn K (.ref C) (.type B) = some true
structure EC (K : PySem.W.Frag) (C : Addr) : Prop where
  by_ : ∃ B newId ini bmB, EB K C B newId ini bmB ∧ PySem.W.ks_superIn K C C "__init__" = some (some (.builtin ini))
  cl : (PySem.W.clsIn K C).isSome = true
  hd : PySem.W.hasDictIn K C = true
  sa : PySem.W.findIn K (.ref C) "__setattr__" = some (some (.builtin "object.__setattr__"))
  ga : PySem.W.findIn K (.ref C) "__getattribute__" = some (some (.builtin "BaseException.__getattribute__"))
  gg : PySem.W.findIn K (.ref C) "__getattr__" = some none
  ex : PySem.W.subIn K (.ref C) (.type "BaseException") = some true
  ty : PySem.W.typeIn K (.ref C) = some (.type "type")
  kp : PySem.W.keepIn K (.ref C) = true
  th : PySem.W.nsIn K cStatics "thirdparty.any" = some none

/-- an exception's record: its args at t, its dict -/
abbrev eo (C t : Addr) (d : Option Addr) : Obj := PySem.W.excObj C t d .none

theorem upd_two {a dx b : Addr} {H : Hp} {o1 o2 : HO} (h1 : b ≠ a) (h2 : b ≠ dx) : upd (upd H dx o1) a o2 b = H b := by rw [upd_ne h1, upd_ne h2]

section
variable {X : Cx} {pins : List (Addr × Obj)} {σ : L2.St} {H : Hp} {s : Shared} {a C dx : Addr} {f : Str} {y : V} {u : Value} {fs : List (Str × V)} {Q : Unit → Shared → Prop} {E : Value → Shared → Prop} {A : Around}

/-- the record at a is written while a dict is laid at dx -/
theorem two_ok {hp h' : Heap} {g : Array GenState} {dr : Drawn} {t t' : Nat} {os : OsState} {o2 o1 o0 : HO} (I : Inv X pins σ H ⟨hp, g, dr, t, os⟩) (e : H a = some o0) (mu : Mut (some o0)) (nt : ∀ z, o0 ≠ .own z)
    (k : ∀ b o, b ≠ a → hp.get? b = some o → h'.get? b = some o) (dn : hp.objs.size ≤ dx) (hx : ∃ o, h'.get? a = some o)
    (n1 : ObjOk X.prog X.w (upd (upd H dx o1) a o2) h' dx o1) (n2 : ObjOk X.prog X.w (upd (upd H dx o1) a o2) h' a o2) : Inv X pins σ (upd (upd H dx o1) a o2) ⟨h', g, dr, t', os⟩ := by
  have fd : H dx = none := I.hok.fresh dn
  have off : ∀ {b : Addr} {v : HO}, H b = some v → v ≠ o0 → b ≠ a ∧ b ≠ dx := fun {b v} q d => ⟨fun z => d (by rw [z, e] at q; exact (Option.some.inj q).symm), ne_of_none q fd⟩
  have nd : ∀ {b : Addr} {o : Obj}, hp.get? b = some o → b ≠ dx := fun {b o} q => Nat.ne_of_lt (Nat.lt_of_lt_of_le (Heap.lt_size q) dn)
  have na : ∀ {b : Addr}, H b = none → b ≠ a := fun {b} n z => by rw [z, e] at n; cases n
  have n3 : ∀ xs, HO.tup xs ≠ o0 := fun xs z => by rw [← z] at mu; exact mu
  have n4 : ∀ ob v, HO.frz ob v ≠ o0 := fun ob v z => by rw [← z] at mu; exact mu
  have n5 : ∀ ps, HO.tbl ps ≠ o0 := fun ps z => by rw [← z] at mu; exact mu
  have U : Un X.fs [] H (upd (upd H dx o1) a o2) hp h' := {
    keep := fun b o q n _ _ => k b o (na n) q
    slot := fun b o q n _ _ => ⟨o.slots, k b o (na n) q⟩
    free := fun b o q n _ => (upd_two (na n) (nd q)).trans n
    there := fun b o q _ => if hb : b = a then by rw [hb]; exact hx else ⟨o, k b o hb q⟩
    tups := fun b xs q => (upd_two (off q (n3 xs)).1 (off q (n3 xs)).2).trans q
    frzs := fun b o v q => (upd_two (off q (n4 o v)).1 (off q (n4 o v)).2).trans q
    tbls := fun b ps q => ⟨#[], by rw [upd_two (off q (n5 ps)).1 (off q (n5 ps)).2, q]; simp⟩ }
  refine I.un (t' := t') U fun b o q => ?_
  by_cases hb : b = a
  · subst hb
    rw [upd_same] at q
    cases q
    exact n2
  by_cases hd : b = dx
  · subst hd
    rw [upd_ne hb, upd_same] at q
    cases q
    exact n1
  rw [upd_two hb hd] at q
  refine (I.hok b o q).stay (fun c v hc z => k c v (hc.elim (fun w => w ▸ hb) fun w => (off w (fun z => nt b z.symm)).1) z) (fun c hc => ?_) fun c xs hc => ?_
  · exact (upd_two (off hc (fun z => nt b z.symm)).1 (off hc (fun z => nt b z.symm)).2).trans hc
  · exact (upd_two (off hc (n3 xs)).1 (off hc (n3 xs)).2).trans hc

theorem exo_mut {e : Addr} {d : Option Addr} : Mut (some (exo e C d)) := True.intro

/-- self.f = y, the first field -/
theorem set_new (T : EC X.K C) (I : Inv X pins σ H s) (e : H a = some (exo a C none)) (hno : PySem.W.findIn X.K (.ref C) f = some none) (ry : RelV y u)
    (h : ∀ dx s', H dx = none → dx ≠ a → Inv X pins σ (upd (upd H dx (exd dx [(f, y)])) a (exo a C (some dx))) s' → Q () s') : wpAny (model X.prog X.w) A (setAttr (.ref a) f u) Q E s := by
  obtain ⟨B, newId, ini, bmB, F, _⟩ := T.by_
  obtain ⟨t1, ho⟩ := exo_at I.hok e
  obtain ⟨hp, g, d, t, os⟩ := s
  have hxs : a ≠ hp.objs.size := Nat.ne_of_lt (Heap.lt_size ho)
  have J : PySem.W.InstAt hp a (eo C t1 none) C none := ⟨ho, rfl, rfl, trivial⟩
  refine PySem.W.set_plain I.kIn J T.sa (PySem.W.osa_openX (r := none) F.sf I.kIn J F.q2 (NoAttr.taker hno) fun b => ?_)
  obtain ⟨cd, hcd, hdd⟩ := PySem.W.any_some T.hd
  have hcls := PySem.W.looks_clsIn (M := model X.prog X.w) I.kIn hcd
  obtain ⟨n1, n2, n3, n4, n5, hd, n6, n7, n8, n9, del⟩ := cd
  dsimp only at hdd
  subst hdd
  show wpAny _ _ (storeInOwnDict _ _ _ _ _ b) _ _ _
  unfold storeInOwnDict
  unfold ownDictForStores
  repeat (first
    | with_reducible refine PX.store_in_new ?_ ?_
    | with_reducible refine wpAny_loadPart_at ho ?_
    | with_reducible refine hcls.at ?_
    | wp_step)
  · refine ⟨_, #[], _, (Heap.get?_update_ne _ _ _ _ hxs.symm).trans (Heap.get?_push_at rfl rfl), rfl, fun e he => absurd he (by simp), fun _ => rfl⟩
  intro h' tk' hn' hs
  have ho' : (hp.push { cls := .type "dict", data := .dict #[] }).get? a = some (eo C t1 none) := Heap.get?_push_of_some _ ho
  have hx : h'.get? a = some (eo C t1 (some hp.objs.size)) := (hs.2 a hxs).trans (Heap.get?_update_self _ ho' rfl)
  refine h hp.objs.size _ (I.hok.fresh (Nat.le_refl _)) hxs.symm (two_ok (t' := tk') I e exo_mut (fun z => exo_own) (fun b o hb q => ?_) (Nat.le_refl _) ⟨_, hx⟩ (exd_ok hn' (relO_put (fs := []) ry fun g => True.intro)) (exo_ok hx))
  exact (hs.2 b (Nat.ne_of_lt (Heap.lt_size q))).trans ((Heap.get?_update_ne _ _ _ _ hb).trans (Heap.get?_push_of_some _ q))

/-- self.f = y, a further field -/
theorem set_old (T : EC X.K C) (I : Inv X pins σ H s) (e : H a = some (exo a C (some dx))) (ed : H dx = some (exd dx fs)) (hl : fs.length ≤ 900) (hno : PySem.W.findIn X.K (.ref C) f = some none) (ry : RelV y u)
    (h : ∀ s', Inv X pins σ (upd H dx (exd dx ((f, y) :: fs))) s' → Q () s') : wpAny (model X.prog X.w) A (setAttr (.ref a) f u) Q E s := by
  obtain ⟨B, newId, ini, bmB, F, _⟩ := T.by_
  obtain ⟨t1, ho⟩ := exo_at I.hok e
  obtain ⟨mA, hns, rel⟩ := exd_at I.hok ed
  have hw := within_of rel
  obtain ⟨hp, g, d, t, os⟩ := s
  obtain ⟨oD, _, _, hoD, _, _⟩ := hns.count hw
  have J : PySem.W.InstAt hp a (eo C t1 (some dx)) C (some oD) := ⟨ho, rfl, rfl, hoD⟩
  refine PySem.W.set_plain I.kIn J T.sa (PySem.W.osa_openX (r := none) F.sf I.kIn J F.q2 (NoAttr.taker hno) fun b => ?_)
  obtain ⟨cd, hcd, hdd⟩ := PySem.W.any_some T.hd
  have hcls := PySem.W.looks_clsIn (M := model X.prog X.w) I.kIn hcd
  obtain ⟨n1, n2, n3, n4, n5, hd, n6, n7, n8, n9, del⟩ := cd
  dsimp only at hdd
  subst hdd
  show wpAny _ _ (storeInOwnDict _ _ _ _ _ b) _ _ _
  unfold storeInOwnDict
  unfold ownDictForStores
  repeat (first
    | with_reducible refine PX.store_in_old hns hw (by rw [List.length_map]; omega) ?_
    | with_reducible refine wpAny_loadPart_at ho ?_
    | with_reducible refine hcls.at ?_
    | wp_step)
  intro h' tk' hn' hs
  have hd : ∃ o, h'.get? dx = some o := let ⟨o, _, _, e', _⟩ := hn'; ⟨o, e'⟩
  exact h _ (I.write (t' := tk') (x := dx) (e := dx) (o := exd dx ((f, y) :: fs)) (by rw [ed]; exact True.intro) (.inl rfl) (fun b o hb q => (hs.2 b hb).trans q) hd (exd_ok hn' (relO_put ry rel)))
end
end Fb

set_option Elab.async false
set_option linter.all false
set_option maxRecDepth 100000
set_option maxHeartbeats 4000000
namespace Fb
open PySem PySem.Spec PyProof.Rows L2 Builtin.ObjectAttr
/-! ### an own exception class called, with keywords too -/
section
variable {M : Model} {prog : Program} {w : World} {A : Around} {E : Value → Shared → Prop} {R : Result → Shared → Prop} {h : Heap} {g : Array GenState} {d : Drawn} {t : Nat} {os : OsState}
variable {nm qn : Str} {C N : Addr} {bs bm bmB : List Value} {hdct : Bool} {sn : List Str} {sub : List Value} {ab : Bool} {col : Option Bool} {dd : Option Addr} {k0 k1 k2 k3 k5 : Option Value} {B newId ini : String}
theorem check_newK (F : ExcBaseFacts B newId ini bmB) (hT : ∀ X : String, bm.contains (.type X) = bmB.contains (.type X)) {us : List Value} {kw : List (Str × Value)} {Q : Unit → Shared → Prop}
    (hC : h.get? C = some (excClassObj nm qn C N bs bm hdct sn sub ab col dd k0 k1 k2 k3 k5 newId)) (hq : Q () ⟨h, g, d, t, os⟩) : wpAny M A (checkBuiltinCall newId ⟨.ref C :: us, kw⟩) Q E ⟨h, g, d, t, os⟩ := by
  have c1 : (Value.ref C :: bm).contains (.type B) = true := by
    rw [List.contains_cons, hT, F.hasB]
    exact Bool.or_true _
  have c2 := F.noStar
  simp only [checkBuiltinCall, F.newKind, F.newSplit, F.newRow]
  repeat (first
    | refine wpAny_loadPart_at hC ?_
    | (refine wpAny_isSubtype_exc hC ?_; rw [c1])
    | refine wpAny_staticBase_exc hC ?_
    | refine wpAny_madeBy_exc hC ?_
    | simp only [bne_self_eq_false, Bool.false_eq_true, if_false]
    | wp_step)
  exact hq
/-- the record and its args behind BaseException.__new__ -/
def bornAt (h : Heap) (C : Addr) (us : List Value) : Heap := (h.push (PySem.W.kdv_tup us)).push (PX.excO C h.objs.size)
theorem born_keep {us : List Value} : ∀ b o, h.get? b = some o → (bornAt h C us).get? b = some o := fun b o e => Heap.get?_push_of_some _ (Heap.get?_push_of_some _ e)
theorem born_at {us : List Value} : (bornAt h C us).get? (h.objs.size + 1) = some (PX.excO C h.objs.size) := by
  unfold bornAt
  heap_get
theorem newK (F : ExcBaseFacts B newId ini bmB) (hT : ∀ X : String, bm.contains (.type X) = bmB.contains (.type X)) {us : List Value} {kw : List (Str × Value)}
    (hC : h.get? C = some (excClassObj nm qn C N bs bm hdct sn sub ab col dd k0 k1 k2 k3 k5 newId)) (hz : us.length ≤ sizeLine)
    (hq : R (.ok (.ret (.ref (h.objs.size + 1)))) ⟨bornAt h C us, g, d, t, os⟩) : codeAny (model prog w) A (.builtin newId ⟨.ref C :: us, kw⟩) R ⟨h, g, d, t, os⟩ := by
  have c0 := F.ends
  have c1 : (Value.ref C :: bm).contains (.type B) = true := by
    rw [List.contains_cons, hT, F.hasB]
    exact Bool.or_true _
  have c2 : (Value.ref C :: bm).contains (.type "AttributeError") = false := by
    rw [List.contains_cons, hT, F.noAttr] <;> rfl
  have c3 : (Value.ref C :: bm).contains (.type "NameError") = false := by
    rw [List.contains_cons, hT, F.noName] <;> rfl
  refine codeAny_builtinAt F.entry ?_
  unfold Builtin.«BaseException.__new__»
  refine PySem.wpAt_bind (show PySem.wpAt _ _ _ (stack >>= _) _ _ _ from PySem.wpAt_bind (PySem.wpAt_stack fun p below => PySem.wpAt_of_wpAny ?_))
  wp_walk
  refine PySem.wpAt_of_wpAny ?_
  rw [F.owner]
  repeat (first
    | with_reducible refine wpAny_madeHere_exc F.canon hC ?_
    | with_reducible refine wpAny_loadPart_at hC ?_
    | (with_reducible refine wpAny_isSubtype_exc hC ?_; first | rw [c1] | rw [c2] | rw [c3])
    | wp_step)
  show R _ _
  rw [Heap.size_push]
  exact hq
theorem typeCallK (F : ExcBaseFacts B newId ini bmB) (hT : ∀ X : String, bm.contains (.type X) = bmB.contains (.type X)) {us : List Value} {kw : List (Str × Value)} {fI : Addr} {Q : Fin → Shared → Prop}
    (hC : h.get? C = some (excClassObj nm qn C N bs bm hdct sn sub ab col dd k0 k1 k2 k3 k5 newId)) (hi : W.Looks (model prog w) h (typeLookup (.ref C) "__init__") (some (.ref fI)))
    (hb : ∀ self, W.Looks (model prog w) h (bindSpecial (.ref fI) self) (.ref fI, [self])) (hz : us.length ≤ sizeLine)
    (hq : codeAny (model prog w) A (.call (.ref fI) ⟨.ref (h.objs.size + 1) :: us, kw⟩)
      (fun r s' => match r with | .ok (.ret v) => v = .none ∧ Q (.done (.ret (.ref (h.objs.size + 1)))) s' | .ok _ => False | .error e => E e s') ⟨bornAt h C us, g, d, t, os⟩) :
    wpAny (model prog w) A (Builtin.«type.__call__» ⟨.ref C :: us, kw⟩) Q E ⟨h, g, d, t, os⟩ := by
  repeat (first
    | with_reducible refine wpAny_loadPart_at hC ?_
    | with_reducible refine wpAny_madeBy_exc hC ?_
    | wp_step)
  refine codeAny_call_builtin_code (Code.quiet_builtin _ F.quiet) (check_newK F hT hC (newK F hT hC hz ?_))
  show wpAny _ _ _ _ _ _
  have hC₁ := born_keep (C := C) (us := us) _ _ hC
  have hget := born_at (h := h) (C := C) (us := us)
  have hcC : (Value.ref C :: bm).contains (.ref C) = true := by simp
  have i1 := hi.keeps (born_keep (C := C) (us := us))
  have b1 := (hb (.ref (h.objs.size + 1))).keeps (born_keep (C := C) (us := us))
  unfold isInstance
  repeat (first
    | with_reducible refine wpAny_loadPart_at hget ?_
    | (with_reducible refine wpAny_isSubtype_exc hC₁ ?_; rw [hcC])
    | wp_step)
  show wpAny _ _ (typeLookup (.ref C) _) _ _ _
  refine i1.at (wpAny_holding (wpAny_bind (b1.at ?_)))
  refine wpAny_bind (wpAny_call (codeAny_mono hq fun r s' z => ?_))
  rcases r with e | (v | _ | _ | _) <;> first | exact z | exact z.elim | skip
  obtain ⟨rfl, z⟩ := z
  first | exact wpAny_pure (wpAny_pure z) | (wp_walk; exact z)
theorem callK (F : ExcBaseFacts B newId ini bmB) (hT : ∀ X : String, bm.contains (.type X) = bmB.contains (.type X)) {us : List Value} {kw : List (Str × Value)} {fI : Addr}
    (hC : h.get? C = some (excClassObj nm qn C N bs bm hdct sn sub ab col dd k0 k1 k2 k3 k5 newId)) (hi : W.Looks (model prog w) h (typeLookup (.ref C) "__init__") (some (.ref fI)))
    (hb : ∀ self, W.Looks (model prog w) h (bindSpecial (.ref fI) self) (.ref fI, [self])) (hz : us.length ≤ sizeLine)
    (hq : codeAny (model prog w) (A.under (.builtin "type.__call__" ⟨.ref C :: us, kw⟩)) (.call (.ref fI) ⟨.ref (h.objs.size + 1) :: us, kw⟩) (W.InitBack (h.objs.size + 1) R) ⟨bornAt h C us, g, d, t, os⟩) :
    codeAny (model prog w) A (.call (.ref C) ⟨us, kw⟩) R ⟨h, g, d, t, os⟩ := by
  have f1 := tc_lookup
  have f2 := tc_bind (.ref C)
  have hTy : (⟨h, g, d, t, os⟩ : Shared).TypeIs (.ref C) "type" := ⟨_, hC, rfl⟩
  refine codeAny_of_tree (show wpAny _ _ (callAny (.ref C) _) _ _ _ from ?_)
  repeat (any_goals (first | assumption | with_reducible refine wpAny_loadPart_at hC ?_ | wp_step))
  refine ⟨rfl, codeAny_call_builtin_at (Code.quiet_builtin _ (by decide +kernel)) entry_typeCall (wpAny_check_type_call_sub hC (typeCallK F hT hC hi hb hz (codeAny_mono hq fun r s' z => ?_)))⟩
  rcases r with e | (v | _ | _ | _) <;> exact z
end
end Fb

set_option Elab.async false
set_option linter.all false
set_option maxRecDepth 100000
set_option maxHeartbeats 4000000
namespace Fb
open PySem PySem.Spec PyProof.Rows L2 Builtin.ObjectAttr
/-! ### C(..) of an own exception class, as a value and raised -/
/-- what a class must have to be called: its facts, its __init__ at fI -/
structure EMk (K : PySem.W.Frag) (C fI : Addr) : Prop extends EC K C where
  iC : PySem.W.findIn K (.ref C) "__init__" = some (some (.ref fI))
  tI : PySem.W.typeIn K (.ref fI) = some (.type "function")
/-- nothing but positions: n of them -/
theorem kbn_pos {K : PySem.W.Frag} {fd : FuncData} {ps : List Str} (hb : Binds K fd ps []) : KBn K fd ps ps.length [] (fun us _ => us) (fun vs _ => vs) :=
  ⟨fun s us ws X l1 l2 => by
    have e := hb s us X (by rw [List.append_nil]; exact l1)
    rw [List.append_nil] at e
    exact e, fun r _ => r⟩
section
variable {X : Cx} {CX : CXT} {pins : List (Addr × Obj)} {σ : L2.St} {H : Hp} {s : Shared} {C fI : Addr} {k n : Nat} {fd : FuncData} {ps ks : List Str} {sp : Sp} {vs zs : List V} {us ws : List Value} {g : List Value → List Value → List Value} {gV : List V → List V → List V}
/-- the call of the class: what is left behind its __init__ -/
theorem run_mkx {P : Value → Shared → Prop} {Q0 : VK} (T : EMk X.K C fI) (F1 : FnOk X.prog X.w X.K X.mg X.base CX k fI fd ps sp) (hr : Room (k + 1) X.A) (hb : KBn X.K fd ps (n + 1) ks g gV) (hx : Passes CX X E0)
    (I : Inv X pins σ H s) (r : Vals vs us) (rz : Vals zs ws) (l1 : vs.length = n) (l2 : zs.length = ks.length) (hn : n ≤ 1000)
    (hq : sp (gV (.ref (s.heap.objs.size + 1) :: vs) zs) (upd H (s.heap.objs.size + 1) (exo (s.heap.objs.size + 1) C none)) Q0 E0) (hv : ∀ v H2, Q0 v H2 → v = .non)
    (hP : ∀ s', Inv X pins σ (upd H (s.heap.objs.size + 1) (exo (s.heap.objs.size + 1) C none)) { s with heap := bornAt s.heap C us } →
      CE X.stack X.prog X.w (upd H (s.heap.objs.size + 1) (exo (s.heap.objs.size + 1) C none)) { s with heap := bornAt s.heap C us } Q0 .none s' → P (.ref (s.heap.objs.size + 1)) s') :
    wpAny (model X.prog X.w) X.A (call (.ref C) us (ks.zip ws)) P X.xe s := by
  obtain ⟨B, newId, ini, bmB, F, _⟩ := T.by_
  obtain ⟨nm, N, qn, bs, bm, hdct, sn, sub, ab, col, dd, k0, k1, k2, k3, k5, hC, hT⟩ := PySem.W.excInit_of I.kIn F.q1
  obtain ⟨hp, g0, d, t, os⟩ := s
  have I2 : Inv X pins σ (upd H (hp.objs.size + 1) (exo (hp.objs.size + 1) C none)) ⟨bornAt hp C us, g0, d, t, os⟩ :=
    I.laid (t' := t) (a := hp.objs.size + 1) (o := exo (hp.objs.size + 1) C none) (h' := bornAt hp C us) born_keep (Nat.le_succ _) (exo_ok born_at)
  have e1 : (Value.ref (hp.objs.size + 1) :: us).length = n + 1 := by
    rw [List.length_cons, ← r.length, l1]
  have e2 : ws.length = ks.length := rz.length.symm.trans l2
  have r0 : Vals (V.ref (hp.objs.size + 1) :: vs) (Value.ref (hp.objs.size + 1) :: us) := .cons rfl r
  have hus : us.length ≤ sizeLine := by
    rw [← r.length, l1, sizeLine_eq]
    exact Nat.le_trans hn (by decide)
  have run := F1.run _ X.stack _ _ ⟨Value.ref (hp.objs.size + 1) :: us, ks.zip ws⟩ (g (Value.ref (hp.objs.size + 1) :: us) ws) _ Q0 E0 (hr.make C us (ks.zip ws)) (I2.env0.make C us (ks.zip ws)) (hb.to _ _ ws I2.kIn e1 e2) (hb.rel r0 rz) hq
  refine wpAny_call (callK F.eb hT hC (PySem.W.looks_findIn I.kIn T.iC) (fun self => PySem.W.bind_fn I.kIn self T.tI) hus (codeAny_mono run fun r s' hq' => ?_))
  cases r with
  | error er => exact hx pins σ _ _ er s' I2 hq'
  | ok fl =>
    cases fl with
    | ret u =>
      obtain ⟨v, H2, q1, q2, q3, q4, rv, q5⟩ := id hq'
      obtain rfl := hv v H2 q5
      obtain rfl : u = Value.none := rv
      exact ⟨rfl, hP s' I2 hq'⟩
    | next => exact False.elim hq'
    | brk => exact False.elim hq'
    | cont => exact False.elim hq'
/-- the reading of C(..) as a value: a new record, then its __init__ -/
def tMkx (C : Addr) (n m : Nat) (sp : Sp) (gV : List V → List V → List V) (t tk : TA) : TE := fun σ H Q => t σ H fun vs H1 => tk σ H1 fun zs H2 => vs.length = n ∧ zs.length = m ∧
  ∀ a, H2 a = none → sp (gV (.ref a :: vs) zs) (upd H2 a (exo a C none)) (fun v H3 => v = .non ∧ Q (.ref a) H3) E0
theorem run_mkv {Q : VK} (T : EMk X.K C fI) (F1 : FnOk X.prog X.w X.K X.mg X.base CX k fI fd ps sp) (hr : Room (k + 1) X.A) (hb : KBn X.K fd ps (n + 1) ks g gV) (hx : Passes CX X E0) (hn : n ≤ 1000)
    (I : Inv X pins σ H s) (r : Vals vs us) (rz : Vals zs ws) (q : vs.length = n ∧ zs.length = ks.length ∧ ∀ a, H a = none → sp (gV (.ref a :: vs) zs) (upd H a (exo a C none)) (fun v H3 => v = .non ∧ Q (.ref a) H3) E0) :
    wpAny (model X.prog X.w) X.A (call (.ref C) us (ks.zip ws)) (EP X pins σ Q) X.xe s := by
  obtain ⟨l1, l2, q⟩ := q
  refine run_mkx T F1 hr hb hx I r rz l1 l2 hn (q _ (I.hok.fresh (Nat.le_succ _))) (fun v H2 z => z.1) fun s' I2 ce => ?_
  obtain ⟨v, H3, J, _, _, q3⟩ := I2.after ce
  exact ⟨V.ref _, H3, J, rfl, q3⟩
variable {x : Str} {p pos : Pos} {e : Expr} {es : List Expr} {kws : List Keyword} {t tk : TA}
theorem pe_mkxN (T : EMk X.K C fI) (F1 : FnOk X.prog X.w X.K X.mg X.base CX k fI fd ps sp) (hr : Room (k + 1) X.A) (hg : Gl X x) (hm : X.mg x = some (.ref C)) (hb : KBn X.K fd ps (n + 1) ks g gV) (hx : Passes CX X E0) (hn : n ≤ 1000)
    (ha : PA X (e :: es) t) (hkw : PK X kws tk) (hall : (backToKw pos (keywordEach kws X.env)).all (·.1.isSome) = true := by rfl) (hks : (backToKw pos (keywordEach kws X.env)).filterMap (·.1) = ks := by rfl)
    (hdb : (x == ("__debug__" : Str)) = false := by decide) (he : starEach (e :: es) X.env = (false, eval e X.env) :: starEach es X.env := by rfl)
    (hpl : ((backTo pos (starEach (e :: es) X.env)).any (·.1) || (backToKw pos (keywordEach kws X.env)).any (·.1.isNone)) = false := by rfl) :
    PE X (.Call (.Name x p) (e :: es) kws pos) (tMkx C n ks.length sp gV t tk) := by
  refine ⟨fun pins s σ H Q I h => wpAny_Call_Name_kw (ld_glob I hg hm ?_ hdb)⟩
  refine PySem.W.callWith_KW (h₀ := X.base) I.ok.mod.kin T.kp hall (thn (ha.run pos pins s σ H _ I h) fun us s1 ⟨vs, H1, I1, r, q⟩ => ?_) hpl he
  refine thn (hkw.run pos pins s1 σ H1 _ I1 q) fun ws s2 ⟨zs, H2, I2, rz, q2⟩ => ⟨I2.kIn, ?_⟩
  rw [hks]
  exact run_mkv T F1 hr hb hx hn I2 r rz q2
theorem pe_mkxK (T : EMk X.K C fI) (F1 : FnOk X.prog X.w X.K X.mg X.base CX k fI fd ps sp) (hr : Room (k + 1) X.A) (hg : Gl X x) (hm : X.mg x = some (.ref C)) (hb : KBn X.K fd ps (0 + 1) ks g gV) (hx : Passes CX X E0)
    (hkw : PK X kws tk) (hall : (backToKw pos (keywordEach kws X.env)).all (·.1.isSome) = true := by rfl) (hks : (backToKw pos (keywordEach kws X.env)).filterMap (·.1) = ks := by rfl)
    (hdb : (x == ("__debug__" : Str)) = false := by decide)
    (hpl : ((backTo pos (starEach [] X.env)).any (·.1) || (backToKw pos (keywordEach kws X.env)).any (·.1.isNone)) = false := by rfl) :
    PE X (.Call (.Name x p) [] kws pos) (tMkx C 0 ks.length sp gV tNil tk) := by
  refine ⟨fun pins s σ H Q I h => wpAny_Call_Name_kw (ld_glob I hg hm ?_ hdb)⟩
  refine PySem.W.callWith_KW0 (first := []) (h₀ := X.base) I.ok.mod.kin T.kp hall ?_ hpl
  refine thn (hkw.run pos pins s σ H _ I h) fun ws s2 ⟨zs, H2, I2, rz, q2⟩ => ⟨I2.kIn, ?_⟩
  rw [hks]
  exact run_mkv (vs := []) (us := []) T F1 hr hb hx (Nat.zero_le _) I2 .nil rz q2
/-- C(e, ..), raised: the record is let go -/
def tMkr (C : Addr) (n : Nat) (sp : Sp) (t : TA) : L2.St → Hp → XK → Prop := fun σ H Q => t σ H fun vs H1 => vs.length = n ∧ ∀ a, H1 a = none → sp (.ref a :: vs) (upd H1 a (exo a C none))
  (fun v H2 => v = .non ∧ ∃ (d : Addr) (fs : List (Str × V)), H2 a = some (exo a C (some d)) ∧ H2 d = some (exd d fs) ∧ H1 d = none ∧ Q (.ref C) (some d) (upd (L2.del H2 a) d (.xd fs))) E0
theorem run_mkr {Q : XK} (T : EMk X.K C fI) (F1 : FnOk X.prog X.w X.K X.mg X.base CX k fI fd ps sp) (hr : Room (k + 1) X.A) (hb : Binds X.K fd ps []) (hp : ps.length = n + 1) (hx : Passes CX X E0) (hn : n ≤ 1000)
    (I : Inv X pins σ H s) (r : Vals vs us) (q : vs.length = n ∧ ∀ a, H a = none → sp (.ref a :: vs) (upd H a (exo a C none))
      (fun v H2 => v = .non ∧ ∃ (d : Addr) (fs : List (Str × V)), H2 a = some (exo a C (some d)) ∧ H2 d = some (exd d fs) ∧ H d = none ∧ Q (.ref C) (some d) (upd (L2.del H2 a) d (.xd fs))) E0) :
    wpAny (model X.prog X.w) X.A (call (.ref C) us) (MkP X pins σ Q) X.xe s := by
  obtain ⟨l1, q⟩ := q
  have hb' := kbn_pos hb
  rw [hp] at hb'
  refine run_mkx (zs := []) (ws := []) T F1 hr hb' hx I r .nil l1 rfl hn (q _ (I.hok.fresh (Nat.le_succ _))) (fun v H2 z => z.1) fun s' I2 ce => ?_
  obtain ⟨hp', g0, d0, t0, os⟩ := s
  obtain ⟨v, H2, os2, bare2, un2, hok2, rv, ev, d, fs, ea, ed, hd1, q2⟩ := ce
  obtain ⟨h2, g2, d2, t2, os'⟩ := s'
  exact mk_end (raises_own T.ex T.ty) I (Nat.le_succ _) born_keep un2 hok2 os2 bare2 ea ed hd1 q2
theorem pmk_x (T : EMk X.K C fI) (F1 : FnOk X.prog X.w X.K X.mg X.base CX k fI fd ps sp) (hr : Room (k + 1) X.A) (hg : Gl X x) (hm : X.mg x = some (.ref C)) (hb : Binds X.K fd ps []) (hp : ps.length = n + 1) (hx : Passes CX X E0) (hn : n ≤ 1000)
    (ha : PA X (e :: es) t) (hdb : (x == ("__debug__" : Str)) = false := by decide) (he : starEach (e :: es) X.env = (false, eval e X.env) :: starEach es X.env := by rfl) (hpl : (backTo pos (starEach es X.env)).any (·.1) = false := by rfl) :
    PMk X (.Call (.Name x p) (e :: es) [] pos) (tMkr C n sp t) := fun pins s σ H Q I h => by
  refine wpAny_Call_Name_kw (ld_glob I hg hm ?_ hdb)
  exact PySem.W.callWith_K (h₀ := X.base) I.ok.mod.kin T.kp (thn (ha.run pos pins s σ H _ I h) fun us s1 ⟨vs, H1, I1, r1, q1⟩ => ⟨I1.kIn, run_mkr T F1 hr hb hp hx hn I1 r1 q1⟩) he hpl
theorem pmk_x0 (T : EMk X.K C fI) (F1 : FnOk X.prog X.w X.K X.mg X.base CX k fI fd ps sp) (hr : Room (k + 1) X.A) (hg : Gl X x) (hm : X.mg x = some (.ref C)) (hb : Binds X.K fd ps []) (hp : ps.length = 0 + 1) (hx : Passes CX X E0)
    (hdb : (x == ("__debug__" : Str)) = false := by decide) : PMk X (.Call (.Name x p) [] [] pos) (tMkr C 0 sp tNil) := fun pins s σ H Q I h => by
  refine wpAny_Call_Name_kw (ld_glob I hg hm ?_ hdb)
  exact PySem.W.callWith_K0 (first := []) I.kIn T.kp (run_mkr (us := []) (vs := []) T F1 hr hb hp hx (Nat.zero_le _) I .nil h)
/-- C() as a value -/
theorem pe_mkx0 (T : EMk X.K C fI) (F1 : FnOk X.prog X.w X.K X.mg X.base CX k fI fd ps sp) (hr : Room (k + 1) X.A) (hg : Gl X x) (hm : X.mg x = some (.ref C)) (hb : KBn X.K fd ps (0 + 1) [] g gV) (hx : Passes CX X E0)
    (hdb : (x == ("__debug__" : Str)) = false := by decide) : PE X (.Call (.Name x p) [] [] pos) (tMkx C 0 0 sp gV tNil tNil) := by
  refine ⟨fun pins s σ H Q I h => wpAny_Call_Name_kw (ld_glob I hg hm ?_ hdb)⟩
  exact PySem.W.callWith_K0 (first := []) I.kIn T.kp (run_mkv (us := []) (vs := []) (zs := []) (ws := []) T F1 hr hb hx (Nat.zero_le _) I .nil .nil h)
end
end Fb

set_option Elab.async false
set_option linter.all false
set_option maxRecDepth 100000
set_option maxHeartbeats 4000000
namespace Fb
open PySem PySem.Spec PyProof.Rows L2 Builtin.ObjectAttr
/-! ### def __init__(self, ..): super().__init__(e); .. -/
/-- the bound base's __init__ is called: the args are laid anew -/
theorem bw_call {prog : Program} {w : World} {A : Around} {E : Value → Shared → Prop} {h : Heap} {g : Array GenState} {d : Drawn} {t : Nat} {os : OsState} {K : PySem.W.Frag} {C a u t0 : Addr} {B newId ini : String} {bmB : List Value} {us : List Value} {Q : Value → Shared → Prop}
    (F : EB K C B newId ini bmB) (X : K.In h) (he : h.get? a = some (eo C t0 none)) (hu : h.get? u = some (PySem.W.kxs_mw ini a)) (hz : us.length ≤ sizeLine)
    (hq : ∀ h' t1, (∀ b o, b ≠ a → h.get? b = some o → h'.get? b = some o) → h'.get? a = some (eo C t1 none) → Q .none ⟨h', g, d, t, os⟩) : wpAny (model prog w) A (call (.ref u) us) Q E ⟨h, g, d, t, os⟩ := by
  obtain ⟨nm, N, qn, bs, bm, hdct, sn, sub, ab, col, dd, k0, k1, k2, k3, k5, hC, hT⟩ := PySem.W.excInit_of X F.q1
  refine wpAny_call (codeAny_of_tree ?_)
  show wpAny _ A.in1 (callAny (.ref u) ⟨us, []⟩) _ _ _
  simp only [callAny]
  refine wpAny_bind (wpAny_load hu ?_)
  have c1 : (Value.type "method-wrapper" == Value.type "method" || Value.type "method-wrapper" == Value.type "builtin_function_or_method" || Value.type "method-wrapper" == Value.type "method-wrapper") = true := by decide
  simp only [PySem.W.kxs_mw, c1, if_true]
  refine PySem.W.KFB.if_so (by decide) (wpAny_bind (PySem.W.check_bound_init F.eb.toExcCallFacts hC he rfl ?_))
  refine wpAny_bind (wpAny_pure (wpAny_pure ⟨plainId_quiet F.eb.init.plain _, codeAny_builtin F.eb.initEntry ?_⟩))
  exact PySem.W.exc_init_tree (cls := .ref C) (t0 := t0) (dv := none) (c2 := .none) (c3 := .none) (b4 := .bool false) he hz fun h' k e1 _ => hq h' _ k e1

/-- what the written part says of such an __init__: its code object, the cell of its class -/
structure SupIn (P : Program) (K : PySem.W.Frag) (C cc : Addr) (F : NdefX.NF) : Prop where
  cd : PySem.W.codeIn K (.ref F.c) F.qual = true
  fl : F.cl = [(("__class__" : Str), cc)]
  co : ∃ (ccl : Value) (cdd : Option Addr) (vs : Array Value) (ccs : Array (Option Value)) (file : Str) (tf : Tok), K.lookup F.c = some ⟨ccl, cdd, .fields vs, ccs⟩ ∧ vs[2]? = some (.str file tf) ∧ ((P.main.file : Str) == file) = true
  ce : ∃ (cl : Value) (cld : Option Addr) (csl : Array (Option Value)), K.lookup cc = some ⟨cl, cld, .cell (some (.ref C)), csl⟩
  se : PySem.W.mroIn K C (.ref C) = some true
  tp : (P.main.scope.names.lookup ("super" : Str)).isSome = false

/-- the context of the body -/
abbrev icx (P : Program) (w : World) (K : PySem.W.Frag) (mg : Str → Option Value) (base : Heap) (N : List Str) (F : NdefX.NF) (f : Addr) (A : Around) (outer : List Env) (s : Shared) (H : Hp) (E : XK) : Cx := NdefX.ncx CX0 P w K mg base N F f A outer s H E
section
variable {P : Program} {w : World} {K : PySem.W.Frag} {mg : Str → Option Value} {base : Heap} {N ps : List Str} {F : NdefX.NF} {C fI cc : Addr} {k : Nat} {sp : Sp}
theorem super_def {e0 : Expr} {rest : List Stmt} {p0 p1 p2 p3 p4 : Pos} {ar : Arg} {oc doc pm ct : Value} {pl : Addr → Sem Bool} {od an : Option Addr} {osl : Array (Option Value)} (T : EC K C) (S : SupIn P K C cc F) (sc : NdefX.NScope N ps ["__class__"] F.scope) (hp1 : ps[0]? = some ar.arg)
    (lk : K.lookup fI = some ⟨oc, od, .func (PySem.W.fnX F.name F.qual F.params F.body F.scope F.cl .none .none doc pm an (.ref F.c) ct), osl⟩)
    (hb0 : F.body = .Expr (.Call (.Attribute (.Call (.Name "super" p0) [] [] p1) "__init__" p2) [e0] [] p3) p4 :: rest) (har : (F.params.posonlyargs ++ F.params.args).head? = some ar)
    (hks : F.scope.names.lookup ("super" : Str) = some .globalImplicit) (hms : mg "super" = none) (len : ∀ vs H Q E, sp vs H Q E → vs.length = ps.length)
    (hbody : ∀ (A : Around) (outer : List Env) (s : Shared) (H : Hp) (vs : List V) (Q : VK) (E : XK), Room k (A.deeper (NdefX.envF F fI s.heap.objs.size)) → sp vs H Q E →
      ∃ (a : Addr) (ta : TA) (t : TS), vs[0]? = some (.ref a) ∧ H a = some (exo a C none) ∧ PA (icx P w K mg base N F fI A outer s H E) [e0] ta ∧ PSs (icx P w K mg base N F fI A outer s H E) rest t ∧
        ta (NdefX.startF N vs [none]) H fun ws H1 => ws.length ≤ 1000 ∧ H1 a = some (exo a C none) ∧ t { nx := fun _ H' => Q .non H', rt := Q } (NdefX.startF N vs [none]) H1)
    (hsw : ∀ (L : Addr), swapsWith (.Call (.Attribute (.Call (.Name "super" p0) [] [] p1) "__init__" p2) [e0] [] p3) none p4.line (NdefX.envF F fI L) = pure false := by intro _; rfl)
    (hev : ∀ (L : Addr), eval (.Call (.Attribute (.Call (.Name "super" p0) [] [] p1) "__init__" p2) [e0] [] p3) (NdefX.envF F fI L) = (do
      let ov ← attributeBase (.Call (.Name "super" p0) [] [] p1) "__init__" (NdefX.envF F fI L) (eval (.Call (.Name "super" p0) [] [] p1) (NdefX.envF F fI L))
      standAt p2.atName
      let (f, first) ← holding [ov] (getMethod ov "__init__" (pl L))
      callWith p3 f first (backTo p3 (starEach [e0] (NdefX.envF F fI L))) []) := by intro _; rfl)
    (hst : ∀ (L : Addr), starEach [e0] (NdefX.envF F fI L) = (false, eval e0 (NdefX.envF F fI L)) :: starEach [] (NdefX.envF F fI L) := by intro _; rfl) :
    FnOk P w K mg base CX0 (k + 1) fI (PySem.W.fnX F.name F.qual F.params F.body F.scope F.cl .none .none doc pm an (.ref F.c) ct) ps sp := by
  refine ⟨len, fun A outer s H args us vs Q E hr e1 hb r hsp => ?_⟩
  have hl := len _ _ _ _ hsp
  have KX : K.In s.heap := e1.mod.kin.keeps fun b o e => (e1.bs b o e).1
  have lim : s.heap.NoLimit := e1.mod.nolimit.keeps fun b o e => (e1.bs b o e).1
  refine ks_codeAny_call_defAt (body := F.body) (binds := ps.zip us) hr.depth (KX _ _ lk) rfl lim (PySem.W.codeRec_of KX S.cd) rfl hb sc.nocell (fun ⟨n, _⟩ hy => sc.par n (List.of_mem_zip hy).1) (fun h₁ hns kp => ?_) sc.co sc.gen sc.kind
  have hsz : s.heap.objs.size ≤ s.heap.objs.size := Nat.le_refl _
  obtain ⟨cl, cld, csl, hce⟩ := S.ce
  obtain ⟨ccl, cdd, cvs, ccs, file, tf, hco, hv2, hfile⟩ := S.co
  have CA : NdefX.CellsAt F.cl ["__class__"] [none] s.heap H := by
    have hcc : s.heap.IsCell cc (some (.ref C)) := ⟨_, KX _ _ hce, rfl⟩
    have free : H cc = none := (e1.bs cc _ (e1.mod.kin _ _ hce)).2
    have one : ∀ {y c}, F.cl.lookup y = some c → c = cc ∧ y = "__class__" := fun {y c} h => by
      rw [S.fl] at h
      by_cases hy : y = ("__class__" : Str)
      · subst hy
        exact ⟨(Option.some.inj (h.symm.trans (by simp [List.lookup]))), rfl⟩
      · have e : (y == ("__class__" : Str)) = false := by simpa using hy
        simp [List.lookup, e] at h
    refine ⟨rfl, fun y c h => ?_, fun x y c h1 h2 => (one h1).2.trans (one h2).2.symm, fun i y hi => ?_⟩
    · obtain ⟨rfl, _⟩ := one h
      exact ⟨free, _, hcc⟩
    · have hi0 : i = 0 ∧ y = "__class__" := by
        cases i with
        | zero => exact ⟨rfl, (Option.some.inj hi).symm⟩
        | succ i => simp at hi
      refine ⟨cc, ?_, fun v hv => ?_⟩
      · rw [hi0.2, S.fl]
        simp [List.lookup]
      · rw [hi0.1] at hv
        cases hv
  obtain ⟨a, ta, t, hva, hHa, hpa, hps, hrd⟩ := hbody A outer s H vs Q E (hr.deeper _) hsp
  have I : Inv (icx P w K mg base N F fI A outer s H E) [] (NdefX.startF N vs [none]) H { s with heap := h₁, toks := s.toks + (ps.zip us).length } := NdefX.inv_startN sc hr.hd e1 hl r CA hns kp
  have kX : K.In h₁ := KX.keeps kp
  have ipar : ar.arg ∈ ps := List.mem_of_getElem? hp1
  have kself : F.scope.names.lookup ar.arg = some .local := sc.par _ ipar
  obtain ⟨ua, hua, rua⟩ := r.get hva
  obtain rfl : ua = Value.ref a := rua
  have ndp : ps.Nodup := by
    have e2 : (ps ++ [("__class__" : Str)]).Nodup := by
      rw [← sc.pre]
      exact sc.nd.sublist (List.take_sublist _ _)
    exact (List.nodup_append.mp e2).1
  have hself := NdefX.zip_look ndp hp1 hua
  have kcls : F.scope.names.lookup ("__class__" : Str) = some .free := sc.frk _ (by simp)
  show PySem.wpAt _ _ (.func F.body (NdefX.envF F fI s.heap.objs.size)) (execs F.body (NdefX.envF F fI s.heap.objs.size)) _ _ _
  obtain ⟨cd, hcd, hdd⟩ := PySem.W.any_some T.hd
  obtain ⟨oD, hD1, hD2⟩ : ∃ oD, h₁.get? C = some oD ∧ oD.data = .cls cd := by
    have hcd' := hcd
    unfold PySem.W.clsIn at hcd'
    split at hcd'
    · rename_i c d cd' sl ho
      cases hcd'
      exact ⟨_, kX _ _ ho, rfl⟩
    · cases hcd'
  obtain ⟨t1, ho⟩ := exo_at I.hok hHa
  have J : PySem.W.InstAt h₁ a (eo C t1 none) C none := ⟨ho, rfl, rfl, trivial⟩
  obtain ⟨mb, hmb, hbl⟩ := e1.mod.blt
  have eb := hb0
  have glo : h₁.Ns mainGlobals mg := e1.mod.glob.keeps fun b o e => kp _ _ (e1.bs b o e).1
  have blo : h₁.Ns builtinsNs mb := hmb.keeps fun b o e => kp _ _ (e1.bs b o e).1
  generalize eBody : F.body = BODY at eb
  subst eb
  refine ks_wpAt_execs_cons (ks_wpAt_Expr_any (ks_wpAt_MethodCall ?_ (hev _)) I.quiet (hsw _))
  refine ks_wpAt_super_base (env := NdefX.envF F fI s.heap.objs.size) hks kcls rfl rfl (kX _ _ lk) rfl har rfl (kX _ _ hco) rfl hv2 hfile S.tp ?_
  refine PySem.W.ks_loadName_global sc.kind hks (PySem.Calls.loadGlobal_builtin (env := NdefX.envF F fI s.heap.objs.size) glo hms blo ((hbl _ (by decide +kernel)).trans (show bootBuiltins "super" = some (.type "super") by decide +kernel)) ⟨rfl, ?_⟩)
  refine wpAny_loadName_free sc.kind kcls (show F.cl.lookup ("__class__" : Str) = some cc by rw [S.fl]; simp [List.lookup]) ⟨_, kX _ _ hce, rfl⟩ ?_
  refine wpAny_loadName_local sc.kind kself hns hself ?_
  refine ks_wpAny_isType_cls hD1 hD2 ⟨rfl, ?_⟩
  refine ks_wpAny_call_super hD1 hD2 J.at_ J.cls (fun c e => by cases e) (PySem.W.looks_mroIn kX S.se) (fun h2 e2 k2 => ?_)
  have I2 : Inv (icx P w K mg base N F fI A outer s H E) [] (NdefX.startF N vs [none]) H { s with heap := h2, toks := s.toks + (ps.zip us).length } := I.kept k2
  have J2 : PySem.W.InstAt h2 a (eo C t1 none) C none := ⟨k2 _ _ ho, rfl, rfl, trivial⟩
  obtain ⟨B, newId, ini, bmB, EF, hsup⟩ := T.by_
  have hsup2 : PySem.W.alongIn K "__init__" ((cd.mro.dropWhile (· != .ref C)).drop 1) = some (some (.builtin ini)) := by
    unfold PySem.W.ks_superIn at hsup
    rw [hcd] at hsup
    exact hsup
  have hmro : PySem.W.Looks (model P w) h2 (mroOf (.ref C)) cd.mro := fun A Q E s k q => wpAny_bind ((PySem.W.looks_clsIn (kX.keeps k2) hcd) A _ E s k (wpAny_pure q))
  refine PySem.W.kxs_getMethod EF.kx e2 (PySem.W.looks_opaque (kX.keeps k2) T.th) hmro rfl (kX.keeps k2) hsup2 (J2.type.andThen (PySem.W.looks_subIn (kX.keeps k2) EF.sB)) (PySem.W.ks_ne (kX.keeps k2) J2 hcd) (by decide) ?_
  -- the wrapper stands from now on
  generalize eh3 : h2.push (PySem.W.kxs_mw ini a) = h3
  have k3 : ∀ b o, h2.get? b = some o → h3.get? b = some o := fun b o e => by
    rw [← eh3]
    exact Heap.get?_push_of_some _ e
  have hu3 : h3.get? h2.objs.size = some (PySem.W.kxs_mw ini a) := by
    rw [← eh3]
    exact Heap.get?_push_at rfl rfl
  have I3 : Inv (icx P w K mg base N F fI A outer s H E) [] (NdefX.startF N vs [none]) H { s with heap := h3, toks := s.toks + (ps.zip us).length + 1 } := I2.kept k3
  have I3p : Inv (icx P w K mg base N F fI A outer s H E) [(h2.objs.size, PySem.W.kxs_mw ini a)] (NdefX.startF N vs [none]) H { s with heap := h3, toks := s.toks + (ps.zip us).length + 1 } :=
    I3.pins_of fun p hp => by
      have ep : p = (h2.objs.size, PySem.W.kxs_mw ini a) := by simpa using hp
      subst ep
      exact ⟨hu3, I2.hok.fresh (Nat.le_refl _), Nat.ne_of_gt I2.lt, I2.nofs (Nat.le_refl _), fun v z => by cases z⟩
  show wpAny _ _ (callWith p3 (.ref h2.objs.size) [] (backTo p3 (starEach [e0] (NdefX.envF F fI s.heap.objs.size))) []) _ _ _
  have run := hpa.run p3 _ _ _ _ _ I3p hrd
  have run := run
  have hX : (icx P w K mg base N F fI A outer s H E).env = NdefX.envF F fI s.heap.objs.size := rfl
  rw [hX, hst] at run
  rw [hst]
  refine PySem.W.kxs_callWith (i := ini) (x := a) rfl (PySem.Calls.evalArgs_plain (wpAny_mono run (fun us4 s4 hh => ?_) fun _ _ z => z))
  obtain ⟨ws4, H1, I4, r4, hw4, hHa1, hq⟩ := hh
  have hu4 := (I4.pin (h2.objs.size, PySem.W.kxs_mw ini a) (by simp)).1
  refine ⟨hu4, ?_⟩
  obtain ⟨t4, ho4⟩ := exo_at I4.hok hHa1
  have hz4 : us4.length ≤ sizeLine := by
    rw [← r4.length]
    exact Nat.le_trans hw4 (by decide)
  have I4' : Inv (icx P w K mg base N F fI A outer s H E) [] (NdefX.startF N vs [none]) H1 s4 := I4.pins_of fun p hp => by simp at hp
  obtain ⟨hp4, g4, d4, k4, o4⟩ := s4
  refine bw_call EF I4.kIn ho4 hu4 hz4 fun h5 t5 k5 e5 => ?_
  have I5 : Inv (icx P w K mg base N F fI A outer s H E) [] (NdefX.startF N vs [none]) H1 ⟨h5, g4, d4, k4, o4⟩ := by
    have q := I4'.write (t' := k4) (x := a) (e := a) (o := exo a C none) (by rw [hHa1]; exact True.intro) (.inl rfl) k5 ⟨_, e5⟩ (exo_ok e5)
    have e : upd H1 a (exo a C none) = H1 := by
      funext b
      by_cases hb : b = a
      · rw [hb, upd_same, hHa1]
      · rw [upd_ne hb]
    rw [e] at q
    exact q
  refine PySem.wpAt_of_wpAny (wpAny_mono (hps.run [] _ _ H1 _ I5 hq) (fun fl s' hs => ?_) fun e s' hs => hs)
  have fin : ∀ {σ' : L2.St} {H' : Hp} {v : V} {u : Value}, Inv (icx P w K mg base N F fI A outer s H E) [] σ' H' s' → L2.RelV v u → Q v H' → CE outer P w H s Q u s' := fun J rv q => ⟨_, _, J.os, J.bare, J.base, J.hok, rv, q⟩
  cases fl with
  | ret u =>
    obtain ⟨v, σ', H', J, rv, q⟩ := hs
    exact fin J rv q
  | next =>
    obtain ⟨σ', H', J, q⟩ := hs
    exact fin (v := V.non) (u := Value.none) J rfl q
  | brk =>
    obtain ⟨_, _, _, q⟩ := hs
    exact q.elim
  | cont =>
    obtain ⟨_, _, _, q⟩ := hs
    exact q.elim
end
end Fb

set_option Elab.async false
set_option linter.all false
set_option maxRecDepth 100000
set_option maxHeartbeats 4000000
namespace Fb
open PySem PySem.Spec PyProof.Rows L2
/-! ### an exception object that is tracked: its fields, its class -/
/-- at e stands just the record oe -/
def exk (e : Addr) (oe : Obj) : HO := .ext fun h => h.get? e = some oe
def ExAt (H : Hp) (e C d : Addr) : Prop := H e = some (exo e C (some d)) ∨ ∃ oe vs, H e = some (exk e oe) ∧ oe.cls = .ref C ∧ oe.dict = some d ∧ oe.data = .fields vs
def XdAt (H : Hp) (d : Addr) (fs : List (Str × V)) : Prop := H d = some (.xd fs) ∨ H d = some (exd d fs)
/-- the exception at e: of the class at C, with the fields fs -/
def Err (H : Hp) (e C : Addr) (fs : List (Str × V)) : Prop := ∃ d, ExAt H e C d ∧ XdAt H d fs
theorem Err.same {H H' : Hp} {e C : Addr} {fs : List (Str × V)} (x : Err H e C fs) (s : Same H H') : Err H' e C fs := by
  obtain ⟨d, x1, x2⟩ := x
  refine ⟨d, x1.imp (fun z => s _ _ z) fun ⟨oe, vs, z, r⟩ => ⟨oe, vs, s _ _ z, r⟩, x2.imp (fun z => s _ _ z) fun z => s _ _ z⟩
/-- the same where one other address is forgotten -/
theorem Err.inst {P : Program} {w : World} {H : Hp} {h : Heap} {e C : Addr} {fs : List (Str × V)} (hok : HOk P w H h) (x : Err H e C fs) :
    ∃ (oe od : Obj) (mA : Str → Option Value), PySem.W.InstAt h e oe C (some od) ∧ (∀ name, PySem.W.lookIn name od = some (mA name)) ∧ ∀ f, RelO (fs.lookup f) (mA f) := by
  obtain ⟨d, x1, x2⟩ := x
  have y2 : ∃ mA, h.Ns1 d mA ∧ ∀ f, RelO (fs.lookup f) (mA f) := by
    rcases x2 with z | z
    · exact hok d _ z
    · exact exd_at hok z
  obtain ⟨mA, hns, rel⟩ := y2
  obtain ⟨od, hod, hl⟩ := lookIn_ns hns
  have y1 : ∃ oe vs, h.get? e = some oe ∧ oe.cls = .ref C ∧ oe.dict = some d ∧ oe.data = .fields vs := by
    rcases x1 with z | ⟨oe, vs, z, r⟩
    · obtain ⟨t1, ho⟩ := exo_at hok z
      exact ⟨_, _, ho, rfl, rfl, rfl⟩
    · have y : ObjOk P w H h e (.ext fun h => h.get? e = some oe) := hok e _ z
      exact ⟨oe, vs, y.1, r⟩
  obtain ⟨oe, vs, he, c1, c2, c3⟩ := y1
  refine ⟨oe, od, mA, ⟨he, c1, ?_, ?_⟩, hl, rel⟩
  · unfold PySem.W.notCls
    rw [c3] <;> rfl
  · rw [c2]
    exact hod
/-- e.f -/
def tEf (K : PySem.W.Frag) (n : Str) (te : TE) : TE := fun σ H Q => te σ H fun x H1 => ∃ (a C : Addr) (fs : List (Str × V)) (v : V), x = .ref a ∧ Err H1 a C fs ∧ EC K C ∧ PySem.W.findIn K (.ref C) n = some none ∧ fs.lookup n = some v ∧ Q v H1
theorem pe_ef {X : Cx} {e : Expr} {te : TE} {pos : Pos} {n : Str} (he : PE X e te) (hb : attributeBase e n X.env (eval e X.env) = eval e X.env := by rfl) : PE X (.Attribute e n pos) (tEf X.K n te) := by
  refine ⟨fun pins s σ H Q I h => attr_of hb (thn (he.run pins s σ H _ I h) fun u s1 hh => ?_)⟩
  obtain ⟨x, H1, I1, rx, a, C, fs, v, ex, er, T, hno, l, q⟩ := hh
  subst ex
  obtain rfl : u = Value.ref a := rx
  obtain ⟨oe, od, mA, J, hl, hr⟩ := er.inst I1.hok
  obtain ⟨u, hu, ru⟩ := RelO.some_of (v := v) (o := mA n) (by rw [← l]; exact hr n)
  exact HandSPX.exc_get I1.kIn J T.ga T.gg T.ex (PySem.W.findObj_own T.hd hno rfl (by rw [hl, hu])) (handed_of ru) ⟨v, H1, I1.tok _, ru, q⟩
/-- what isinstance asks of the class besides -/
structure EIs (K : PySem.W.Frag) (C : Addr) : Prop where
  ha : PySem.W.findIn K (.ref C) "__class__" = some (some (.builtin "object.__class__"))
  hn : PySem.W.specialIn K (.builtin "object.__class__") "__get__" = some (some (.builtin "getset_descriptor.__get__"))
  ht : PySem.W.takesIn K (.builtin "object.__class__") = some true
  hm : PySem.W.mroIn K C (.type "object") = some true
/-- isinstance(e, c) -/
def rIsX (K : PySem.W.Frag) : List V → Hp → VK → Prop := fun xs H Q => ∃ (a C : Addr) (fs : List (Str × V)) (c : V) (cv : Value) (b : Bool), xs = [.ref a, c] ∧ Err H a C fs ∧ EC K C ∧ EIs K C ∧ (∀ u, RelV c u → u = cv) ∧ PySem.W.kitOne K (.ref C) cv = some b ∧ Q (.bl b) H
theorem call_isx {X : Cx} : CallR X (.builtin "isinstance") (rIsX X.K) := by
  intro pins s σ H xs us Q I r h
  obtain ⟨a, C, fs, c, cv, b, rfl, er, T, T2, hcv, e, q⟩ := h
  cases r with
  | cons rx rr =>
    cases rr with
    | cons rt rr =>
      cases rr
      cases rx
      have ec := hcv _ rt
      subst ec
      obtain ⟨oe, od, mA, J, _, _⟩ := er.inst I.hok
      exact PySem.W.kia_one (PySem.W.kitx_exc (gt := none) T.cl T.ga T.gg T.ex T2.ha T2.hn T2.ht T2.hm) I.kIn J e (fun z => nomatch z) fun tk => ⟨.bl b, H, I.tok tk, rfl, q⟩
end Fb

set_option Elab.async false
set_option linter.all false
set_option maxRecDepth 100000
set_option maxHeartbeats 4000000
namespace Fb
open PySem PySem.Spec PyProof.Rows L2
/-! ### defs that may be called where an exception is handled -/
abbrev RoomH := L2H.RoomH
theorem RoomH.of {k : Nat} {A : Around} (r : Room k A) : RoomH k A := L2H.roomH_of r
theorem RoomH.marked {k : Nat} {A : Around} {e : Option Value} (r : RoomH k A) : RoomH k (A.mark e) := ⟨r.dp, r.un⟩
/-- such a def's promise -/
structure FnW (P : Program) (w : World) (K : PySem.W.Frag) (mg : Str → Option Value) (base : Heap) (CX : CXT) (k : Nat) (f : Addr) (fd : FuncData) (ps : List Str) (sp : Sp) : Prop where
  len : ∀ vs H Q E, sp vs H Q E → vs.length = ps.length
  run : ∀ (A : Around) (outer : List Env) (s : Shared) (H : Hp) (args : Args) (us : List Value) (vs : List V) (Q : VK) (E : XK), RoomH k A → Env0 P w K mg base A outer s H → BindsTo s fd args (ps.zip us) → Vals vs us → sp vs H Q E →
    codeAny (model P w) A (.call (.ref f) args) (CR CX outer P w H s Q E) s
theorem FnW.ok {P : Program} {w : World} {K : PySem.W.Frag} {mg : Str → Option Value} {base : Heap} {CX : CXT} {k : Nat} {f : Addr} {fd : FuncData} {ps : List Str} {sp : Sp} (F : FnW P w K mg base CX k f fd ps sp) : FnOk P w K mg base CX k f fd ps sp :=
  ⟨F.len, fun A outer s H args us vs Q E hr e0 hb r h => F.run A outer s H args us vs Q E (RoomH.of hr) e0 hb r h⟩
theorem FnW.mono {P : Program} {w : World} {K : PySem.W.Frag} {mg : Str → Option Value} {base : Heap} {CX : CXT} {j k : Nat} {f : Addr} {fd : FuncData} {ps : List Str} {sp : Sp} (F : FnW P w K mg base CX j f fd ps sp) (h : j ≤ k) : FnW P w K mg base CX k f fd ps sp :=
  ⟨F.len, fun A outer s H args us vs Q E hr e0 hb r q => F.run A outer s H args us vs Q E (L2H.RoomH.mono hr h) e0 hb r q⟩
/-- the context of such a body -/
def cxW (CX : CXT) (P : Program) (w : World) (K : PySem.W.Frag) (mg : Str → Option Value) (base : Heap) (N : List Str) (qual : Str) (scope : Scope) (f : Addr) (cd : Value) (A : Around) (outer : List Env) (s : Shared) (H : Hp) (E : XK) : Cx :=
  { cxOf CX P w K mg base N qual scope f cd A outer s H E with calm := false }
theorem Inv.cool {X : Cx} {pins : List (Addr × Obj)} {σ : L2.St} {H : Hp} {s : Shared} {A : Around} {xe : Value → Shared → Prop} (I : Inv X pins σ H s) (hA : A.frames = X.A.frames) : Inv { X with A := A, calm := false, xe := xe } pins σ H s :=
  ⟨⟨I.ok.mod, I.ok.kind, I.ok.glob, I.ok.blt, I.ok.above, I.ok.inj, I.ok.has, I.ok.cab, (fun z => by cases z), hA.trans I.ok.frames, I.ok.stk, I.ok.exf, I.ok.bs, I.ok.bsz, I.ok.noex, I.ok.exfs, I.ok.funs, I.ok.frf⟩,
    I.os, I.bare, I.base, I.loc, I.cell, I.free, I.freeC, I.pin, I.hok, I.len⟩
section
variable {CX : CXT} {P : Program} {w : World} {K : PySem.W.Frag} {mg : Str → Option Value} {base : Heap} {k : Nat} {f : Addr} {name qual x : Str} {params : Arguments} {body : List Stmt} {scope : Scope} {dV kV doc pm cdv ct oc : Value} {an od : Option Addr} {osl : Array (Option Value)} {N ps : List Str} {sp : Sp} {st : Stmt} {fd : FuncData}
theorem fn_ofW (lk : K.lookup f = some ⟨oc, od, .func (PySem.W.fnOf name qual params body scope dV kV doc pm an cdv ct), osl⟩) (hcd : PySem.W.codeIn K cdv qual = true) (S : FnScope N ps scope) (len : ∀ vs H Q E, sp vs H Q E → vs.length = ps.length)
    (hbody : ∀ (A : Around) (outer : List Env) (s : Shared) (H : Hp) (vs : List V) (Q : VK) (E : XK), RoomH k (A.deeper (envOfC qual scope s.heap.objs.size f cdv)) → sp vs H Q E →
      ∃ t, PSs (cxW CX P w K mg base N qual scope f cdv A outer s H E) body t ∧ t { nx := fun _ H' => Q .non H', rt := Q } (start N vs) H) :
    FnW P w K mg base CX (k + 1) f (PySem.W.fnOf name qual params body scope dV kV doc pm an cdv ct) ps sp := by
  refine ⟨len, fun A outer s H args us vs Q E hr e0 hb r hsp => ?_⟩
  have hl := len _ _ _ _ hsp
  have KX : K.In s.heap := e0.mod.kin.keeps fun b o e => (e0.bs b o e).1
  have lim : s.heap.NoLimit := e0.mod.nolimit.keeps fun b o e => (e0.bs b o e).1
  have hkind : ∀ y ∈ ps.zip us, scope.names.lookup y.1 = some .local ∨ (scope.names.lookup y.1 = some .cell ∧ ((cellsFrom (s.heap.objs.size + 1) scope.names []).lookup y.1).isSome = true) := fun y hy => by
    obtain ⟨n, v⟩ := y
    exact (S.par n (List.of_mem_zip hy).1).imp id fun q => ⟨q, PySem.W.cellsFrom_some _ _ _ (.inl q)⟩
  refine codeAny_call_function hr.depth (KX _ _ lk) rfl S.co S.gen rfl (PySem.W.codeRec_of KX hcd) (hb _ _ _ _ ?_)
  refine wpAny_newFunctionEnv_cells S.kind hkind fun env he s1 x => ?_
  subst he
  refine ⟨lim.keeps x.toInCall.keep, codeAny_func ?_⟩
  obtain ⟨t, ht, hq⟩ := hbody A outer s H vs Q E (L2H.RoomH.deeper hr _) hsp
  have e1 : Env0 P w K mg base { A with handled := none } outer s H := ⟨e0.frames, e0.mod, e0.bs, e0.bsz, e0.funs, e0.frf, e0.hok, e0.bare⟩
  have I0 : Inv (cxOf CX P w K mg base N qual scope f cdv { A with handled := none } outer s H E) [] (start N vs) H s1 := inv_start S rfl e1 hl r x
  have I : Inv (cxW CX P w K mg base N qual scope f cdv A outer s H E) [] (start N vs) H s1 := by
    have q := Inv.cool (A := A.deeper (envOfC qual scope s.heap.objs.size f cdv)) (xe := (cxW CX P w K mg base N qual scope f cdv A outer s H E).xe) I0 rfl
    exact q
  refine wpAny_mono (ht.run [] s1 (start N vs) H _ I hq) (fun fl s' hs => ?_) fun e s' hs => hs
  have fin : ∀ {σ' : L2.St} {H' : Hp} {v : V} {u : Value}, Inv (cxW CX P w K mg base N qual scope f cdv A outer s H E) [] σ' H' s' → L2.RelV v u → Q v H' → CE outer P w H s Q u s' := fun J rv q => ⟨_, _, J.os, J.bare, J.base, J.hok, rv, q⟩
  cases fl with
  | ret u =>
    obtain ⟨v, σ', H', J, rv, q⟩ := hs
    exact fin J rv q
  | next =>
    obtain ⟨σ', H', J, q⟩ := hs
    exact fin (v := V.non) (u := Value.none) J rfl q
  | brk =>
    obtain ⟨_, _, _, q⟩ := hs
    exact q.elim
  | cont =>
    obtain ⟨_, _, _, q⟩ := hs
    exact q.elim
/-- a def of the text, callable everywhere -/
theorem okW (F : Fun K x qual st f fd) (S : FnScope N ps (defScope st)) (len : ∀ vs H Q E, sp vs H Q E → vs.length = ps.length)
    (hbody : ∀ (cdv : Value) (A : Around) (outer : List Env) (s : Shared) (H : Hp) (vs : List V) (Q : VK) (E : XK), RoomH k (A.deeper (envOfC qual (defScope st) s.heap.objs.size f cdv)) → sp vs H Q E →
      ∃ t, PSs (cxW CX0 P w K mg base N qual (defScope st) f cdv A outer s H E).nox (defBody st) t ∧ t { nx := fun _ H' => Q .non H', rt := Q } (start N vs) H) : FnW P w K mg base CX0 (k + 1) f fd ps sp := by
  obtain ⟨oc, od, kV, doc, pm, an, cdv, ct, osl, rfl, lk, hcd⟩ := F.ex
  refine fn_ofW lk hcd S len fun A outer s H vs Q E hr hsp => ?_
  obtain ⟨t, h, q⟩ := hbody cdv A outer s H vs Q E hr hsp
  exact ⟨t, h.nox, q⟩
end
section
variable {X : Cx} {CX : CXT} {k : Nat} {f C : Addr} {fd : FuncData} {ps : List Str} {sp : Sp} {E : XK} {x : Str} {q pos : Pos} {e : Expr} {es : List Expr} {t : TA}
theorem run_fnW {pins : List (Addr × Obj)} {σ : L2.St} {H : Hp} {s : Shared} {Q : VK} {us : List Value} {vs : List V} (F : FnW X.prog X.w X.K X.mg X.base CX k f fd ps sp) (hr : RoomH k X.A) (hb : Binds X.K fd ps []) (hx : Passes CX X E)
    (I : Inv X pins σ H s) (r : Vals vs us) (h : sp vs H Q E) : wpAny (model X.prog X.w) X.A (call (.ref f) us) (EP X pins σ Q) X.xe s := by
  have hl : us.length = ps.length := r.length.symm.trans (F.len _ _ _ _ h)
  have b := hb s us I.kIn (by rw [List.append_nil]; exact hl)
  rw [List.append_nil] at b
  refine wpAny_call (codeAny_mono (F.run X.A X.stack s H ⟨us, []⟩ us vs Q E hr I.env0 b r h) fun r s' hq => ?_)
  cases r with
  | error e => exact hx pins σ H s e s' I hq
  | ok fl =>
    cases fl with
    | ret u => exact I.after hq
    | next => exact hq.elim
    | brk => exact hq.elim
    | cont => exact hq.elim
/-- f(e, ..) -/
theorem pe_callW (F : FnW X.prog X.w X.K X.mg X.base CX k f fd ps sp) (hr : RoomH k X.A) (hg : Gl X x) (hm : X.mg x = some (.ref f)) (hk : PySem.W.keepIn X.K (.ref f) = true) (hb : Binds X.K fd ps []) (hx : Passes CX X E)
    (ha : PA X (e :: es) t) (hdb : (x == ("__debug__" : Str)) = false := by decide) (he : starEach (e :: es) X.env = (false, eval e X.env) :: starEach es X.env := by rfl) (hpl : (backTo pos (starEach es X.env)).any (·.1) = false := by rfl) :
    PE X (.Call (.Name x q) (e :: es) [] pos) (tCall sp [] E t) := by
  refine ⟨fun pins s σ H Q I h => wpAny_Call_Name_kw (ld_glob I hg hm ?_ hdb)⟩
  refine PySem.W.callWith_K (h₀ := X.base) I.ok.mod.kin hk (thn (ha.run pos pins s σ H _ I h) fun us s1 ⟨vs, H1, I1, r, q⟩ => ⟨I1.kIn, ?_⟩) he hpl
  have q' : sp (vs ++ []) H1 Q E := q
  rw [List.append_nil] at q'
  exact run_fnW F hr hb hx I1 r q'
end
end Fb

set_option Elab.async false
set_option linter.all false
set_option maxRecDepth 100000
set_option maxHeartbeats 4000000
namespace Fb
open PySem PySem.Spec PyProof.Rows L2
/-! ### try: .. except C as n: .. except D as n: .., the caught error tracked in the suites -/
abbrev hot (X : Cx) (a : Addr) (pn : List (Addr × Obj)) : Cx := X.suite a pn
theorem exk_ok {P : Program} {w : World} {H : Hp} {h : Heap} {e : Addr} {oe : Obj} (he : h.get? e = some oe) : ObjOk P w H h e (exk e oe) := ⟨he, ⟨_, he⟩, fun h1 h2 z k => k _ z⟩
theorem exk_own {e x : Addr} {oe : Obj} : exk e oe ≠ .own x := fun z => by
  have z' : HO.ext _ = HO.own x := z
  cases z'
section
variable {X : Cx} {pins : List (Addr × Obj)} {σ : L2.St} {H : Hp} {s : Shared} {a : Addr} {oe : Obj} {vs : Array Value}
/-- an object that nobody tracked is tracked from now on -/
theorem Inv.track (I : Inv X pins σ H s) (ha : s.heap.get? a = some oe) (hd : oe.data = .fields vs) (na : H a = none) (nL : a ≠ X.env.locals) (n0 : X.s_0.heap.get? a = none) (np : ∀ p ∈ X.pn ++ pins, p.1 ≠ a) : Inv X pins σ (upd H a (exk a oe)) s := by
  have old : ∀ {b : Addr} {v : HO}, H b = some v → b ≠ a := fun q => ne_of_none q na
  refine ⟨I.ok, I.os, I.bare, ⟨I.base.keep, I.base.slot, fun b o e n hx => ?_, I.base.there, fun b xs q => ?_, fun b o v q => ?_, fun b ps q => ?_⟩, I.loc, I.cell, (upd_ne (Ne.symm nL)).trans I.free, fun x c e => ?_, fun p hp => ?_, fun b o q => ?_, I.len⟩
  · refine (upd_ne fun z => ?_).trans (I.base.free b o e n hx)
    rw [z, n0] at e
    cases e
  · have q' := I.base.tups b xs q
    exact (upd_ne (old q')).trans q'
  · have q' := I.base.frzs b o v q
    exact (upd_ne (old q')).trans q'
  · obtain ⟨more, q'⟩ := I.base.tbls b ps q
    exact ⟨more, (upd_ne (old q')).trans q'⟩
  · refine (upd_ne fun z => ?_).trans (I.freeC x c e)
    obtain ⟨v, o, ho, hdc⟩ := I.cell x c e
    rw [z, ha] at ho
    cases ho
    rw [hd] at hdc
    cases hdc
  · obtain ⟨p1, p2, p3, p4, p5⟩ := I.pin p hp
    exact ⟨p1, (upd_ne (np p hp)).trans p2, p3, p4, p5⟩
  · by_cases hb : b = a
    · subst hb
      rw [upd_same] at q
      cases q
      exact exk_ok ha
    · rw [upd_ne hb] at q
      exact (I.hok b o q).stay (fun c v _ z => z) (fun c hc => (upd_ne (old hc)).trans hc) fun c xs hc => (upd_ne (old hc)).trans hc
end
/-- what the clauses wish of an error of the body, one after the other; the i: the slot of the clause's name -/
def wTry (K : PySem.W.Frag) (Wout : WX) (D : Ends) : List (Value × Nat × TS) → WX
  | [] => Wout
  | (c, i, ts) :: r => fun cls d σ H => ∃ b, PySem.W.exmOne K cls c = some b ∧
      (b = true → ∀ (a : Addr) (oe : Obj) (vs : Array Value), H a = none → oe.cls = cls → oe.dict = d → oe.data = .fields vs →
        ts { nx := fun σ' H' => D.nx (σ'.set i none) H', rt := D.rt, bk := fun σ' H' => D.bk (σ'.set i none) H', ct := fun σ' H' => D.ct (σ'.set i none) H' } (σ.set i (some (.ref a))) (upd H a (exk a oe))) ∧
      (b = false → wTry K Wout D r cls d σ H)
inductive Cls3 (X : Cx) : List ExceptHandler → List (Value × Nat × TS) → Prop
  | nil : Cls3 X [] []
  | cons {x n : Str} {c : Value} {i : Nat} {ts : TS} {b₀ : Stmt} {suite : List Stmt} {np pos' : Pos} {hds : List ExceptHandler} {l : List (Value × Nat × TS)} (hi : X.N[i]? = some n) (hln : X.env.kindOf n = some .local) (hc : Names X x c)
      (hsu : ∀ (a : Addr) (pn : List (Addr × Obj)), PSs (hot X a pn) (b₀ :: suite) ts) (r : Cls3 X hds l) : Cls3 X (.ExceptHandler (some (.Name x np)) (some n) (b₀ :: suite) pos' :: hds) ((c, i, ts) :: l)
section
variable {X : Cx} {body : List Stmt} {h0 : ExceptHandler} {hds : List ExceptHandler} {l : List (Value × Nat × TS)} {pos : Pos} {tb : WX → TS} {Wout : WX}
theorem ps_tryN (hs : X.stack = X.env :: X.outer) (hf : X.env.frame = some X.env.locals) (hN : X.N.Nodup) (hex : X.ex = []) (tk : Takes X Wout)
    (hb : ∀ (W : WX) (pn : List (Addr × Obj)) (xe : Value → Shared → Prop), Takes (X.tr pn xe) W → PassesOwn (model X.prog X.w) X.A X.env xe → PSs (X.tr pn xe) body (tb W))
    (hh : Cls3 X (h0 :: hds) l) : PS X (.Try body (h0 :: hds) [] [] pos) (fun D σ H => tb (wTry X.K Wout D l) D σ H) := by
  refine ⟨fun pins s σ H D I h => ?_⟩
  have ok := I.ok
  have hfr : X.A.frames = some (X.env :: X.outer) := by rw [ok.frames, hs]
  have through : ∀ (f : Flow) (s1 : Shared), SP (X.tr (X.pn ++ pins) fun e s₁ => wpAny (model X.prog X.w) X.A (noteFrame e X.env) (fun _ s₂ => wpAny (model X.prog X.w) X.A (setFlight e none) (fun _ s₃ => wpAny (model X.prog X.w) X.A (handleBy e X.env (h0 :: hds)) (SP X pins D) X.xe s₃) X.xe s₂) X.xe s₁) [] D f s1 → SP X pins D f s1 := fun f s1 hsp => by
    cases f with
    | next => exact let ⟨σ', H', J', q⟩ := hsp; ⟨σ', H', J'.ofTry ok, q⟩
    | brk => exact let ⟨σ', H', J', q⟩ := hsp; ⟨σ', H', J'.ofTry ok, q⟩
    | cont => exact let ⟨σ', H', J', q⟩ := hsp; ⟨σ', H', J'.ofTry ok, q⟩
    | ret u => exact let ⟨v, σ', H', J', r, q⟩ := hsp; ⟨v, σ', H', J'.ofTry ok, r, q⟩
  refine wpAny_Try_except (wpAny_mono ((hb (wTry X.K Wout D l) (X.pn ++ pins) _ (fun u s' xx => ?_) PassesOwn.looking).run [] s σ H D (I.toTry _) h) (fun f s1 hsp => ?_) (fun e s1 he => he))
  · obtain ⟨a, B, sI, pins', σ', H', cls, d, rfl, J', nb, up, sky, na, os, ag, w⟩ := xx
    have J : Inv X pins σ' H' sI := J'.ofTry ok
    have sky' : Sky B (X.env :: X.outer) a (Zc cls d) X.env.locals s'.heap := by rw [← hs]; exact sky
    show wpAny (model X.prog X.w) X.A (noteFrame (.ref a) X.env) _ _ _
    refine Sky.land Zc.steady hfr hf sky' fun h3 fl3 up3 => ?_
    have J3 : Inv X pins σ' H' { s' with heap := h3 } := J.landed nb fl3.1 (up.trans up3) os ag
    obtain ⟨oe3, vs3, he3, hz3, hd3⟩ := fl3.there
    have nfr : a ∉ frs (X.env :: X.outer) := fun hm => by
      obtain ⟨_, o', e', hnf⟩ := fl3.2.2.1.mem hm
      rw [he3] at e'
      cases e'
      exact hnf _ hd3
    have nL : a ≠ X.env.locals := fun z => nfr (List.mem_filterMap.mpr ⟨X.env, List.mem_cons_self, by rw [hf, z]⟩)
    have nst : a ∉ frs X.stack := by rw [hs]; exact nfr
    -- the error is new: nothing stood at its place
    have noSI : sI.heap.get? a = none := by
      cases e : sI.heap.get? a with
      | none => rfl
      | some o =>
        have z := nb a o e nst
        rw [fl3.2.1] at z
        cases z
    have n0 : X.s_0.heap.get? a = none := by
      cases e : X.s_0.heap.get? a with
      | none => rfl
      | some o =>
        obtain ⟨o', z⟩ := J.base.there a o e (by rw [hex]; simp)
        rw [noSI] at z
        cases z
    have npn : ∀ p ∈ X.pn ++ pins, p.1 ≠ a := fun p hp z => by
      have e := (J.pin p hp).1
      rw [z, noSI] at e
      cases e
    have nF : a ∉ X.fs := fun hm => by
      obtain ⟨e, he, q⟩ := List.mem_filterMap.mp hm
      exact nfr (List.mem_filterMap.mpr ⟨e, List.mem_cons_of_mem _ he, q⟩)
    have S3 := J3.suite he3 hd3 na nL nF
    have go : ∀ {hds' : List ExceptHandler} {l' : List (Value × Nat × TS)}, Cls3 X hds' l' → wTry X.K Wout D l' cls d σ' H' → wpAny (model X.prog X.w) X.A (handleBy (.ref a) X.env hds') (SP X pins D) X.xe { s' with heap := h3 } := by
      intro hds' l' hk
      induction hk with
      | nil =>
        intro w
        refine wpAny_handleBy_nil ?_
        obtain ⟨k1, k2, k3, oe, vs, T, oT, ts', he, hz, hd, h1, hr⟩ := id fl3
        unfold PySem.passOn
        refine wpAny_bind (wpAny_field he hd h1 ?_)
        rw [if_neg (show ¬ ((Value.ref T == Value.none) = true) from by simp)]
        have fin : wpAny (model X.prog X.w) X.A (setFlight (.ref a) X.env.frame) (fun _ s4 => wpAny (model X.prog X.w) X.A (throw (.ref a) : Sem Flow) (SP X pins D) X.xe s4) X.xe { s' with heap := h3 } := by
          rw [hf]
          exact HandSPX.setFlight_upZ fl3 fun h4 hh4 up4 => wpAny_throw (tk _ _ ⟨a, B, sI, pins, σ', H', cls, d, rfl, J, nb, (up.trans up3).trans up4, .inr (.inr (by rw [hs]; exact hh4)), na, os, ag, w⟩)
        first | exact wpAny_bind (wpAny_pure (wpAny_bind fin)) | exact wpAny_bind fin
      | @cons x n c i ts b₀ suite np pos' hds2 l2 hi hln hc hsu r ih =>
        intro w
        obtain ⟨b, hb1, hyes, hno⟩ := w
        refine wpAny_handleBy_cons (codeAny_handlers_test ?_) (by intro q; cases q)
        have LT : PySem.W.Looks (model X.prog X.w) h3 (typeOf (.ref a)) cls := fun A Q E s k q => wpAny_typeOf_ref (k _ _ he3) (by rw [hz3.1]; exact q)
        have LM := PySem.W.exm_one (M := model X.prog X.w) (J3.kIn) LT hb1
        have test : ∀ {Q : Value → Shared → Prop} {E : Value → Shared → Prop}, Q c { s' with heap := h3 } → wpAny (model X.prog X.w) (X.A.mark (some (.ref a))) (eval (.Name x np) X.env) Q E { s' with heap := h3 } := fun {Q E} q => by
          obtain ⟨hg, hdbg, hm | ⟨hm, hv, hnn⟩⟩ := hc
          · exact ld_glob (X := X.suite a ((a, oe3) :: (X.pn ++ pins))) S3 hg hm q hdbg
          · exact ld_blt (X := X.suite a ((a, oe3) :: (X.pn ++ pins))) S3 hg hm hv q hnn hdbg
        refine test (LM.here ?_)
        cases b with
        | true =>
          refine codeAny_handlers_suite_as (HandSPX.lands_againZ fl3 fun h4 fl4 up4 => ?_)
          have J4 : Inv X pins σ' H' { s' with heap := h4 } := J.landed nb fl4.1 ((up.trans up3).trans up4) os ag
          obtain ⟨oe4, vs4, he4, hz4, hd4⟩ := fl4.there
          have T4 : Inv X pins σ' (upd H' a (exk a oe4)) { s' with heap := h4 } := Inv.track J4 he4 hd4 na nL n0 npn
          have S4 : Inv (hot X a (X.pn ++ pins)) [] σ' (upd H' a (exk a oe4)) { s' with heap := h4 } :=
            ⟨ok.suite _ _, T4.os, T4.bare, T4.base, T4.loc, T4.cell, T4.free, T4.freeC, fun p hp => T4.pin p (by rw [List.append_nil] at hp; exact hp), T4.hok, T4.len⟩
          refine store_ok (X := hot X a (X.pn ++ pins)) (v := .ref a) S4 hN hi (.inl hln) rfl (fun s5 S5 => ?_) (.inr hln)
          refine wpAny_mono ((hsu a (X.pn ++ pins)).run [] s5 _ _ _ S5 (hyes rfl a oe4 vs4 na hz4.1 hz4.2 hd4)) (fun f s6 hsp => ?_) (fun _ _ z => False.elim z)
          have back : ∀ {σ6 : L2.St} {H6 : Hp}, Inv (hot X a (X.pn ++ pins)) [] σ6 H6 s6 → Inv X pins σ6 H6 s6 := fun S6 => ⟨ok, S6.os, S6.bare, S6.base, S6.loc, S6.cell, S6.free, S6.freeC, fun p hp => S6.pin p (by rw [List.append_nil]; exact hp), S6.hok, S6.len⟩
          have end_ : ∀ {σ6 : L2.St} {H6 : Hp} {Q : Shared → Prop}, Inv (hot X a (X.pn ++ pins)) [] σ6 H6 s6 → (∀ s7, Inv X pins (σ6.set i none) H6 s7 → Q s7) →
              wpAny (model X.prog X.w) X.A (do bindName X.env n .none; unbindBehindTheSuite X.env n pos') (fun _ s7 => Q s7) X.xe s6 := fun S6 hq => gone_ok (back S6) hN hi hln hq
          cases f with
          | next =>
            obtain ⟨σ6, H6, S6, q6⟩ := hsp
            exact end_ S6 fun s7 J7 => ⟨_, _, J7, q6⟩
          | brk =>
            obtain ⟨σ6, H6, S6, q6⟩ := hsp
            exact end_ S6 fun s7 J7 => ⟨_, _, J7, q6⟩
          | cont =>
            obtain ⟨σ6, H6, S6, q6⟩ := hsp
            exact end_ S6 fun s7 J7 => ⟨_, _, J7, q6⟩
          | ret u =>
            obtain ⟨v6, σ6, H6, S6, r6, q6⟩ := hsp
            exact end_ S6 fun s7 J7 => ⟨_, _, _, J7, r6, q6⟩
        | false =>
          show wpAny _ X.A (handleBy (.ref a) X.env hds2) _ _ _
          exact ih (hno rfl)
    exact go hh w
  · have z := through f s1 hsp
    cases f with
    | next => exact wpAny_execs_nil z
    | brk => exact z
    | cont => exact z
    | ret u => exact z
end
end Fb

set_option Elab.async false
set_option linter.all false
set_option maxRecDepth 100000
set_option maxHeartbeats 4000000
namespace Fb
open PySem PySem.Spec
open Builtin Builtin.List Builtin.Tuple
/-! ### the text of nested data: some text, of bounded length, whatever is under way -/
def RW (P : Program) (w : World) (h₀ : Heap) (d : Nat) (x : Value) (n : Nat) : Prop :=
  ∀ (base : Nat), base + n ≤ sizeLine → ∀ (A : Around) (E : Value → Shared → Prop) (s : Shared) (Q : Str → Shared → Prop), A.units + d < cLine → (∀ b o, h₀.get? b = some o → s.heap.get? b = some o) →
    (∀ h' tk (t : Str), (∀ b o, s.heap.get? b = some o → h'.get? b = some o) → t.length ≤ n → Q t { s with heap := h', toks := tk }) → wpAny (model P w) A (pyReprUnder base x) Q E s
theorem RW.is {P : Program} {w : World} {h₀ : Heap} {d n : Nat} {x : Value} {t : Str} (h : ReprIs P w x t) (hn : t.length ≤ n) : RW P w h₀ d x n := fun base hb A E s Q _ _ hQ =>
  h base (by omega) A E s Q fun tk => hQ s.heap tk t (fun _ _ e => e) hn
theorem textFrom_le : ∀ (ts : List Str) (k : Nat) (acc : Str), (textFrom k acc ts).length ≤ acc.length + piled ts
  | [], _, acc => Nat.le_refl _
  | t :: r, k, acc => by
    have ih := textFrom_le r (k + 1) (acc ++ (if k > 0 then ", " else "" : String) ++ t)
    have e : (acc ++ (if k > 0 then ", " else "" : String) ++ t).length ≤ acc.length + 2 + t.length := by
      rw [strLen_append, strLen_append]
      split
      · exact Nat.le_refl _
      · exact Nat.add_le_add_right (Nat.add_le_add_left (Nat.zero_le 2) _) _
    rw [piled_cons]
    exact Nat.le_trans ih (by omega)
theorem piled_le : ∀ (ts : List Str) (m : Nat), (∀ t ∈ ts, t.length ≤ m) → piled ts ≤ ts.length * (m + 2)
  | [], _, _ => Nat.zero_le _
  | t :: r, m, h => by
    have h1 := h t List.mem_cons_self
    have h2 := piled_le r m fun u hu => h u (List.mem_cons_of_mem _ hu)
    rw [piled_cons, List.length_cons, Nat.succ_mul]
    omega
section
variable {P : Program} {w : World} {A : Around} {R : Result → Shared → Prop}
theorem loopW {a p : Addr} {items : Array Value} {h₀ : Heap} {d base m : Nat} (hne : a ≠ p) (hu : A.units + (d + 1) < cLine) (hPf : h₀.get? p = none) (hT : ∀ (i : Nat) (x : Value), items[i]? = some x → RW P w h₀ d x m) (hsz : base + items.size * (m + 2) + 2 ≤ sizeLine) :
    ∀ (k i : Nat) (s : Shared) (oa : Obj) (na : Nat) (acc : Array Value) (c : Nat) (done : List (Str × Tok)) (signs : Nat), items.size - i = k → i ≤ items.size → (∀ b o, h₀.get? b = some o → s.heap.get? b = some o) → s.heap.get? a = some oa → oa.data = .seq items na →
    s.heap.get? p = some { cls := .type "list", dict := none, data := .seq acc c, slots := #[] } → acc.toList = strValues done → done.length = i → (∀ t ∈ done.map (·.1), t.length ≤ m) → signs ≤ base + i * (m + 2) →
    (∀ h' u tk (t : Str), (∀ b o, b ≠ p → s.heap.get? b = some o → h'.get? b = some o) → t.length ≤ items.size * (m + 2) + 2 → R (.ok (.ret (.str t u))) { s with heap := h', toks := tk }) →
    codeAny (model P w) A (.builtin "list.__repr__.loop" ⟨[.ref a, rawInt i, .ref p, rawInt ((signs : Nat) : Int)], []⟩) R s := by
  intro k
  induction k with
  | zero =>
    intro i s oa na acc c done signs hk hi hk0 ha hda hP hacc hlen hdone hs hR
    have hin : i = items.size := by omega
    refine codeAny_builtin F.entry_list_repr_loop ?_
    show wpAny _ _ («list.__repr__.loop» ⟨[.ref a, .int i 0, .ref p, .int (signs : Int) 0], []⟩) _ _ s
    rw [repr_loop_tree]
    refine wpAny_bind (wpAny_listItems ha hda ?_)
    have hnone : items[(i : Int).toNat]? = none := by simp [hin]
    simp only [hnone]
    unfold reprEnd
    refine wpAny_bind (wpAny_listItems hP rfl ?_)
    rw [hacc, repr_fold]
    have h1 := textFrom_le (done.map (·.1)) 0 "["
    have h2 := piled_le _ m hdone
    rw [List.length_map, hlen, hin] at h2
    have h3 : (textFrom 0 "[" (done.map (·.1)) ++ ("]" : Str)).length ≤ items.size * (m + 2) + 2 := by
      rw [strLen_append]
      have e1 : (("[" : String) : Str).length = 1 := rfl
      have e2 : (("]" : String) : Str).length = 1 := rfl
      rw [e1] at h1
      rw [e2]
      omega
    exact wpAny_bind (wpAny_pure (wpAny_bind (wpAny_mkStr (wpAny_pure (hR s.heap _ _ _ (fun _ _ _ e => e) h3)) (by omega))))
  | succ k ih =>
    intro i s oa na acc c done signs hk hi hk0 ha hda hP hacc hlen hdone hs hR
    have hlt : i < items.size := by omega
    have hrep := hT i items[i] (by simp [hlt])
    have hm : (i + 1) * (m + 2) ≤ items.size * (m + 2) := Nat.mul_le_mul_right _ hlt
    rw [Nat.succ_mul] at hm
    refine codeAny_builtin F.entry_list_repr_loop ?_
    show wpAny _ _ («list.__repr__.loop» ⟨[.ref a, .int i 0, .ref p, .int (signs : Int) 0], []⟩) _ _ s
    rw [repr_loop_tree]
    refine wpAny_bind (wpAny_listItems ha hda ?_)
    have hsome : items[(i : Int).toNat]? = some items[i] := by simp [hlt]
    simp only [hsome]
    rw [Int.toNat_natCast]
    refine wpAny_bind (wpAny_holding (hrep (signs + 1) (by omega) _ _ _ _ (by rw [units_under_list_loop]; omega) hk0 fun h' tk t hkp ht => ?_))
    refine wpAny_bind (wpAny_mkStr (wpAny_bind ?_) (by omega))
    show wpAny _ _ (updateSeq p _) _ _ _
    have hasz : acc.size ≤ sizeLine := by
      have e1 : acc.size = done.length := by
        rw [← Array.length_toList, hacc]
        simp [strValues]
      rw [e1, hlen]
      have : items.size ≤ items.size * (m + 2) := Nat.le_mul_of_pos_right _ (by omega)
      omega
    refine wpAny_updateSeq (hkp _ _ hP) rfl (wpAny_pure ⟨F.quiet_list_repr_loop _, ?_⟩) hasz
    have e1 : ((i : Int) + 1) = ((i + 1 : Nat) : Int) := by omega
    rw [e1]
    have np : ∀ {b : Addr} {o : Obj}, h₀.get? b = some o → p ≠ b := fun e h => by rw [← h, hPf] at e; cases e
    refine ih (i + 1) _ oa na (acc.push (.str t tk)) _ (done ++ [(t, tk)]) _ (by omega) hlt (fun b o e => (Heap.get?_update_other _ _ (np e)).trans (hkp _ _ (hk0 _ _ e))) ((Heap.get?_update_other _ _ (fun h : p = a => hne h.symm)).trans (hkp _ _ ha)) hda
      (Heap.get?_update_self _ (hkp _ _ hP) rfl) (by simp [hacc, strValues]) (by simp [hlen]) (fun u hu => ?_) (by rw [Nat.succ_mul]; omega) fun h'' u tk' t' hh => ?_
    · rw [List.map_append] at hu
      rcases List.mem_append.mp hu with hu | hu
      · exact hdone u hu
      · have e : u = t := by simpa using hu
        rw [e]
        exact ht
    · exact hR h'' u tk' t' fun b o hb e => hh b o hb ((Heap.get?_update_other _ _ (fun h : p = b => hb h.symm)).trans (hkp _ _ e))

theorem listAtW {a : Addr} {oa : Obj} {items : Array Value} {na : Nat} {h₀ : Heap} {d base m : Nat} {s : Shared} (ha : h₀.get? a = some oa) (hda : oa.data = .seq items na) (hu : A.units + (d + 1) < cLine) (hT : ∀ (i : Nat) (x : Value), items[i]? = some x → RW P w h₀ d x m)
    (hsz : base + (items.size * (m + 2) + 7) ≤ sizeLine) (hk0 : ∀ b o, h₀.get? b = some o → s.heap.get? b = some o)
    (hR : ∀ h' u tk (t : Str), (∀ b o, s.heap.get? b = some o → h'.get? b = some o) → t.length ≤ items.size * (m + 2) + 7 → R (.ok (.ret (.str t u))) { s with heap := h', toks := tk }) :
    wpAny (model P w) A.in1 (Builtin.listReprAt base ⟨[.ref a], []⟩) (fun fin s' => match fin with | .done f => R (.ok f) s' | .again c' => c'.quiet = true ∧ codeAny (model P w) A c' R s') (fun e s' => R (.error e) s') s := by
  have w1 : (("[]" : String) : Str).length ≤ items.size * (m + 2) + 7 := Nat.le_trans (by decide +kernel : (("[]" : String) : Str).length ≤ 7) (Nat.le_add_left _ _)
  have w2 : (("[...]" : String) : Str).length ≤ items.size * (m + 2) + 7 := Nat.le_trans (by decide +kernel : (("[...]" : String) : Str).length ≤ 7) (Nat.le_add_left _ _)
  unfold Builtin.listReprAt
  refine wpAny_bind (wpAny_of_eq (a := ((Value.ref a : Value), ([] : List Value))) (by first | rfl | (simp only [slotArgs]; rfl)) ?_)
  refine wpAny_bind (wpAny_listItems (hk0 _ _ ha) hda ?_)
  by_cases he : items.isEmpty = true
  · rw [if_pos he]
    refine wpAny_bind (wpAny_rule (wpAny_bind (wpAny_mkStr (wpAny_pure ?_) (by decide +kernel))))
    exact hR s.heap _ _ _ (fun _ _ e => e) w1
  · rw [if_neg he]
    refine wpAny_bind (wpAny_stack_any fun st => ?_)
    dsimp only
    generalize (st.tail.any _) = running
    cases running
    rotate_left
    all_goals simp only [Bool.false_eq_true, if_false, if_true]
    · refine wpAny_bind (wpAny_rule (wpAny_bind (wpAny_mkStr (wpAny_pure ?_) (by decide +kernel))))
      exact hR s.heap _ _ _ (fun _ _ e => e) w2
    · refine wpAny_bind (m := newList []) (wpAny_newObj_type (wpAny_pure ⟨F.quiet_list_repr_loop _, ?_⟩))
      have hPf : h₀.get? s.heap.objs.size = none := by
        cases e : h₀.get? s.heap.objs.size with
        | none => rfl
        | some o => exact absurd (Heap.lt_size (hk0 _ _ e)) (Nat.lt_irrefl _)
      refine loopW (p := s.heap.objs.size) (base := base) (m := m) (Nat.ne_of_lt (Heap.lt_size (hk0 _ _ ha))) hu hPf hT (by omega) _ 0 _ oa na #[] _ [] base rfl (Nat.zero_le _) (fun b o e => Heap.get?_push_of_some _ (hk0 _ _ e)) (Heap.get?_push_of_some _ (hk0 _ _ ha)) hda
        (Heap.get?_push_size _ rfl) rfl rfl (fun t ht => by simp at ht) (by omega) fun h' u tk t hk ht => ?_
      exact hR h' u tk t (fun b o e => hk b o (Nat.ne_of_lt (Heap.lt_size e)) (Heap.get?_push_of_some _ e)) (by omega)

theorem tupFoldW {h₀ : Heap} {d m : Nat} {E : Value → Shared → Prop} (hu : A.units + d < cLine) : ∀ (l : List Value) (acc : Array Str) (n : Nat) (s : Shared) (Q : (Array Str × Nat) → Shared → Prop), (∀ x ∈ l, RW P w h₀ d x m) → n + l.length * (m + 2) ≤ sizeLine →
    (∀ b o, h₀.get? b = some o → s.heap.get? b = some o) → (∀ h' tk (ts : List Str) n', (∀ b o, s.heap.get? b = some o → h'.get? b = some o) → ts.length = l.length → (∀ t ∈ ts, t.length ≤ m) → Q ⟨acc ++ ts.toArray, n'⟩ { s with heap := h', toks := tk }) →
    wpAny (model P w) A (forIn l (⟨acc, n⟩ : (Array Str × Nat)) tupBody) Q E s := by
  intro l
  induction l with
  | nil =>
    intro acc n s Q _ _ _ h
    have h0 := h s.heap s.toks [] n (fun _ _ e => e) rfl (fun _ z => by simp at z)
    rw [List.forIn_nil]
    exact wpAny_pure (by simpa using h0)
  | cons x l ih =>
    intro acc n s Q hT hn hk0 h
    rw [List.length_cons, Nat.succ_mul] at hn
    rw [List.forIn_cons]
    refine wpAny_bind (wpAny_bind (hT x List.mem_cons_self (n + 1) (by omega) _ _ _ _ hu hk0 fun h' tk t hkp ht => wpAny_pure ?_))
    refine ih (acc.push t) (n + (t.length + 2)) _ Q (fun y hy => hT y (List.mem_cons_of_mem _ hy)) (by omega) (fun b o e => hkp _ _ (hk0 _ _ e)) fun h'' tk' ts n' hk2 hl hts => ?_
    have h1 := h h'' tk' (t :: ts) n' (fun b o e => hk2 _ _ (hkp _ _ e)) (by rw [List.length_cons, hl, List.length_cons]) fun u hu => (List.mem_cons.mp hu).elim (fun z => z ▸ ht) (hts u)
    simpa using h1
theorem tupAtW {a : Addr} {o : Obj} {items : Array Value} {n : Nat} {h₀ : Heap} {d base m : Nat} {s : Shared} {Q : Fin → Shared → Prop} {E : Value → Shared → Prop} (ha : h₀.get? a = some o) (hd : o.data = .seq items n) (hu : A.units + d < cLine) (hT : ∀ x ∈ items.toList, RW P w h₀ d x m)
    (hsz : base + (items.size * (m + 2) + 7) ≤ sizeLine) (hk0 : ∀ b o, h₀.get? b = some o → s.heap.get? b = some o)
    (hQ : ∀ h' u tk (t : Str), (∀ b o, s.heap.get? b = some o → h'.get? b = some o) → t.length ≤ items.size * (m + 2) + 7 → Q (.done (.ret (.str t u))) { s with heap := h', toks := tk }) :
    wpAny (model P w) A (Builtin.tupleReprAt base ⟨[.ref a], []⟩) Q E s := by
  have w2 : (("(...)" : String) : Str).length ≤ items.size * (m + 2) + 7 := Nat.le_trans (by decide +kernel : (("(...)" : String) : Str).length ≤ 7) (Nat.le_add_left _ _)
  rw [tuple_repr_tree]
  refine wpAny_bind (fmt_underWay fun b => ?_)
  cases b with
  | true =>
    refine PySem.W.KFB.if_so rfl (wpAny_bind (wpAny_rule (wpAny_bind (wpAny_mkStr (wpAny_pure ?_) (by decide +kernel)))))
    exact hQ s.heap _ _ _ (fun _ _ e => e) w2
  | false =>
    refine PySem.W.KFB.if_not rfl ?_
    unfold tupleReprRest
    unfold Builtin.Tuple.tupleItemsOf
    refine wpAny_bind (wpAny_bind (wpAny_seqItems (hk0 _ _ ha) hd (wpAny_pure ?_)))
    rw [← Array.forIn_toList]
    have hz : items.toList.length = items.size := by simp
    refine wpAny_bind (tupFoldW hu _ _ _ _ _ hT (by rw [hz]; omega) hk0 fun h' tk ts n' hkp hl hts => ?_)
    have h1 := fmt_text ts
    have h2 := piled_le ts m hts
    rw [hl, hz] at h2
    have e0 : (if items.size == 1 then ",)" else ")" : String) = (if ts.length == 1 then ",)" else ")" : String) := by rw [hl, hz]
    rw [e0]
    have e1 : ((#[] : Array Str) ++ ts.toArray).toList = ts := by simp
    rw [e1]
    show wpAny _ _ (retStr (tupleText ts)) _ _ _
    exact wpAny_bind (wpAny_mkStr (wpAny_pure (hQ h' _ _ _ hkp (by omega))) (by omega))
end
end Fb
namespace Fb
open PySem PySem.Spec
open Builtin Builtin.List Builtin.Tuple
section
variable {P : Program} {w : World}
theorem RW.mono {h₀ : Heap} {d n n' : Nat} {x : Value} (h : RW P w h₀ d x n) (hn : n ≤ n') : RW P w h₀ d x n' := fun base hb A E s Q hu hk hQ => h base (by omega) A E s Q hu hk fun h' tk t kp ht => hQ h' tk t kp (Nat.le_trans ht hn)
theorem RW.deep {h₀ : Heap} {d d' n : Nat} {x : Value} (h : RW P w h₀ d x n) (hd : d ≤ d') : RW P w h₀ d' x n := fun base hb A E s Q hu hk hQ => h base hb A E s Q (by omega) hk hQ
theorem RW.list {h₀ : Heap} {d m : Nat} {a : Addr} {oa : Obj} {items : Array Value} {na : Nat} (ha : h₀.get? a = some oa) (hc : oa.cls = .type "list") (hda : oa.data = .seq items na) (hT : ∀ (i : Nat) (x : Value), items[i]? = some x → RW P w h₀ d x m) :
    RW P w h₀ (d + 1) (.ref a) (items.size * (m + 2) + 7) := fun base hb A E s Q hu hk hQ => by
  refine wpAny_pyReprUnder_ref (by omega) (wpAny_pyReprObjUnder_twin (twin := "list.__repr__.under") ⟨oa, hk _ _ ha, hc⟩ F.slot_list_repr.toG rfl (by omega) ?_)
  exact call_twin_plain F.plain_list_repr_under F.entry_list_repr_under F.check_list_repr_under ⟨oa, hk _ _ ha, hc⟩ F.slot_list_repr.toG (F.args_list_repr_1 _)
    (listAtW (R := callEnd _ E) ha hda hu hT hb hk fun h' u tk t kp ht => ⟨⟨_, _, rfl⟩, _, _, rfl, hQ h' tk t kp ht⟩)
theorem RW.tuple {h₀ : Heap} {d m : Nat} {a : Addr} {oa : Obj} {items : Array Value} {na : Nat} (ha : h₀.get? a = some oa) (hc : oa.cls = .type "tuple") (hda : oa.data = .seq items na) (hT : ∀ x ∈ items.toList, RW P w h₀ d x m) :
    RW P w h₀ (d + 1) (.ref a) (items.size * (m + 2) + 7) := fun base hb A E s Q hu hk hQ => by
  refine wpAny_pyReprUnder_ref (by omega) (wpAny_pyReprObjUnder_twin (twin := "tuple.__repr__.under") ⟨oa, hk _ _ ha, hc⟩ F.slot_tuple_repr rfl (by omega) ?_)
  refine call_twin_own (F.quiet_tuple_repr_under _) F.entry_tuple_repr_under F.check_tuple_repr_under ⟨oa, hk _ _ ha, hc⟩ F.slot_tuple_repr (F.args_tuple_repr_1 _) (wpOwn_of_wpAny ?_)
  exact tupAtW ha hda (by rw [units_under_tuple_repr_under]; omega) hT hb hk fun h' u tk t kp ht => ⟨⟨_, _, rfl⟩, _, _, rfl, hQ h' tk t kp ht⟩
end
/-- what the text of data may come to: at most c items a level, leaves of at most m signs, k levels -/
def wid (c m : Nat) : Nat → Nat
  | 0 => m
  | k + 1 => (c + 1) * (wid c m k + 2) + 7
theorem wid_le (c m : Nat) : ∀ k, m ≤ wid c m k
  | 0 => Nat.le_refl _
  | k + 1 => by
    have := wid_le c m k
    have e : wid c m (k + 1) = (c + 1) * (wid c m k + 2) + 7 := rfl
    rw [e, Nat.succ_mul]
    omega
inductive Dk (c m : Nat) : Nat → PyData → Prop
  | non {k : Nat} : Dk c m k .none
  | bl {k : Nat} (b : Bool) : Dk c m k (.bool b)
  | int {k : Nat} (i : Int) (h1 : i.natAbs.log2 < 1920) (h2 : ((toString i : String) : Str).length ≤ m) : Dk c m k (.int i)
  | str {k : Nat} (x : Str) (h1 : x.length ≤ m) (h2 : (reprText x).length ≤ m) : Dk c m k (.str x)
  | lst {k : Nat} {ds : List PyData} (h1 : ds.length ≤ c) (h2 : ∀ d ∈ ds, Dk c m k d) : Dk c m (k + 1) (.list ds)
  | tup {k : Nat} {ds : List PyData} (h1 : ds.length ≤ c) (h2 : ∀ d ∈ ds, Dk c m k d) : Dk c m (k + 1) (.tuple ds)
open L2 in
theorem dpAll_get {K : PySem.W.Frag} {H : Hp} : ∀ {vs : List V} {ds : List PyData} {i : Nat} {v : V}, DpAll K H vs ds → vs[i]? = some v → ∃ d, ds[i]? = some d ∧ Dp K H v d
  | _, _, _, _, .nil, e => by simp at e
  | _, _, 0, _, .cons h _, e => by
    simp at e
    subst e
    exact ⟨_, rfl, h⟩
  | _, _, i + 1, v, .cons _ t, e => by
    obtain ⟨d, h1, h2⟩ := dpAll_get (i := i) (v := v) t (by simpa using e)
    exact ⟨d, by simpa using h1, h2⟩
open L2 in
theorem dpAll_len {K : PySem.W.Frag} {H : Hp} : ∀ {vs : List V} {ds : List PyData}, DpAll K H vs ds → vs.length = ds.length
  | _, _, .nil => rfl
  | _, _, .cons _ t => congrArg Nat.succ (dpAll_len t)
section
open L2
variable {X : Cx} {pins : List (Addr × Obj)} {σ : L2.St} {H : Hp} {s : Shared} {c m : Nat}
theorem each {k : Nat} {vs : List V} {its : List Value} {ds : List PyData} (ih : ∀ (d : PyData), Dk c m k d → ∀ (v : V) (u : Value), Dp X.K H v d → L2.RelV v u → wid c m k ≤ sizeLine → RW X.prog X.w s.heap k u (wid c m k)) (wk : wid c m k ≤ sizeLine)
    (rv : Vals vs its) (ha : DpAll X.K H vs ds) (h2 : ∀ d ∈ ds, Dk c m k d) {i : Nat} {x : Value} (hx : its[i]? = some x) : RW X.prog X.w s.heap k x (wid c m k) := by
  have hi : i < vs.length := by
    rw [rv.length]
    exact (List.getElem?_eq_some_iff.mp hx).1
  have hv : vs[i]? = some vs[i] := List.getElem?_eq_getElem hi
  obtain ⟨u, hu, ru⟩ := rv.get hv
  rw [hx] at hu
  cases hu
  obtain ⟨d, hd, dd⟩ := dpAll_get ha hv
  exact ih d (h2 d (List.mem_of_getElem? hd)) _ _ dd ru wk
theorem dk_repr (I : Inv X pins σ H s) (hm : 5 ≤ m) : ∀ (k : Nat) (d : PyData), Dk c m k d → ∀ (v : V) (u : Value), Dp X.K H v d → L2.RelV v u → wid c m k ≤ sizeLine → RW X.prog X.w s.heap k u (wid c m k) := by
  intro k
  induction k with
  | zero =>
    intro d hd v u hv r hz
    cases hd with
    | non => cases hv; cases r; exact RW.is ReprIs.none (Nat.le_trans (by decide +kernel : (("None" : String) : Str).length ≤ 5) hm)
    | bl b => cases hv; cases r; exact RW.is (ReprIs.bool b) (Nat.le_trans (by cases b <;> decide +kernel) hm)
    | int i h1 h2 => cases hv; obtain ⟨t, rfl⟩ := r; exact RW.is (ReprIs.int t h1) h2
    | str x h1 h2 => cases hv; obtain ⟨t, rfl⟩ := r; exact RW.is (ReprIs.str x t (Nat.le_trans h2 hz)) h2
  | succ k ih =>
    intro d hd v u hv r hz
    have wl := wid_le c m (k + 1)
    have we : wid c m (k + 1) = (c + 1) * (wid c m k + 2) + 7 := rfl
    have wk : wid c m k ≤ sizeLine := by
      rw [we, Nat.succ_mul] at hz
      omega
    cases hd with
    | non => cases hv; cases r; exact RW.is ReprIs.none (Nat.le_trans (by decide +kernel : (("None" : String) : Str).length ≤ 5) (Nat.le_trans hm wl))
    | bl b => cases hv; cases r; exact RW.is (ReprIs.bool b) (Nat.le_trans (by cases b <;> decide +kernel) (Nat.le_trans hm wl))
    | int i h1 h2 => cases hv; obtain ⟨t, rfl⟩ := r; exact RW.is (ReprIs.int t h1) (Nat.le_trans h2 wl)
    | str x h1 h2 => cases hv; obtain ⟨t, rfl⟩ := r; exact RW.is (ReprIs.str x t (Nat.le_trans h2 (Nat.le_trans wl hz))) (Nat.le_trans h2 wl)
    | lst h1 h2 =>
      cases hv with
      | lst hs ha =>
        cases r
        obtain ⟨its, rv, ⟨o, n, ho, hc, _, hdat⟩, _⟩ := I.list hs
        refine (RW.list ho hc hdat fun i x hx => each ih wk rv ha h2 (by simpa using hx)).mono ?_
        rw [we]
        refine Nat.add_le_add_right (Nat.mul_le_mul_right _ ?_) _
        have e1 : its.toArray.size = its.length := by simp
        rw [e1, ← rv.length, dpAll_len ha]
        omega
    | tup h1 h2 =>
      cases hv with
      | tup hs ha =>
        cases r
        obtain ⟨its, rv, ⟨o, ho, hc, n, hdat⟩, _⟩ := I.tuple hs
        refine (RW.tuple (m := wid c m k) ho hc hdat fun x hx => ?_).mono ?_
        · obtain ⟨i, hi⟩ := List.getElem?_of_mem hx
          exact each ih wk rv ha h2 (by simpa using hi)
        rw [we]
        refine Nat.add_le_add_right (Nat.mul_le_mul_right _ ?_) _
        have e1 : its.toArray.size = its.length := by simp
        rw [e1, ← rv.length, dpAll_len ha]
        omega

/-- {x} in an f-string: some text -/
def tFmtD (K : PySem.W.Frag) (te : TE) : TE := fun σ H Q => te σ H fun x H1 => ∃ (d : PyData) (c m k : Nat), Dp K H1 x d ∧ Dk c m k d ∧ 5 ≤ m ∧ wid c m k ≤ sizeLine ∧ k ≤ 60 ∧ ∀ t : Str, t.length ≤ wid c m k → Q (.str t) H1
theorem pe_fmtD {e : Expr} {te : TE} {pos : Pos} {k0 : Nat} (hr : RoomH k0 X.A) (he : PE X e te) : PE X (.FormattedValue e (-1) none pos) (tFmtD X.K te) := by
  refine ⟨fun pins s σ H Q I h => wpAny_FormattedValue_plain (thn (he.run pins s σ H _ I h) fun v s1 hv => ?_)⟩
  obtain ⟨x, H1, I1, r1, d, c, m, k, hd, hk, hm, hz, hk0, q⟩ := hv
  have hu := hr.un
  have wl := wid_le c m k
  have fin : ∀ {t : Str} {tk : Tok} {s2 : Shared}, Inv X pins σ H1 s2 → t.length ≤ wid c m k → EP X pins σ Q (.str t tk) s2 := fun J ht => ⟨.str _, H1, J, ⟨_, rfl⟩, q _ ht⟩
  cases hk with
  | non => cases hd; cases r1; exact wpAny_formatField_none (fin (I1.tok _) (Nat.le_trans (by decide +kernel : (("None" : String) : Str).length ≤ 5) (Nat.le_trans hm wl)))
  | bl b => cases hd; cases r1; exact wpAny_formatField_bool (fin (I1.tok _) (Nat.le_trans (by cases b <;> decide +kernel) (Nat.le_trans hm wl)))
  | int i h1 h2 => cases hd; obtain ⟨t, rfl⟩ := r1; exact wpAny_formatField_int h1 (fin (I1.tok _) (Nat.le_trans h2 wl))
  | str y h1 h2 => cases hd; obtain ⟨t, rfl⟩ := r1; exact wpAny_formatField_str (fin I1 (Nat.le_trans h1 wl)) (fin (I1.tok _) (Nat.le_trans h1 wl)) (Nat.le_trans h1 (Nat.le_trans wl hz))
  | @lst k ds h1 h2 =>
    cases hd with
    | lst hs ha =>
      cases r1
      have we : wid c m (k + 1) = (c + 1) * (wid c m k + 2) + 7 := rfl
      have wk : wid c m k ≤ sizeLine := by
        rw [we, Nat.succ_mul] at hz
        omega
      obtain ⟨its, rv, ⟨o, n, ho, hc, _, hdat⟩, _⟩ := I1.list hs
      have e1 : its.toArray.size * (wid c m k + 2) + 7 ≤ wid c m (k + 1) := by
        rw [we]
        refine Nat.add_le_add_right (Nat.mul_le_mul_right _ ?_) _
        have e1 : its.toArray.size = its.length := by simp
        rw [e1, ← rv.length, dpAll_len ha]
        omega
      refine wpAny_formatField_slot (fun _ _ => nofun) (by omega) ⟨o, ho, hc⟩ F.slot_list_format F.slot_list_str F.slot_list_repr.toG ?_
      refine wpAny_call (codeAny_call_builtin F.slot_list_repr.plain F.entry_list_repr (F.slot_list_repr.check _ _ _ _ _ _ _ _ ⟨o, ho, hc⟩ (F.args_list_repr_1 _)
        (listAtW (R := callEnd _ X.xe) (base := 0) (h₀ := s1.heap) (d := k) ho hdat (by show X.A.units + 1 + 1 + (k + 1) < cLine; omega) (fun i x hx => each (dk_repr I1 hm k) wk rv ha h2 (by simpa using hx)) (by omega) (fun _ _ e => e) fun h' u tk t kp ht => ?_)))
      exact ⟨_, _, rfl, fin (I1.kept kp) (Nat.le_trans ht e1)⟩
  | @tup k ds h1 h2 =>
    cases hd with
    | tup hs ha =>
      cases r1
      have we : wid c m (k + 1) = (c + 1) * (wid c m k + 2) + 7 := rfl
      have wk : wid c m k ≤ sizeLine := by
        rw [we, Nat.succ_mul] at hz
        omega
      obtain ⟨its, rv, ⟨o, ho, hc, n, hdat⟩, _⟩ := I1.tuple hs
      have e1 : its.toArray.size * (wid c m k + 2) + 7 ≤ wid c m (k + 1) := by
        rw [we]
        refine Nat.add_le_add_right (Nat.mul_le_mul_right _ ?_) _
        have e1 : its.toArray.size = its.length := by simp
        rw [e1, ← rv.length, dpAll_len ha]
        omega
      refine wpAny_formatField_slot (fun _ _ => nofun) (by omega) ⟨o, ho, hc⟩ F.slot_tuple_format F.slot_tuple_str F.slot_tuple_repr ?_
      refine wpAny_call (codeAny_call_builtin_own (Code.quiet_builtin _ (by decide +kernel)) F.entry_tuple_repr (F.slot_tuple_repr.check _ _ _ _ _ _ _ _ ⟨o, ho, hc⟩ (F.args_tuple_repr_1 _) (wpOwn_of_wpAny ?_)))
      refine tupAtW (base := 0) (m := wid c m k) (h₀ := s1.heap) (d := k) ho hdat ?_ (fun x hx => ?_) (by omega) (fun _ _ e => e) fun h' u tk t kp ht => ?_
      · rw [units_under_tuple_repr]
        show X.A.units + 1 + 1 + 1 + k < cLine
        omega
      · obtain ⟨i, hi⟩ := List.getElem?_of_mem hx
        exact each (dk_repr I1 hm k) wk rv ha h2 (by simpa using hi)
      · exact ⟨_, _, rfl, fin (I1.kept kp) (Nat.le_trans ht e1)⟩
end
end Fb

set_option Elab.async false
set_option linter.all false
set_option maxRecDepth 100000
set_option maxHeartbeats 4000000
namespace Fb
open PySem PySem.Spec PyProof.Rows L2
/-! ### the __init__ of an own error: a message, its fields, its code -/
theorem PE.imp {X : Cx} {e : Expr} {t t' : TE} (h : PE X e t) (k : ∀ σ H Q, t' σ H Q → t σ H Q) : PE X e t' := ⟨fun pins s σ H Q I q => h.run pins s σ H Q I (k σ H Q q)⟩
theorem Same.seqT {K : PySem.W.Frag} {H H' : Hp} {a : Addr} {xs : List V} (e : Same H H') (h : SqT K H a xs) : SqT K H' a xs := by
  rcases h with (h | ⟨o, h⟩) | h
  · exact .inl (.inl (e _ _ h))
  · exact .inl (.inr ⟨o, e _ _ h⟩)
  · exact .inr h
mutual
theorem dpSame {K : PySem.W.Frag} {H H' : Hp} (s : Same H H') : ∀ {v : V} {d : PyData}, Dp K H v d → Dp K H' v d
  | _, _, .non => .non
  | _, _, .bl b => .bl b
  | _, _, .int i => .int i
  | _, _, .str x => .str x
  | _, _, .lst h a => .lst (s.seq h) (dpsSame s a)
  | _, _, .tup h a => .tup (Same.seqT s h) (dpsSame s a)
theorem dpsSame {K : PySem.W.Frag} {H H' : Hp} (s : Same H H') : ∀ {vs : List V} {ds : List PyData}, DpAll K H vs ds → DpAll K H' vs ds
  | _, _, .nil => .nil
  | _, _, .cons h t => .cons (dpSame s h) (dpsSame s t)
end
theorem same_new {H : Hp} {p : Addr} (h : H p = none) (o : HO) : Same H (upd H p o) := fun b u q => (upd_ne (ne_of_none q h)).trans q
/-- data whose text is not too long -/
def Fm (K : PySem.W.Frag) (H : Hp) (y : V) : Prop := ∃ (d : PyData) (c m k : Nat), Dp K H y d ∧ Dk c m k d ∧ 5 ≤ m ∧ wid c m k ≤ 1000000 ∧ k ≤ 60
theorem Fm.same {K : PySem.W.Frag} {H H' : Hp} {y : V} (f : Fm K H y) (s : Same H H') : Fm K H' y := by
  obtain ⟨d, c, m, k, h, r⟩ := f
  exact ⟨d, c, m, k, dpSame s h, r⟩

/-! ### a message of two parts or more: some text -/
section
variable {X : Cx}
/-- a part: under A it is some text of at most a million signs -/
inductive PM (X : Cx) : List Expr → List (L2.St → Hp → Prop) → Prop where
  | nil : PM X [] []
  | cons {e : Expr} {A : L2.St → Hp → Prop} {es : List Expr} {As : List (L2.St → Hp → Prop)} (h : PE X e (fun σ H Q => A σ H ∧ ∀ t : Str, t.length ≤ 1000000 → Q (.str t) H)) (r : PM X es As) : PM X (e :: es) (A :: As)
theorem PM.pj {es : List Expr} {As : List (L2.St → Hp → Prop)} (h : PM X es As) : PJ X es (As.map fun A => fun σ H Q => A σ H ∧ ∀ t : Str, t.length ≤ 1000000 → Q (.str t) H) := by
  induction h with
  | nil => exact .nil
  | cons h r ih => exact .cons h ih
theorem msg_run : ∀ (As : List (L2.St → Hp → Prop)) (acc : Str) (σ : L2.St) (H : Hp) (Q : Str → Hp → Prop), (∀ A ∈ As, A σ H) → acc.length + As.length * 1000000 ≤ sizeLine → (∀ t, Q t H) →
    tJs (As.map fun A => fun σ H Q => A σ H ∧ ∀ t : Str, t.length ≤ 1000000 → Q (.str t) H) acc σ H Q
  | [], acc, σ, H, Q, _, _, q => q acc
  | A :: As, acc, σ, H, Q, h, hz, q => by
    rw [List.length_cons, Nat.succ_mul] at hz
    refine ⟨h A List.mem_cons_self, fun t ht => ⟨t, rfl, ?_, ?_⟩⟩
    · rw [strLen_append]
      omega
    · refine msg_run As (acc ++ t) σ H Q (fun B hB => h B (List.mem_cons_of_mem _ hB)) ?_ q
      rw [strLen_append]
      omega
/-- all of them, one by one -/
def allA : List (L2.St → Hp → Prop) → L2.St → Hp → Prop
  | [], _, _ => True
  | A :: As, σ, H => A σ H ∧ allA As σ H
theorem allA_mem {σ : L2.St} {H : Hp} : ∀ {As : List (L2.St → Hp → Prop)}, allA As σ H → ∀ A ∈ As, A σ H
  | [], _, _, h => absurd h List.not_mem_nil
  | _ :: _, q, A, h => (List.mem_cons.mp h).elim (fun z => z ▸ q.1) (allA_mem q.2 A)
theorem pe_msg {v1 v2 : Expr} {rest : List Expr} {As : List (L2.St → Hp → Prop)} {pos : Pos} (h : PM X (v1 :: v2 :: rest) As) (hz : As.length ≤ 16) : PE X (.JoinedStr (v1 :: v2 :: rest) pos) (fun σ H Q => allA As σ H ∧ ∀ t : Str, Q (.str t) H) :=
  PE.imp (pe_joined h.pj) fun σ H Q q => msg_run As Str.empty σ H _ (allA_mem q.1) (by
    have e : Str.empty.length = 0 := rfl
    rw [e]
    have : As.length * 1000000 ≤ 16 * 1000000 := Nat.mul_le_mul_right _ hz
    exact Nat.le_trans (by omega) (by decide : 16000000 ≤ sizeLine)) q.2
theorem pm_str {x : Str} {j : Nat} {pos : Pos} (hx : x.length ≤ 1000000) : PE X (.Constant (.str x) j pos) (fun σ H Q => True ∧ ∀ t : Str, t.length ≤ 1000000 → Q (.str t) H) := PE.imp pe_str fun σ H Q q => q.2 x hx
theorem pm_fmt {x : Str} {p pos : Pos} {k0 i : Nat} (hr : RoomH k0 X.A) (he : PE X (.Name x p) (tVar i)) : PE X (.FormattedValue (.Name x p) (-1) none pos) (fun σ H Q => (∃ y, σ[i]? = some (some y) ∧ Fm X.K H y) ∧ ∀ t : Str, t.length ≤ 1000000 → Q (.str t) H) :=
  PE.imp (pe_fmtD hr he) fun σ H Q q => by
    obtain ⟨⟨y, hy, d, c, m, k, h1, h2, h3, h4, h5⟩, q2⟩ := q
    exact ⟨y, hy, d, c, m, k, h1, h2, h3, Nat.le_trans h4 (by decide), h5, fun t ht => q2 t (Nat.le_trans ht h4)⟩
/-- self.f = e in an error's __init__ -/
def tXset (K : PySem.W.Frag) (f : Str) (to te : TE) : TS := fun D σ H => te σ H fun y H1 => to σ H1 fun x H2 => ∃ a C : Addr, x = .ref a ∧ EC K C ∧ PySem.W.findIn K (.ref C) f = some none ∧
  ((H2 a = some (exo a C none) ∧ ∀ dx, H2 dx = none → dx ≠ a → D.nx σ (upd (upd H2 dx (exd dx [(f, y)])) a (exo a C (some dx)))) ∨
    ∃ (dx : Addr) (fs : List (Str × V)), H2 a = some (exo a C (some dx)) ∧ H2 dx = some (exd dx fs) ∧ fs.length ≤ 900 ∧ D.nx σ (upd H2 dx (exd dx ((f, y) :: fs))))
theorem ps_xset {o e : Expr} {to te : TE} {f : Str} {p' pos : Pos} (ho : PE X o to) (he : PE X e te) (hs : swapsWith e (some (.Attribute o f p')) pos.line X.env = pure false := by rfl) : PS X (.Assign [.Attribute o f p'] e pos) (tXset X.K f to te) := by
  refine ⟨fun pins s σ H D I h => ?_⟩
  refine plainObj_wpAny_Assign_Attribute (thn (he.run pins s σ H _ I h) fun v s1 ⟨y, H1, I1, r1, q1⟩ => thn (ho.run pins s1 σ H1 _ I1 q1) fun u s2 ⟨x, H2, I2, r2, a, C, ex, T, hno, q⟩ => ?_) hs
  subst ex
  obtain rfl : u = Value.ref a := r2
  rcases q with ⟨ea, q⟩ | ⟨dx, fs, ea, ed, hl, q⟩
  · exact set_new T I2 ea hno r1 fun dx s' n ne J => ⟨σ, _, J, q dx n ne⟩
  · exact set_old T I2 ea ed hl hno r1 fun s' J => ⟨σ, _, J, q⟩
end
/-- what such an __init__ promises: the error has its fields, the first one last -/
def spI (K : PySem.W.Frag) (C : Addr) (code : Str) (fl : List Str) : Sp := fun vs H Q _ => ∃ (a : Addr) (ys : List V), vs = .ref a :: ys ∧ ys.length = fl.length ∧ H a = some (exo a C none) ∧ (∀ y ∈ ys, Fm K H y) ∧
  ∀ (d : Addr) (H' : Hp), H d = none → d ≠ a → (∀ b o, b ≠ a → H b = some o → H' b = some o) → H' a = some (exo a C (some d)) → H' d = some (exd d ((("code" : Str), V.str code) :: (fl.zip ys).reverse)) → Q .non H'
/-- the facts of the class's fields -/
def NoF (K : PySem.W.Frag) (C : Addr) (fl : List Str) : Prop := PySem.W.findIn K (.ref C) "code" = some none ∧ ∀ f ∈ fl, PySem.W.findIn K (.ref C) f = some none
end Fb
namespace Fb
open PySem PySem.Spec PyProof.Rows L2
/-- a class's __init__ as the top has written it -/
structure InitF (P : Program) (K : PySem.W.Frag) (C fI : Addr) (st : Stmt) (qual : Str) (fd : FuncData) : Prop where
  ex : ∃ (oc : Value) (od : Option Addr) (doc pm : Value) (an : Option Addr) (ct : Value) (osl : Array (Option Value)) (c cc : Addr),
    fd = PySem.W.fnX "__init__" qual (defArgs st) (defBody st) (defScope st) [(("__class__" : Str), cc)] .none .none doc pm an (.ref c) ct ∧ K.lookup fI = some ⟨oc, od, .func fd, osl⟩ ∧
    SupIn P K C cc ⟨"__init__", qual, defArgs st, defBody st, defScope st, [(("__class__" : Str), cc)], c⟩
/-- behind some stores into the error at a -/
def Made (H : Hp) (a C dx : Addr) (fs : List (Str × V)) (H' : Hp) : Prop := (∀ b o, b ≠ a → H b = some o → H' b = some o) ∧ H' a = some (exo a C (some dx)) ∧ H' dx = some (exd dx fs)
theorem Made.new {H : Hp} {a C dx : Addr} {fs : List (Str × V)} (nx : H dx = none) (nd : dx ≠ a) : Made H a C dx fs (upd (upd H dx (exd dx fs)) a (exo a C (some dx))) :=
  ⟨fun b o hb e => (upd_two hb (ne_of_none e nx)).trans e, upd_same, (upd_ne nd).trans upd_same⟩
theorem Made.more {H H' : Hp} {a C dx : Addr} {fs fs' : List (Str × V)} (m : Made H a C dx fs H') (nx : H dx = none) (nd : dx ≠ a) : Made H a C dx fs' (upd H' dx (exd dx fs')) :=
  ⟨fun b o hb e => (upd_ne (ne_of_none e nx)).trans (m.1 b o hb e), (upd_ne (Ne.symm nd)).trans m.2.1, upd_same⟩
theorem InitF.binds {P : Program} {K : PySem.W.Frag} {C fI : Addr} {st : Stmt} {qual : Str} {fd : FuncData} {ps : List Str} (F : InitF P K C fI st qual fd)
    (h : ∀ (doc pm : Value) (an : Option Addr) (ct : Value) (c cc : Addr) (us : List Value), us.length = ps.length → bindArgs (PySem.W.fnX "__init__" qual (defArgs st) (defBody st) (defScope st) [(("__class__" : Str), cc)] .none .none doc pm an (.ref c) ct) ⟨us, []⟩ = pure (ps.zip us)) : Binds K fd ps [] := by
  obtain ⟨oc, od, doc, pm, an, ct, osl, c, cc, rfl, _, _⟩ := F.ex
  exact .all (h doc pm an ct c cc)
end Fb

set_option Elab.async false
set_option linter.all false
set_option maxRecDepth 100000
set_option maxHeartbeats 4000000
namespace K0
open PySem PySem.Spec PyProof.Rows L2 Fb
def top (i : Nat) : Stmt := PySem.Challenge.pw_fewbreak_k00_errors_by_themselves.main.body.getD i (.Pass ⟨0, 0, 0, 0⟩)
section
variable {P : Program} {w : World} {K : PySem.W.Frag} {mg : Str → Option Value} {base : Heap} {C fI : Addr} {fd : FuncData}

abbrev sBadText : Stmt := inClass (top 2) 0
theorem sc_BadText : NdefX.NScope ["self", "line", "why", "__class__"] ["self", "line", "why"] ["__class__"] (defScope sBadText) := NdefX.nscope_by (by decide +kernel)
theorem ok_BadText (T : EC K C) (S : InitF P K C fI sBadText "BadText.__init__" fd) (no : NoF K C ["line", "why"]) (ms : mg "super" = none) : FnOk P w K mg base CX0 1 fI fd ["self", "line", "why"] (spI K C "BadText" ["line", "why"]) := by
  obtain ⟨oc, od, doc, pm, an, ct, osl, c, cc, rfl, lk, SI⟩ := S.ex
  refine super_def (N := ["self", "line", "why", "__class__"]) (ar := ⟨"self", none, _⟩) T SI sc_BadText rfl lk rfl rfl rfl ms (fun vs H Q E h => ?_) fun A outer s H vs Q E hr h => ?_
  · obtain ⟨a, ys, rfl, hl, _⟩ := h
    exact congrArg Nat.succ hl
  obtain ⟨a, ys, rfl, hl, ha, hf, q⟩ := h
  match ys, hl with
  | [y0, y1], _ =>
    refine ⟨a, _, _, rfl, ha, pa_cons (pe_msg (.cons (pm_str (by decide +kernel)) (.cons (pm_fmt (i := 1) (RoomH.of hr) (pv 1)) (.cons (pm_str (by decide +kernel)) (.cons (pm_fmt (i := 2) (RoomH.of hr) (pv 2)) .nil)))) (by show 4 ≤ 16; decide)) pa_nil, (pss_cons (ps_xset (pv 0) (pv 1)) (pss_cons (ps_xset (pv 0) (pv 2)) (pss_one (ps_xset (pv 0) pe_str)))), ?_⟩
    refine ⟨⟨trivial, ⟨_, rfl, hf _ (by simp)⟩, trivial, ⟨_, rfl, hf _ (by simp)⟩, trivial⟩, fun t => ⟨by show 1 ≤ 1000; decide, ha, ?_⟩⟩
    refine ⟨_, rfl, _, rfl, a, C, rfl, T, (no.2 _ (by simp)), .inl ⟨ha, fun dx nx nd => ?_⟩⟩
    have m0 := Made.new (C := C) (fs := [(("line" : Str), y0)]) nx nd
    refine ⟨_, rfl, _, rfl, a, C, rfl, T, (no.2 _ (by simp)), .inr ⟨dx, _, m0.2.1, m0.2.2, (by show 1 ≤ 900; decide), ?_⟩⟩
    have m1 := Made.more (fs' := (("why" : Str), y1) :: [(("line" : Str), y0)]) m0 nx nd
    refine ⟨_, rfl, a, C, rfl, T, no.1, .inr ⟨dx, _, m1.2.1, m1.2.2, (by show 2 ≤ 900; decide), ?_⟩⟩
    have m2 := Made.more (fs' := (("code" : Str), V.str "BadText") :: [(("why" : Str), y1), (("line" : Str), y0)]) m1 nx nd
    exact q dx _ nx nd m2.1 m2.2.1 m2.2.2

abbrev sBadName : Stmt := inClass (top 3) 0
theorem sc_BadName : NdefX.NScope ["self", "name", "__class__"] ["self", "name"] ["__class__"] (defScope sBadName) := NdefX.nscope_by (by decide +kernel)
theorem ok_BadName (T : EC K C) (S : InitF P K C fI sBadName "BadName.__init__" fd) (no : NoF K C ["name"]) (ms : mg "super" = none) : FnOk P w K mg base CX0 1 fI fd ["self", "name"] (spI K C "BadName" ["name"]) := by
  obtain ⟨oc, od, doc, pm, an, ct, osl, c, cc, rfl, lk, SI⟩ := S.ex
  refine super_def (N := ["self", "name", "__class__"]) (ar := ⟨"self", none, _⟩) T SI sc_BadName rfl lk rfl rfl rfl ms (fun vs H Q E h => ?_) fun A outer s H vs Q E hr h => ?_
  · obtain ⟨a, ys, rfl, hl, _⟩ := h
    exact congrArg Nat.succ hl
  obtain ⟨a, ys, rfl, hl, ha, hf, q⟩ := h
  match ys, hl with
  | [y0], _ =>
    refine ⟨a, _, _, rfl, ha, pa_cons (pe_msg (.cons (pm_str (by decide +kernel)) (.cons (pm_fmt (i := 1) (RoomH.of hr) (pv 1)) .nil)) (by show 2 ≤ 16; decide)) pa_nil, (pss_cons (ps_xset (pv 0) (pv 1)) (pss_one (ps_xset (pv 0) pe_str))), ?_⟩
    refine ⟨⟨trivial, ⟨_, rfl, hf _ (by simp)⟩, trivial⟩, fun t => ⟨by show 1 ≤ 1000; decide, ha, ?_⟩⟩
    refine ⟨_, rfl, _, rfl, a, C, rfl, T, (no.2 _ (by simp)), .inl ⟨ha, fun dx nx nd => ?_⟩⟩
    have m0 := Made.new (C := C) (fs := [(("name" : Str), y0)]) nx nd
    refine ⟨_, rfl, a, C, rfl, T, no.1, .inr ⟨dx, _, m0.2.1, m0.2.2, (by show 1 ≤ 900; decide), ?_⟩⟩
    have m1 := Made.more (fs' := (("code" : Str), V.str "BadName") :: [(("name" : Str), y0)]) m0 nx nd
    exact q dx _ nx nd m1.1 m1.2.1 m1.2.2

abbrev sBadLetters : Stmt := inClass (top 4) 0
theorem sc_BadLetters : NdefX.NScope ["self", "at", "__class__"] ["self", "at"] ["__class__"] (defScope sBadLetters) := NdefX.nscope_by (by decide +kernel)
theorem ok_BadLetters (T : EC K C) (S : InitF P K C fI sBadLetters "BadLetters.__init__" fd) (no : NoF K C ["at"]) (ms : mg "super" = none) : FnOk P w K mg base CX0 1 fI fd ["self", "at"] (spI K C "BadLetters" ["at"]) := by
  obtain ⟨oc, od, doc, pm, an, ct, osl, c, cc, rfl, lk, SI⟩ := S.ex
  refine super_def (N := ["self", "at", "__class__"]) (ar := ⟨"self", none, _⟩) T SI sc_BadLetters rfl lk rfl rfl rfl ms (fun vs H Q E h => ?_) fun A outer s H vs Q E hr h => ?_
  · obtain ⟨a, ys, rfl, hl, _⟩ := h
    exact congrArg Nat.succ hl
  obtain ⟨a, ys, rfl, hl, ha, hf, q⟩ := h
  match ys, hl with
  | [y0], _ =>
    refine ⟨a, _, _, rfl, ha, pa_cons (pe_msg (.cons (pm_str (by decide +kernel)) (.cons (pm_fmt (i := 1) (RoomH.of hr) (pv 1)) (.cons (pm_str (by decide +kernel)) .nil))) (by show 3 ≤ 16; decide)) pa_nil, (pss_cons (ps_xset (pv 0) (pv 1)) (pss_one (ps_xset (pv 0) pe_str))), ?_⟩
    refine ⟨⟨trivial, ⟨_, rfl, hf _ (by simp)⟩, trivial, trivial⟩, fun t => ⟨by show 1 ≤ 1000; decide, ha, ?_⟩⟩
    refine ⟨_, rfl, _, rfl, a, C, rfl, T, (no.2 _ (by simp)), .inl ⟨ha, fun dx nx nd => ?_⟩⟩
    have m0 := Made.new (C := C) (fs := [(("at" : Str), y0)]) nx nd
    refine ⟨_, rfl, a, C, rfl, T, no.1, .inr ⟨dx, _, m0.2.1, m0.2.2, (by show 1 ≤ 900; decide), ?_⟩⟩
    have m1 := Made.more (fs' := (("code" : Str), V.str "BadLetters") :: [(("at" : Str), y0)]) m0 nx nd
    exact q dx _ nx nd m1.1 m1.2.1 m1.2.2

abbrev sBadRun : Stmt := inClass (top 5) 0
theorem sc_BadRun : NdefX.NScope ["self", "at", "__class__"] ["self", "at"] ["__class__"] (defScope sBadRun) := NdefX.nscope_by (by decide +kernel)
theorem ok_BadRun (T : EC K C) (S : InitF P K C fI sBadRun "BadRun.__init__" fd) (no : NoF K C ["at"]) (ms : mg "super" = none) : FnOk P w K mg base CX0 1 fI fd ["self", "at"] (spI K C "BadRun" ["at"]) := by
  obtain ⟨oc, od, doc, pm, an, ct, osl, c, cc, rfl, lk, SI⟩ := S.ex
  refine super_def (N := ["self", "at", "__class__"]) (ar := ⟨"self", none, _⟩) T SI sc_BadRun rfl lk rfl rfl rfl ms (fun vs H Q E h => ?_) fun A outer s H vs Q E hr h => ?_
  · obtain ⟨a, ys, rfl, hl, _⟩ := h
    exact congrArg Nat.succ hl
  obtain ⟨a, ys, rfl, hl, ha, hf, q⟩ := h
  match ys, hl with
  | [y0], _ =>
    refine ⟨a, _, _, rfl, ha, pa_cons (pe_msg (.cons (pm_str (by decide +kernel)) (.cons (pm_fmt (i := 1) (RoomH.of hr) (pv 1)) (.cons (pm_str (by decide +kernel)) .nil))) (by show 3 ≤ 16; decide)) pa_nil, (pss_cons (ps_xset (pv 0) (pv 1)) (pss_one (ps_xset (pv 0) pe_str))), ?_⟩
    refine ⟨⟨trivial, ⟨_, rfl, hf _ (by simp)⟩, trivial, trivial⟩, fun t => ⟨by show 1 ≤ 1000; decide, ha, ?_⟩⟩
    refine ⟨_, rfl, _, rfl, a, C, rfl, T, (no.2 _ (by simp)), .inl ⟨ha, fun dx nx nd => ?_⟩⟩
    have m0 := Made.new (C := C) (fs := [(("at" : Str), y0)]) nx nd
    refine ⟨_, rfl, a, C, rfl, T, no.1, .inr ⟨dx, _, m0.2.1, m0.2.2, (by show 1 ≤ 900; decide), ?_⟩⟩
    have m1 := Made.more (fs' := (("code" : Str), V.str "BadRun") :: [(("at" : Str), y0)]) m0 nx nd
    exact q dx _ nx nd m1.1 m1.2.1 m1.2.2

abbrev sBadColumn : Stmt := inClass (top 6) 0
theorem sc_BadColumn : NdefX.NScope ["self", "column", "__class__"] ["self", "column"] ["__class__"] (defScope sBadColumn) := NdefX.nscope_by (by decide +kernel)
theorem ok_BadColumn (T : EC K C) (S : InitF P K C fI sBadColumn "BadColumn.__init__" fd) (no : NoF K C ["column"]) (ms : mg "super" = none) : FnOk P w K mg base CX0 1 fI fd ["self", "column"] (spI K C "BadColumn" ["column"]) := by
  obtain ⟨oc, od, doc, pm, an, ct, osl, c, cc, rfl, lk, SI⟩ := S.ex
  refine super_def (N := ["self", "column", "__class__"]) (ar := ⟨"self", none, _⟩) T SI sc_BadColumn rfl lk rfl rfl rfl ms (fun vs H Q E h => ?_) fun A outer s H vs Q E hr h => ?_
  · obtain ⟨a, ys, rfl, hl, _⟩ := h
    exact congrArg Nat.succ hl
  obtain ⟨a, ys, rfl, hl, ha, hf, q⟩ := h
  match ys, hl with
  | [y0], _ =>
    refine ⟨a, _, _, rfl, ha, pa_cons (pe_msg (.cons (pm_str (by decide +kernel)) (.cons (pm_fmt (i := 1) (RoomH.of hr) (pv 1)) .nil)) (by show 2 ≤ 16; decide)) pa_nil, (pss_cons (ps_xset (pv 0) (pv 1)) (pss_one (ps_xset (pv 0) pe_str))), ?_⟩
    refine ⟨⟨trivial, ⟨_, rfl, hf _ (by simp)⟩, trivial⟩, fun t => ⟨by show 1 ≤ 1000; decide, ha, ?_⟩⟩
    refine ⟨_, rfl, _, rfl, a, C, rfl, T, (no.2 _ (by simp)), .inl ⟨ha, fun dx nx nd => ?_⟩⟩
    have m0 := Made.new (C := C) (fs := [(("column" : Str), y0)]) nx nd
    refine ⟨_, rfl, a, C, rfl, T, no.1, .inr ⟨dx, _, m0.2.1, m0.2.2, (by show 1 ≤ 900; decide), ?_⟩⟩
    have m1 := Made.more (fs' := (("code" : Str), V.str "BadColumn") :: [(("column" : Str), y0)]) m0 nx nd
    exact q dx _ nx nd m1.1 m1.2.1 m1.2.2

abbrev sBadNumber : Stmt := inClass (top 7) 0
theorem sc_BadNumber : NdefX.NScope ["self", "value", "__class__"] ["self", "value"] ["__class__"] (defScope sBadNumber) := NdefX.nscope_by (by decide +kernel)
theorem ok_BadNumber (T : EC K C) (S : InitF P K C fI sBadNumber "BadNumber.__init__" fd) (no : NoF K C ["value"]) (ms : mg "super" = none) : FnOk P w K mg base CX0 1 fI fd ["self", "value"] (spI K C "BadNumber" ["value"]) := by
  obtain ⟨oc, od, doc, pm, an, ct, osl, c, cc, rfl, lk, SI⟩ := S.ex
  refine super_def (N := ["self", "value", "__class__"]) (ar := ⟨"self", none, _⟩) T SI sc_BadNumber rfl lk rfl rfl rfl ms (fun vs H Q E h => ?_) fun A outer s H vs Q E hr h => ?_
  · obtain ⟨a, ys, rfl, hl, _⟩ := h
    exact congrArg Nat.succ hl
  obtain ⟨a, ys, rfl, hl, ha, hf, q⟩ := h
  match ys, hl with
  | [y0], _ =>
    refine ⟨a, _, _, rfl, ha, pa_cons (pe_msg (.cons (pm_str (by decide +kernel)) (.cons (pm_fmt (i := 1) (RoomH.of hr) (pv 1)) .nil)) (by show 2 ≤ 16; decide)) pa_nil, (pss_cons (ps_xset (pv 0) (pv 1)) (pss_one (ps_xset (pv 0) pe_str))), ?_⟩
    refine ⟨⟨trivial, ⟨_, rfl, hf _ (by simp)⟩, trivial⟩, fun t => ⟨by show 1 ≤ 1000; decide, ha, ?_⟩⟩
    refine ⟨_, rfl, _, rfl, a, C, rfl, T, (no.2 _ (by simp)), .inl ⟨ha, fun dx nx nd => ?_⟩⟩
    have m0 := Made.new (C := C) (fs := [(("value" : Str), y0)]) nx nd
    refine ⟨_, rfl, a, C, rfl, T, no.1, .inr ⟨dx, _, m0.2.1, m0.2.2, (by show 1 ≤ 900; decide), ?_⟩⟩
    have m1 := Made.more (fs' := (("code" : Str), V.str "BadNumber") :: [(("value" : Str), y0)]) m0 nx nd
    exact q dx _ nx nd m1.1 m1.2.1 m1.2.2

abbrev sBadTable : Stmt := inClass (top 8) 0
theorem sc_BadTable : NdefX.NScope ["self", "at", "__class__"] ["self", "at"] ["__class__"] (defScope sBadTable) := NdefX.nscope_by (by decide +kernel)
theorem ok_BadTable (T : EC K C) (S : InitF P K C fI sBadTable "BadTable.__init__" fd) (no : NoF K C ["at"]) (ms : mg "super" = none) : FnOk P w K mg base CX0 1 fI fd ["self", "at"] (spI K C "BadTable" ["at"]) := by
  obtain ⟨oc, od, doc, pm, an, ct, osl, c, cc, rfl, lk, SI⟩ := S.ex
  refine super_def (N := ["self", "at", "__class__"]) (ar := ⟨"self", none, _⟩) T SI sc_BadTable rfl lk rfl rfl rfl ms (fun vs H Q E h => ?_) fun A outer s H vs Q E hr h => ?_
  · obtain ⟨a, ys, rfl, hl, _⟩ := h
    exact congrArg Nat.succ hl
  obtain ⟨a, ys, rfl, hl, ha, hf, q⟩ := h
  match ys, hl with
  | [y0], _ =>
    refine ⟨a, _, _, rfl, ha, pa_cons (pe_msg (.cons (pm_str (by decide +kernel)) (.cons (pm_fmt (i := 1) (RoomH.of hr) (pv 1)) (.cons (pm_str (by decide +kernel)) .nil))) (by show 3 ≤ 16; decide)) pa_nil, (pss_cons (ps_xset (pv 0) (pv 1)) (pss_one (ps_xset (pv 0) pe_str))), ?_⟩
    refine ⟨⟨trivial, ⟨_, rfl, hf _ (by simp)⟩, trivial, trivial⟩, fun t => ⟨by show 1 ≤ 1000; decide, ha, ?_⟩⟩
    refine ⟨_, rfl, _, rfl, a, C, rfl, T, (no.2 _ (by simp)), .inl ⟨ha, fun dx nx nd => ?_⟩⟩
    have m0 := Made.new (C := C) (fs := [(("at" : Str), y0)]) nx nd
    refine ⟨_, rfl, a, C, rfl, T, no.1, .inr ⟨dx, _, m0.2.1, m0.2.2, (by show 1 ≤ 900; decide), ?_⟩⟩
    have m1 := Made.more (fs' := (("code" : Str), V.str "BadTable") :: [(("at" : Str), y0)]) m0 nx nd
    exact q dx _ nx nd m1.1 m1.2.1 m1.2.2

abbrev sBadDeed : Stmt := inClass (top 9) 0
theorem sc_BadDeed : NdefX.NScope ["self", "__class__"] ["self"] ["__class__"] (defScope sBadDeed) := NdefX.nscope_by (by decide +kernel)
theorem ok_BadDeed (T : EC K C) (S : InitF P K C fI sBadDeed "BadDeed.__init__" fd) (no : NoF K C []) (ms : mg "super" = none) : FnOk P w K mg base CX0 1 fI fd ["self"] (spI K C "BadDeed" []) := by
  obtain ⟨oc, od, doc, pm, an, ct, osl, c, cc, rfl, lk, SI⟩ := S.ex
  refine super_def (N := ["self", "__class__"]) (ar := ⟨"self", none, _⟩) T SI sc_BadDeed rfl lk rfl rfl rfl ms (fun vs H Q E h => ?_) fun A outer s H vs Q E hr h => ?_
  · obtain ⟨a, ys, rfl, hl, _⟩ := h
    exact congrArg Nat.succ hl
  obtain ⟨a, ys, rfl, hl, ha, hf, q⟩ := h
  match ys, hl with
  | [], _ =>
    refine ⟨a, _, _, rfl, ha, pa_cons pe_str pa_nil, (pss_one (ps_xset (pv 0) pe_str)), ?_⟩
    refine ⟨by show 1 ≤ 1000; decide, ha, ?_⟩
    refine ⟨_, rfl, a, C, rfl, T, no.1, .inl ⟨ha, fun dx nx nd => ?_⟩⟩
    have m0 := Made.new (C := C) (fs := [(("code" : Str), V.str "BadDeed")]) nx nd
    exact q dx _ nx nd m0.1 m0.2.1 m0.2.2

abbrev sUnlikeParts : Stmt := inClass (top 10) 0
theorem sc_UnlikeParts : NdefX.NScope ["self", "one", "other", "__class__"] ["self", "one", "other"] ["__class__"] (defScope sUnlikeParts) := NdefX.nscope_by (by decide +kernel)
theorem ok_UnlikeParts (T : EC K C) (S : InitF P K C fI sUnlikeParts "UnlikeParts.__init__" fd) (no : NoF K C ["one", "other"]) (ms : mg "super" = none) : FnOk P w K mg base CX0 1 fI fd ["self", "one", "other"] (spI K C "UnlikeParts" ["one", "other"]) := by
  obtain ⟨oc, od, doc, pm, an, ct, osl, c, cc, rfl, lk, SI⟩ := S.ex
  refine super_def (N := ["self", "one", "other", "__class__"]) (ar := ⟨"self", none, _⟩) T SI sc_UnlikeParts rfl lk rfl rfl rfl ms (fun vs H Q E h => ?_) fun A outer s H vs Q E hr h => ?_
  · obtain ⟨a, ys, rfl, hl, _⟩ := h
    exact congrArg Nat.succ hl
  obtain ⟨a, ys, rfl, hl, ha, hf, q⟩ := h
  match ys, hl with
  | [y0, y1], _ =>
    refine ⟨a, _, _, rfl, ha, pa_cons (pe_msg (.cons (pm_str (by decide +kernel)) (.cons (pm_fmt (i := 1) (RoomH.of hr) (pv 1)) (.cons (pm_str (by decide +kernel)) (.cons (pm_fmt (i := 2) (RoomH.of hr) (pv 2)) .nil)))) (by show 4 ≤ 16; decide)) pa_nil, (pss_cons (ps_xset (pv 0) (pv 1)) (pss_cons (ps_xset (pv 0) (pv 2)) (pss_one (ps_xset (pv 0) pe_str)))), ?_⟩
    refine ⟨⟨trivial, ⟨_, rfl, hf _ (by simp)⟩, trivial, ⟨_, rfl, hf _ (by simp)⟩, trivial⟩, fun t => ⟨by show 1 ≤ 1000; decide, ha, ?_⟩⟩
    refine ⟨_, rfl, _, rfl, a, C, rfl, T, (no.2 _ (by simp)), .inl ⟨ha, fun dx nx nd => ?_⟩⟩
    have m0 := Made.new (C := C) (fs := [(("one" : Str), y0)]) nx nd
    refine ⟨_, rfl, _, rfl, a, C, rfl, T, (no.2 _ (by simp)), .inr ⟨dx, _, m0.2.1, m0.2.2, (by show 1 ≤ 900; decide), ?_⟩⟩
    have m1 := Made.more (fs' := (("other" : Str), y1) :: [(("one" : Str), y0)]) m0 nx nd
    refine ⟨_, rfl, a, C, rfl, T, no.1, .inr ⟨dx, _, m1.2.1, m1.2.2, (by show 2 ≤ 900; decide), ?_⟩⟩
    have m2 := Made.more (fs' := (("code" : Str), V.str "UnlikeParts") :: [(("other" : Str), y1), (("one" : Str), y0)]) m1 nx nd
    exact q dx _ nx nd m2.1 m2.2.1 m2.2.2

abbrev sUnlikeTapes : Stmt := inClass (top 11) 0
theorem sc_UnlikeTapes : NdefX.NScope ["self", "one", "other", "__class__"] ["self", "one", "other"] ["__class__"] (defScope sUnlikeTapes) := NdefX.nscope_by (by decide +kernel)
theorem ok_UnlikeTapes (T : EC K C) (S : InitF P K C fI sUnlikeTapes "UnlikeTapes.__init__" fd) (no : NoF K C ["one", "other"]) (ms : mg "super" = none) : FnOk P w K mg base CX0 1 fI fd ["self", "one", "other"] (spI K C "UnlikeTapes" ["one", "other"]) := by
  obtain ⟨oc, od, doc, pm, an, ct, osl, c, cc, rfl, lk, SI⟩ := S.ex
  refine super_def (N := ["self", "one", "other", "__class__"]) (ar := ⟨"self", none, _⟩) T SI sc_UnlikeTapes rfl lk rfl rfl rfl ms (fun vs H Q E h => ?_) fun A outer s H vs Q E hr h => ?_
  · obtain ⟨a, ys, rfl, hl, _⟩ := h
    exact congrArg Nat.succ hl
  obtain ⟨a, ys, rfl, hl, ha, hf, q⟩ := h
  match ys, hl with
  | [y0, y1], _ =>
    refine ⟨a, _, _, rfl, ha, pa_cons (pe_msg (.cons (pm_str (by decide +kernel)) (.cons (pm_fmt (i := 1) (RoomH.of hr) (pv 1)) (.cons (pm_str (by decide +kernel)) (.cons (pm_fmt (i := 2) (RoomH.of hr) (pv 2)) .nil)))) (by show 4 ≤ 16; decide)) pa_nil, (pss_cons (ps_xset (pv 0) (pv 1)) (pss_cons (ps_xset (pv 0) (pv 2)) (pss_one (ps_xset (pv 0) pe_str)))), ?_⟩
    refine ⟨⟨trivial, ⟨_, rfl, hf _ (by simp)⟩, trivial, ⟨_, rfl, hf _ (by simp)⟩, trivial⟩, fun t => ⟨by show 1 ≤ 1000; decide, ha, ?_⟩⟩
    refine ⟨_, rfl, _, rfl, a, C, rfl, T, (no.2 _ (by simp)), .inl ⟨ha, fun dx nx nd => ?_⟩⟩
    have m0 := Made.new (C := C) (fs := [(("one" : Str), y0)]) nx nd
    refine ⟨_, rfl, _, rfl, a, C, rfl, T, (no.2 _ (by simp)), .inr ⟨dx, _, m0.2.1, m0.2.2, (by show 1 ≤ 900; decide), ?_⟩⟩
    have m1 := Made.more (fs' := (("other" : Str), y1) :: [(("one" : Str), y0)]) m0 nx nd
    refine ⟨_, rfl, a, C, rfl, T, no.1, .inr ⟨dx, _, m1.2.1, m1.2.2, (by show 2 ≤ 900; decide), ?_⟩⟩
    have m2 := Made.more (fs' := (("code" : Str), V.str "UnlikeTapes") :: [(("other" : Str), y1), (("one" : Str), y0)]) m1 nx nd
    exact q dx _ nx nd m2.1 m2.2.1 m2.2.2

abbrev sTooMany : Stmt := inClass (top 12) 0
theorem sc_TooMany : NdefX.NScope ["self", "what", "found", "__class__"] ["self", "what", "found"] ["__class__"] (defScope sTooMany) := NdefX.nscope_by (by decide +kernel)
theorem ok_TooMany (T : EC K C) (S : InitF P K C fI sTooMany "TooMany.__init__" fd) (no : NoF K C ["what", "found"]) (ms : mg "super" = none) : FnOk P w K mg base CX0 1 fI fd ["self", "what", "found"] (spI K C "TooMany" ["what", "found"]) := by
  obtain ⟨oc, od, doc, pm, an, ct, osl, c, cc, rfl, lk, SI⟩ := S.ex
  refine super_def (N := ["self", "what", "found", "__class__"]) (ar := ⟨"self", none, _⟩) T SI sc_TooMany rfl lk rfl rfl rfl ms (fun vs H Q E h => ?_) fun A outer s H vs Q E hr h => ?_
  · obtain ⟨a, ys, rfl, hl, _⟩ := h
    exact congrArg Nat.succ hl
  obtain ⟨a, ys, rfl, hl, ha, hf, q⟩ := h
  match ys, hl with
  | [y0, y1], _ =>
    refine ⟨a, _, _, rfl, ha, pa_cons (pe_msg (.cons (pm_str (by decide +kernel)) (.cons (pm_fmt (i := 1) (RoomH.of hr) (pv 1)) (.cons (pm_str (by decide +kernel)) (.cons (pm_fmt (i := 2) (RoomH.of hr) (pv 2)) .nil)))) (by show 4 ≤ 16; decide)) pa_nil, (pss_cons (ps_xset (pv 0) (pv 1)) (pss_cons (ps_xset (pv 0) (pv 2)) (pss_one (ps_xset (pv 0) pe_str)))), ?_⟩
    refine ⟨⟨trivial, ⟨_, rfl, hf _ (by simp)⟩, trivial, ⟨_, rfl, hf _ (by simp)⟩, trivial⟩, fun t => ⟨by show 1 ≤ 1000; decide, ha, ?_⟩⟩
    refine ⟨_, rfl, _, rfl, a, C, rfl, T, (no.2 _ (by simp)), .inl ⟨ha, fun dx nx nd => ?_⟩⟩
    have m0 := Made.new (C := C) (fs := [(("what" : Str), y0)]) nx nd
    refine ⟨_, rfl, _, rfl, a, C, rfl, T, (no.2 _ (by simp)), .inr ⟨dx, _, m0.2.1, m0.2.2, (by show 1 ≤ 900; decide), ?_⟩⟩
    have m1 := Made.more (fs' := (("found" : Str), y1) :: [(("what" : Str), y0)]) m0 nx nd
    refine ⟨_, rfl, a, C, rfl, T, no.1, .inr ⟨dx, _, m1.2.1, m1.2.2, (by show 2 ≤ 900; decide), ?_⟩⟩
    have m2 := Made.more (fs' := (("code" : Str), V.str "TooMany") :: [(("found" : Str), y1), (("what" : Str), y0)]) m1 nx nd
    exact q dx _ nx nd m2.1 m2.2.1 m2.2.2

abbrev sHeldTwice : Stmt := inClass (top 13) 0
theorem sc_HeldTwice : NdefX.NScope ["self", "item", "__class__"] ["self", "item"] ["__class__"] (defScope sHeldTwice) := NdefX.nscope_by (by decide +kernel)
theorem ok_HeldTwice (T : EC K C) (S : InitF P K C fI sHeldTwice "HeldTwice.__init__" fd) (no : NoF K C ["item"]) (ms : mg "super" = none) : FnOk P w K mg base CX0 1 fI fd ["self", "item"] (spI K C "HeldTwice" ["item"]) := by
  obtain ⟨oc, od, doc, pm, an, ct, osl, c, cc, rfl, lk, SI⟩ := S.ex
  refine super_def (N := ["self", "item", "__class__"]) (ar := ⟨"self", none, _⟩) T SI sc_HeldTwice rfl lk rfl rfl rfl ms (fun vs H Q E h => ?_) fun A outer s H vs Q E hr h => ?_
  · obtain ⟨a, ys, rfl, hl, _⟩ := h
    exact congrArg Nat.succ hl
  obtain ⟨a, ys, rfl, hl, ha, hf, q⟩ := h
  match ys, hl with
  | [y0], _ =>
    refine ⟨a, _, _, rfl, ha, pa_cons (pe_msg (.cons (pm_str (by decide +kernel)) (.cons (pm_fmt (i := 1) (RoomH.of hr) (pv 1)) .nil)) (by show 2 ≤ 16; decide)) pa_nil, (pss_cons (ps_xset (pv 0) (pv 1)) (pss_one (ps_xset (pv 0) pe_str))), ?_⟩
    refine ⟨⟨trivial, ⟨_, rfl, hf _ (by simp)⟩, trivial⟩, fun t => ⟨by show 1 ≤ 1000; decide, ha, ?_⟩⟩
    refine ⟨_, rfl, _, rfl, a, C, rfl, T, (no.2 _ (by simp)), .inl ⟨ha, fun dx nx nd => ?_⟩⟩
    have m0 := Made.new (C := C) (fs := [(("item" : Str), y0)]) nx nd
    refine ⟨_, rfl, a, C, rfl, T, no.1, .inr ⟨dx, _, m0.2.1, m0.2.2, (by show 1 ≤ 900; decide), ?_⟩⟩
    have m1 := Made.more (fs' := (("code" : Str), V.str "HeldTwice") :: [(("item" : Str), y0)]) m0 nx nd
    exact q dx _ nx nd m1.1 m1.2.1 m1.2.2

abbrev sBreaksBeside : Stmt := inClass (top 14) 0
theorem sc_BreaksBeside : NdefX.NScope ["self", "lot", "__class__"] ["self", "lot"] ["__class__"] (defScope sBreaksBeside) := NdefX.nscope_by (by decide +kernel)
theorem ok_BreaksBeside (T : EC K C) (S : InitF P K C fI sBreaksBeside "BreaksBeside.__init__" fd) (no : NoF K C ["lot"]) (ms : mg "super" = none) : FnOk P w K mg base CX0 1 fI fd ["self", "lot"] (spI K C "BreaksBeside" ["lot"]) := by
  obtain ⟨oc, od, doc, pm, an, ct, osl, c, cc, rfl, lk, SI⟩ := S.ex
  refine super_def (N := ["self", "lot", "__class__"]) (ar := ⟨"self", none, _⟩) T SI sc_BreaksBeside rfl lk rfl rfl rfl ms (fun vs H Q E h => ?_) fun A outer s H vs Q E hr h => ?_
  · obtain ⟨a, ys, rfl, hl, _⟩ := h
    exact congrArg Nat.succ hl
  obtain ⟨a, ys, rfl, hl, ha, hf, q⟩ := h
  match ys, hl with
  | [y0], _ =>
    refine ⟨a, _, _, rfl, ha, pa_cons (pe_msg (.cons (pm_str (by decide +kernel)) (.cons (pm_fmt (i := 1) (RoomH.of hr) (pv 1)) .nil)) (by show 2 ≤ 16; decide)) pa_nil, (pss_cons (ps_xset (pv 0) (pv 1)) (pss_one (ps_xset (pv 0) pe_str))), ?_⟩
    refine ⟨⟨trivial, ⟨_, rfl, hf _ (by simp)⟩, trivial⟩, fun t => ⟨by show 1 ≤ 1000; decide, ha, ?_⟩⟩
    refine ⟨_, rfl, _, rfl, a, C, rfl, T, (no.2 _ (by simp)), .inl ⟨ha, fun dx nx nd => ?_⟩⟩
    have m0 := Made.new (C := C) (fs := [(("lot" : Str), y0)]) nx nd
    refine ⟨_, rfl, a, C, rfl, T, no.1, .inr ⟨dx, _, m0.2.1, m0.2.2, (by show 1 ≤ 900; decide), ?_⟩⟩
    have m1 := Made.more (fs' := (("code" : Str), V.str "BreaksBeside") :: [(("lot" : Str), y0)]) m0 nx nd
    exact q dx _ nx nd m1.1 m1.2.1 m1.2.2

abbrev sNotSo : Stmt := inClass (top 15) 0
theorem sc_NotSo : NdefX.NScope ["self", "lot", "__class__"] ["self", "lot"] ["__class__"] (defScope sNotSo) := NdefX.nscope_by (by decide +kernel)
theorem ok_NotSo (T : EC K C) (S : InitF P K C fI sNotSo "NotSo.__init__" fd) (no : NoF K C ["lot"]) (ms : mg "super" = none) : FnOk P w K mg base CX0 1 fI fd ["self", "lot"] (spI K C "NotSo" ["lot"]) := by
  obtain ⟨oc, od, doc, pm, an, ct, osl, c, cc, rfl, lk, SI⟩ := S.ex
  refine super_def (N := ["self", "lot", "__class__"]) (ar := ⟨"self", none, _⟩) T SI sc_NotSo rfl lk rfl rfl rfl ms (fun vs H Q E h => ?_) fun A outer s H vs Q E hr h => ?_
  · obtain ⟨a, ys, rfl, hl, _⟩ := h
    exact congrArg Nat.succ hl
  obtain ⟨a, ys, rfl, hl, ha, hf, q⟩ := h
  match ys, hl with
  | [y0], _ =>
    refine ⟨a, _, _, rfl, ha, pa_cons (pe_msg (.cons (pm_str (by decide +kernel)) (.cons (pm_fmt (i := 1) (RoomH.of hr) (pv 1)) .nil)) (by show 2 ≤ 16; decide)) pa_nil, (pss_cons (ps_xset (pv 0) (pv 1)) (pss_one (ps_xset (pv 0) pe_str))), ?_⟩
    refine ⟨⟨trivial, ⟨_, rfl, hf _ (by simp)⟩, trivial⟩, fun t => ⟨by show 1 ≤ 1000; decide, ha, ?_⟩⟩
    refine ⟨_, rfl, _, rfl, a, C, rfl, T, (no.2 _ (by simp)), .inl ⟨ha, fun dx nx nd => ?_⟩⟩
    have m0 := Made.new (C := C) (fs := [(("lot" : Str), y0)]) nx nd
    refine ⟨_, rfl, a, C, rfl, T, no.1, .inr ⟨dx, _, m0.2.1, m0.2.2, (by show 1 ≤ 900; decide), ?_⟩⟩
    have m1 := Made.more (fs' := (("code" : Str), V.str "NotSo") :: [(("lot" : Str), y0)]) m0 nx nd
    exact q dx _ nx nd m1.1 m1.2.1 m1.2.2

abbrev sNotEnough : Stmt := inClass (top 16) 0
theorem sc_NotEnough : NdefX.NScope ["self", "lot", "__class__"] ["self", "lot"] ["__class__"] (defScope sNotEnough) := NdefX.nscope_by (by decide +kernel)
theorem ok_NotEnough (T : EC K C) (S : InitF P K C fI sNotEnough "NotEnough.__init__" fd) (no : NoF K C ["lot"]) (ms : mg "super" = none) : FnOk P w K mg base CX0 1 fI fd ["self", "lot"] (spI K C "NotEnough" ["lot"]) := by
  obtain ⟨oc, od, doc, pm, an, ct, osl, c, cc, rfl, lk, SI⟩ := S.ex
  refine super_def (N := ["self", "lot", "__class__"]) (ar := ⟨"self", none, _⟩) T SI sc_NotEnough rfl lk rfl rfl rfl ms (fun vs H Q E h => ?_) fun A outer s H vs Q E hr h => ?_
  · obtain ⟨a, ys, rfl, hl, _⟩ := h
    exact congrArg Nat.succ hl
  obtain ⟨a, ys, rfl, hl, ha, hf, q⟩ := h
  match ys, hl with
  | [y0], _ =>
    refine ⟨a, _, _, rfl, ha, pa_cons (pe_msg (.cons (pm_str (by decide +kernel)) (.cons (pm_fmt (i := 1) (RoomH.of hr) (pv 1)) .nil)) (by show 2 ≤ 16; decide)) pa_nil, (pss_cons (ps_xset (pv 0) (pv 1)) (pss_one (ps_xset (pv 0) pe_str))), ?_⟩
    refine ⟨⟨trivial, ⟨_, rfl, hf _ (by simp)⟩, trivial⟩, fun t => ⟨by show 1 ≤ 1000; decide, ha, ?_⟩⟩
    refine ⟨_, rfl, _, rfl, a, C, rfl, T, (no.2 _ (by simp)), .inl ⟨ha, fun dx nx nd => ?_⟩⟩
    have m0 := Made.new (C := C) (fs := [(("lot" : Str), y0)]) nx nd
    refine ⟨_, rfl, a, C, rfl, T, no.1, .inr ⟨dx, _, m0.2.1, m0.2.2, (by show 1 ≤ 900; decide), ?_⟩⟩
    have m1 := Made.more (fs' := (("code" : Str), V.str "NotEnough") :: [(("lot" : Str), y0)]) m0 nx nd
    exact q dx _ nx nd m1.1 m1.2.1 m1.2.2

abbrev sCantAnswer : Stmt := inClass (top 17) 0
theorem sc_CantAnswer : NdefX.NScope ["self", "at", "run", "__class__"] ["self", "at", "run"] ["__class__"] (defScope sCantAnswer) := NdefX.nscope_by (by decide +kernel)
theorem ok_CantAnswer (T : EC K C) (S : InitF P K C fI sCantAnswer "CantAnswer.__init__" fd) (no : NoF K C ["at", "run"]) (ms : mg "super" = none) : FnOk P w K mg base CX0 1 fI fd ["self", "at", "run"] (spI K C "CantAnswer" ["at", "run"]) := by
  obtain ⟨oc, od, doc, pm, an, ct, osl, c, cc, rfl, lk, SI⟩ := S.ex
  refine super_def (N := ["self", "at", "run", "__class__"]) (ar := ⟨"self", none, _⟩) T SI sc_CantAnswer rfl lk rfl rfl rfl ms (fun vs H Q E h => ?_) fun A outer s H vs Q E hr h => ?_
  · obtain ⟨a, ys, rfl, hl, _⟩ := h
    exact congrArg Nat.succ hl
  obtain ⟨a, ys, rfl, hl, ha, hf, q⟩ := h
  match ys, hl with
  | [y0, y1], _ =>
    refine ⟨a, _, _, rfl, ha, pa_cons (pe_msg (.cons (pm_str (by decide +kernel)) (.cons (pm_fmt (i := 1) (RoomH.of hr) (pv 1)) (.cons (pm_str (by decide +kernel)) (.cons (pm_fmt (i := 2) (RoomH.of hr) (pv 2)) .nil)))) (by show 4 ≤ 16; decide)) pa_nil, (pss_cons (ps_xset (pv 0) (pv 1)) (pss_cons (ps_xset (pv 0) (pv 2)) (pss_one (ps_xset (pv 0) pe_str)))), ?_⟩
    refine ⟨⟨trivial, ⟨_, rfl, hf _ (by simp)⟩, trivial, ⟨_, rfl, hf _ (by simp)⟩, trivial⟩, fun t => ⟨by show 1 ≤ 1000; decide, ha, ?_⟩⟩
    refine ⟨_, rfl, _, rfl, a, C, rfl, T, (no.2 _ (by simp)), .inl ⟨ha, fun dx nx nd => ?_⟩⟩
    have m0 := Made.new (C := C) (fs := [(("at" : Str), y0)]) nx nd
    refine ⟨_, rfl, _, rfl, a, C, rfl, T, (no.2 _ (by simp)), .inr ⟨dx, _, m0.2.1, m0.2.2, (by show 1 ≤ 900; decide), ?_⟩⟩
    have m1 := Made.more (fs' := (("run" : Str), y1) :: [(("at" : Str), y0)]) m0 nx nd
    refine ⟨_, rfl, a, C, rfl, T, no.1, .inr ⟨dx, _, m1.2.1, m1.2.2, (by show 2 ≤ 900; decide), ?_⟩⟩
    have m2 := Made.more (fs' := (("code" : Str), V.str "CantAnswer") :: [(("run" : Str), y1), (("at" : Str), y0)]) m1 nx nd
    exact q dx _ nx nd m2.1 m2.2.1 m2.2.2

abbrev sEndedRun : Stmt := inClass (top 18) 0
theorem sc_EndedRun : NdefX.NScope ["self", "at", "__class__"] ["self", "at"] ["__class__"] (defScope sEndedRun) := NdefX.nscope_by (by decide +kernel)
theorem ok_EndedRun (T : EC K C) (S : InitF P K C fI sEndedRun "EndedRun.__init__" fd) (no : NoF K C ["at"]) (ms : mg "super" = none) : FnOk P w K mg base CX0 1 fI fd ["self", "at"] (spI K C "EndedRun" ["at"]) := by
  obtain ⟨oc, od, doc, pm, an, ct, osl, c, cc, rfl, lk, SI⟩ := S.ex
  refine super_def (N := ["self", "at", "__class__"]) (ar := ⟨"self", none, _⟩) T SI sc_EndedRun rfl lk rfl rfl rfl ms (fun vs H Q E h => ?_) fun A outer s H vs Q E hr h => ?_
  · obtain ⟨a, ys, rfl, hl, _⟩ := h
    exact congrArg Nat.succ hl
  obtain ⟨a, ys, rfl, hl, ha, hf, q⟩ := h
  match ys, hl with
  | [y0], _ =>
    refine ⟨a, _, _, rfl, ha, pa_cons (pe_msg (.cons (pm_str (by decide +kernel)) (.cons (pm_fmt (i := 1) (RoomH.of hr) (pv 1)) (.cons (pm_str (by decide +kernel)) .nil))) (by show 3 ≤ 16; decide)) pa_nil, (pss_cons (ps_xset (pv 0) (pv 1)) (pss_one (ps_xset (pv 0) pe_str))), ?_⟩
    refine ⟨⟨trivial, ⟨_, rfl, hf _ (by simp)⟩, trivial, trivial⟩, fun t => ⟨by show 1 ≤ 1000; decide, ha, ?_⟩⟩
    refine ⟨_, rfl, _, rfl, a, C, rfl, T, (no.2 _ (by simp)), .inl ⟨ha, fun dx nx nd => ?_⟩⟩
    have m0 := Made.new (C := C) (fs := [(("at" : Str), y0)]) nx nd
    refine ⟨_, rfl, a, C, rfl, T, no.1, .inr ⟨dx, _, m0.2.1, m0.2.2, (by show 1 ≤ 900; decide), ?_⟩⟩
    have m1 := Made.more (fs' := (("code" : Str), V.str "EndedRun") :: [(("at" : Str), y0)]) m0 nx nd
    exact q dx _ nx nd m1.1 m1.2.1 m1.2.2

abbrev sNoDraft : Stmt := inClass (top 19) 0
theorem sc_NoDraft : NdefX.NScope ["self", "__class__"] ["self"] ["__class__"] (defScope sNoDraft) := NdefX.nscope_by (by decide +kernel)
theorem ok_NoDraft (T : EC K C) (S : InitF P K C fI sNoDraft "NoDraft.__init__" fd) (no : NoF K C []) (ms : mg "super" = none) : FnOk P w K mg base CX0 1 fI fd ["self"] (spI K C "NoDraft" []) := by
  obtain ⟨oc, od, doc, pm, an, ct, osl, c, cc, rfl, lk, SI⟩ := S.ex
  refine super_def (N := ["self", "__class__"]) (ar := ⟨"self", none, _⟩) T SI sc_NoDraft rfl lk rfl rfl rfl ms (fun vs H Q E h => ?_) fun A outer s H vs Q E hr h => ?_
  · obtain ⟨a, ys, rfl, hl, _⟩ := h
    exact congrArg Nat.succ hl
  obtain ⟨a, ys, rfl, hl, ha, hf, q⟩ := h
  match ys, hl with
  | [], _ =>
    refine ⟨a, _, _, rfl, ha, pa_cons pe_str pa_nil, (pss_one (ps_xset (pv 0) pe_str)), ?_⟩
    refine ⟨by show 1 ≤ 1000; decide, ha, ?_⟩
    refine ⟨_, rfl, a, C, rfl, T, no.1, .inl ⟨ha, fun dx nx nd => ?_⟩⟩
    have m0 := Made.new (C := C) (fs := [(("code" : Str), V.str "NoDraft")]) nx nd
    exact q dx _ nx nd m0.1 m0.2.1 m0.2.2

abbrev sInDraft : Stmt := inClass (top 20) 0
theorem sc_InDraft : NdefX.NScope ["self", "__class__"] ["self"] ["__class__"] (defScope sInDraft) := NdefX.nscope_by (by decide +kernel)
theorem ok_InDraft (T : EC K C) (S : InitF P K C fI sInDraft "InDraft.__init__" fd) (no : NoF K C []) (ms : mg "super" = none) : FnOk P w K mg base CX0 1 fI fd ["self"] (spI K C "InDraft" []) := by
  obtain ⟨oc, od, doc, pm, an, ct, osl, c, cc, rfl, lk, SI⟩ := S.ex
  refine super_def (N := ["self", "__class__"]) (ar := ⟨"self", none, _⟩) T SI sc_InDraft rfl lk rfl rfl rfl ms (fun vs H Q E h => ?_) fun A outer s H vs Q E hr h => ?_
  · obtain ⟨a, ys, rfl, hl, _⟩ := h
    exact congrArg Nat.succ hl
  obtain ⟨a, ys, rfl, hl, ha, hf, q⟩ := h
  match ys, hl with
  | [], _ =>
    refine ⟨a, _, _, rfl, ha, pa_cons pe_str pa_nil, (pss_one (ps_xset (pv 0) pe_str)), ?_⟩
    refine ⟨by show 1 ≤ 1000; decide, ha, ?_⟩
    refine ⟨_, rfl, a, C, rfl, T, no.1, .inl ⟨ha, fun dx nx nd => ?_⟩⟩
    have m0 := Made.new (C := C) (fs := [(("code" : Str), V.str "InDraft")]) nx nd
    exact q dx _ nx nd m0.1 m0.2.1 m0.2.2

abbrev sUnknownPart : Stmt := inClass (top 22) 0
theorem sc_UnknownPart : NdefX.NScope ["self", "name", "__class__"] ["self", "name"] ["__class__"] (defScope sUnknownPart) := NdefX.nscope_by (by decide +kernel)
theorem ok_UnknownPart (T : EC K C) (S : InitF P K C fI sUnknownPart "UnknownPart.__init__" fd) (no : NoF K C ["name"]) (ms : mg "super" = none) : FnOk P w K mg base CX0 1 fI fd ["self", "name"] (spI K C "UnknownPart" ["name"]) := by
  obtain ⟨oc, od, doc, pm, an, ct, osl, c, cc, rfl, lk, SI⟩ := S.ex
  refine super_def (N := ["self", "name", "__class__"]) (ar := ⟨"self", none, _⟩) T SI sc_UnknownPart rfl lk rfl rfl rfl ms (fun vs H Q E h => ?_) fun A outer s H vs Q E hr h => ?_
  · obtain ⟨a, ys, rfl, hl, _⟩ := h
    exact congrArg Nat.succ hl
  obtain ⟨a, ys, rfl, hl, ha, hf, q⟩ := h
  match ys, hl with
  | [y0], _ =>
    refine ⟨a, _, _, rfl, ha, pa_cons (pe_msg (.cons (pm_str (by decide +kernel)) (.cons (pm_fmt (i := 1) (RoomH.of hr) (pv 1)) .nil)) (by show 2 ≤ 16; decide)) pa_nil, (pss_cons (ps_xset (pv 0) (pv 1)) (pss_one (ps_xset (pv 0) pe_str))), ?_⟩
    refine ⟨⟨trivial, ⟨_, rfl, hf _ (by simp)⟩, trivial⟩, fun t => ⟨by show 1 ≤ 1000; decide, ha, ?_⟩⟩
    refine ⟨_, rfl, _, rfl, a, C, rfl, T, (no.2 _ (by simp)), .inl ⟨ha, fun dx nx nd => ?_⟩⟩
    have m0 := Made.new (C := C) (fs := [(("name" : Str), y0)]) nx nd
    refine ⟨_, rfl, a, C, rfl, T, no.1, .inr ⟨dx, _, m0.2.1, m0.2.2, (by show 1 ≤ 900; decide), ?_⟩⟩
    have m1 := Made.more (fs' := (("code" : Str), V.str "UnknownPart") :: [(("name" : Str), y0)]) m0 nx nd
    exact q dx _ nx nd m1.1 m1.2.1 m1.2.2

abbrev sUnknownName : Stmt := inClass (top 23) 0
theorem sc_UnknownName : NdefX.NScope ["self", "name", "__class__"] ["self", "name"] ["__class__"] (defScope sUnknownName) := NdefX.nscope_by (by decide +kernel)
theorem ok_UnknownName (T : EC K C) (S : InitF P K C fI sUnknownName "UnknownName.__init__" fd) (no : NoF K C ["name"]) (ms : mg "super" = none) : FnOk P w K mg base CX0 1 fI fd ["self", "name"] (spI K C "UnknownName" ["name"]) := by
  obtain ⟨oc, od, doc, pm, an, ct, osl, c, cc, rfl, lk, SI⟩ := S.ex
  refine super_def (N := ["self", "name", "__class__"]) (ar := ⟨"self", none, _⟩) T SI sc_UnknownName rfl lk rfl rfl rfl ms (fun vs H Q E h => ?_) fun A outer s H vs Q E hr h => ?_
  · obtain ⟨a, ys, rfl, hl, _⟩ := h
    exact congrArg Nat.succ hl
  obtain ⟨a, ys, rfl, hl, ha, hf, q⟩ := h
  match ys, hl with
  | [y0], _ =>
    refine ⟨a, _, _, rfl, ha, pa_cons (pe_msg (.cons (pm_str (by decide +kernel)) (.cons (pm_fmt (i := 1) (RoomH.of hr) (pv 1)) .nil)) (by show 2 ≤ 16; decide)) pa_nil, (pss_cons (ps_xset (pv 0) (pv 1)) (pss_one (ps_xset (pv 0) pe_str))), ?_⟩
    refine ⟨⟨trivial, ⟨_, rfl, hf _ (by simp)⟩, trivial⟩, fun t => ⟨by show 1 ≤ 1000; decide, ha, ?_⟩⟩
    refine ⟨_, rfl, _, rfl, a, C, rfl, T, (no.2 _ (by simp)), .inl ⟨ha, fun dx nx nd => ?_⟩⟩
    have m0 := Made.new (C := C) (fs := [(("name" : Str), y0)]) nx nd
    refine ⟨_, rfl, a, C, rfl, T, no.1, .inr ⟨dx, _, m0.2.1, m0.2.2, (by show 1 ≤ 900; decide), ?_⟩⟩
    have m1 := Made.more (fs' := (("code" : Str), V.str "UnknownName") :: [(("name" : Str), y0)]) m0 nx nd
    exact q dx _ nx nd m1.1 m1.2.1 m1.2.2

abbrev sUnknownRun : Stmt := inClass (top 24) 0
theorem sc_UnknownRun : NdefX.NScope ["self", "at", "__class__"] ["self", "at"] ["__class__"] (defScope sUnknownRun) := NdefX.nscope_by (by decide +kernel)
theorem ok_UnknownRun (T : EC K C) (S : InitF P K C fI sUnknownRun "UnknownRun.__init__" fd) (no : NoF K C ["at"]) (ms : mg "super" = none) : FnOk P w K mg base CX0 1 fI fd ["self", "at"] (spI K C "UnknownRun" ["at"]) := by
  obtain ⟨oc, od, doc, pm, an, ct, osl, c, cc, rfl, lk, SI⟩ := S.ex
  refine super_def (N := ["self", "at", "__class__"]) (ar := ⟨"self", none, _⟩) T SI sc_UnknownRun rfl lk rfl rfl rfl ms (fun vs H Q E h => ?_) fun A outer s H vs Q E hr h => ?_
  · obtain ⟨a, ys, rfl, hl, _⟩ := h
    exact congrArg Nat.succ hl
  obtain ⟨a, ys, rfl, hl, ha, hf, q⟩ := h
  match ys, hl with
  | [y0], _ =>
    refine ⟨a, _, _, rfl, ha, pa_cons (pe_msg (.cons (pm_str (by decide +kernel)) (.cons (pm_fmt (i := 1) (RoomH.of hr) (pv 1)) .nil)) (by show 2 ≤ 16; decide)) pa_nil, (pss_cons (ps_xset (pv 0) (pv 1)) (pss_one (ps_xset (pv 0) pe_str))), ?_⟩
    refine ⟨⟨trivial, ⟨_, rfl, hf _ (by simp)⟩, trivial⟩, fun t => ⟨by show 1 ≤ 1000; decide, ha, ?_⟩⟩
    refine ⟨_, rfl, _, rfl, a, C, rfl, T, (no.2 _ (by simp)), .inl ⟨ha, fun dx nx nd => ?_⟩⟩
    have m0 := Made.new (C := C) (fs := [(("at" : Str), y0)]) nx nd
    refine ⟨_, rfl, a, C, rfl, T, no.1, .inr ⟨dx, _, m0.2.1, m0.2.2, (by show 1 ≤ 900; decide), ?_⟩⟩
    have m1 := Made.more (fs' := (("code" : Str), V.str "UnknownRun") :: [(("at" : Str), y0)]) m0 nx nd
    exact q dx _ nx nd m1.1 m1.2.1 m1.2.2

abbrev sNotHeld : Stmt := inClass (top 25) 0
theorem sc_NotHeld : NdefX.NScope ["self", "run", "__class__"] ["self", "run"] ["__class__"] (defScope sNotHeld) := NdefX.nscope_by (by decide +kernel)
theorem ok_NotHeld (T : EC K C) (S : InitF P K C fI sNotHeld "NotHeld.__init__" fd) (no : NoF K C ["run"]) (ms : mg "super" = none) : FnOk P w K mg base CX0 1 fI fd ["self", "run"] (spI K C "NotHeld" ["run"]) := by
  obtain ⟨oc, od, doc, pm, an, ct, osl, c, cc, rfl, lk, SI⟩ := S.ex
  refine super_def (N := ["self", "run", "__class__"]) (ar := ⟨"self", none, _⟩) T SI sc_NotHeld rfl lk rfl rfl rfl ms (fun vs H Q E h => ?_) fun A outer s H vs Q E hr h => ?_
  · obtain ⟨a, ys, rfl, hl, _⟩ := h
    exact congrArg Nat.succ hl
  obtain ⟨a, ys, rfl, hl, ha, hf, q⟩ := h
  match ys, hl with
  | [y0], _ =>
    refine ⟨a, _, _, rfl, ha, pa_cons (pe_msg (.cons (pm_str (by decide +kernel)) (.cons (pm_fmt (i := 1) (RoomH.of hr) (pv 1)) .nil)) (by show 2 ≤ 16; decide)) pa_nil, (pss_cons (ps_xset (pv 0) (pv 1)) (pss_one (ps_xset (pv 0) pe_str))), ?_⟩
    refine ⟨⟨trivial, ⟨_, rfl, hf _ (by simp)⟩, trivial⟩, fun t => ⟨by show 1 ≤ 1000; decide, ha, ?_⟩⟩
    refine ⟨_, rfl, _, rfl, a, C, rfl, T, (no.2 _ (by simp)), .inl ⟨ha, fun dx nx nd => ?_⟩⟩
    have m0 := Made.new (C := C) (fs := [(("run" : Str), y0)]) nx nd
    refine ⟨_, rfl, a, C, rfl, T, no.1, .inr ⟨dx, _, m0.2.1, m0.2.2, (by show 1 ≤ 900; decide), ?_⟩⟩
    have m1 := Made.more (fs' := (("code" : Str), V.str "NotHeld") :: [(("run" : Str), y0)]) m0 nx nd
    exact q dx _ nx nd m1.1 m1.2.1 m1.2.2

abbrev sNothingLeft : Stmt := inClass (top 26) 0
theorem sc_NothingLeft : NdefX.NScope ["self", "__class__"] ["self"] ["__class__"] (defScope sNothingLeft) := NdefX.nscope_by (by decide +kernel)
theorem ok_NothingLeft (T : EC K C) (S : InitF P K C fI sNothingLeft "NothingLeft.__init__" fd) (no : NoF K C []) (ms : mg "super" = none) : FnOk P w K mg base CX0 1 fI fd ["self"] (spI K C "NothingLeft" []) := by
  obtain ⟨oc, od, doc, pm, an, ct, osl, c, cc, rfl, lk, SI⟩ := S.ex
  refine super_def (N := ["self", "__class__"]) (ar := ⟨"self", none, _⟩) T SI sc_NothingLeft rfl lk rfl rfl rfl ms (fun vs H Q E h => ?_) fun A outer s H vs Q E hr h => ?_
  · obtain ⟨a, ys, rfl, hl, _⟩ := h
    exact congrArg Nat.succ hl
  obtain ⟨a, ys, rfl, hl, ha, hf, q⟩ := h
  match ys, hl with
  | [], _ =>
    refine ⟨a, _, _, rfl, ha, pa_cons pe_str pa_nil, (pss_one (ps_xset (pv 0) pe_str)), ?_⟩
    refine ⟨by show 1 ≤ 1000; decide, ha, ?_⟩
    refine ⟨_, rfl, a, C, rfl, T, no.1, .inl ⟨ha, fun dx nx nd => ?_⟩⟩
    have m0 := Made.new (C := C) (fs := [(("code" : Str), V.str "NothingLeft")]) nx nd
    exact q dx _ nx nd m0.1 m0.2.1 m0.2.2

end
end K0

set_option Elab.async false
set_option linter.all false
set_option maxRecDepth 100000
set_option maxHeartbeats 4000000
namespace Fb
open PySem PySem.Spec PyProof.Rows L2
/-! ### the bag of draws -/
def tCut (t u : TS) : TS := fun D σ H => ∃ Mid : L2.St → Hp → Prop, t { D with nx := Mid } σ H ∧ ∀ σ' H', Mid σ' H' → u D σ' H'
theorem pss_cut {X : Cx} {st : Stmt} {rest : List Stmt} {t u : TS} (h1 : PS X st t) (h2 : PSs X rest u) : PSs X (st :: rest) (tCut t u) := by
  refine ⟨fun pins s σ H D I ⟨Mid, hm, hu⟩ => wpAny_execs_cons (thn (h1.run pins s σ H { D with nx := Mid } I hm) fun f s1 q => ?_)⟩
  cases f with
  | next => exact let ⟨σ', H', I', q⟩ := q; h2.run pins s1 σ' H' D I' (hu σ' H' q)
  | ret v => exact q
  | brk => exact q
  | cont => exact q
/-- all that was tracked but the object at b is as it was -/
abbrev But (b : Addr) (H H' : Hp) : Prop := Same (L2.del H b) (L2.del H' b)
theorem But.refl {b : Addr} {H : Hp} : But b H H := Same.refl _
theorem But.of {b : Addr} {H H' : Hp} (s : Same H H') : But b H H' := fun c o e => by
  by_cases hb : c = b
  · rw [hb, L2.del_same] at e
    cases e
  · rw [L2.del_ne hb] at e ⊢
    exact s c o e
theorem But.upd {b : Addr} {H : Hp} {o : HO} : But b H (upd H b o) := fun c u e => by
  by_cases hb : c = b
  · rw [hb, L2.del_same] at e
    cases e
  · rw [L2.del_ne hb] at e ⊢
    rw [upd_ne hb]
    exact e
theorem But.trans {b : Addr} {H H' H'' : Hp} (x : But b H H') (y : But b H' H'') : But b H H'' := Same.trans x y
theorem But.at {b c : Addr} {H H' : Hp} {o : HO} (x : But b H H') (hc : c ≠ b) (e : H c = some o) : H' c = some o := by
  have q := x c o ((L2.del_ne hc).trans e)
  rw [L2.del_ne hc] at q
  exact q
theorem Same.undel {b : Addr} {H : Hp} : Same (L2.del H b) H := fun c o e => by
  by_cases hb : c = b
  · rw [hb, L2.del_same] at e
    cases e
  · rwa [L2.del_ne hb] at e
/-- what the five cells are -/
def bagL (l : Addr) (i big seed cnt : Int) : HO := .lst [.ref l, .int i, .int big, .int seed, .int cnt]
structure BagAt (l : Addr) (H : Hp) (b : Addr) : Prop where
  at_ : ∃ (ns : List Int) (i big seed cnt : Int), H b = some (bagL l i big seed cnt) ∧ H l = some (.lst (ns.map V.int)) ∧ l ≠ b ∧ 0 ≤ i ∧ 0 ≤ big ∧ 0 ≤ seed ∧ seed < 2147483629
theorem BagAt.same {l : Addr} {H H' : Hp} {b : Addr} (x : BagAt l H b) (s : Same H H') : BagAt l H' b := by
  obtain ⟨ns, i, big, seed, cnt, h1, h2, r⟩ := x.at_
  exact ⟨ns, i, big, seed, cnt, s _ _ h1, s _ _ h2, r⟩
theorem BagAt.new {l : Addr} {H : Hp} {b p : Addr} (x : BagAt l H b) (np : H p = none) (o : HO) : BagAt l (upd H p o) b := x.same (same_new np o)
theorem BagAt.skip {l : Addr} {H : Hp} {b p : Addr} (x : BagAt l H b) (h1 : p ≠ b) (h2 : p ≠ l) (o : HO) : BagAt l (upd H p o) b := by
  obtain ⟨ns, i, big, seed, cnt, g1, g2, r⟩ := x.at_
  exact ⟨ns, i, big, seed, cnt, (upd_ne h1.symm).trans g1, (upd_ne h2.symm).trans g2, r⟩
theorem BagAt.cell {l : Addr} {H : Hp} {b p : Addr} (x : BagAt l H b) (h : H p = none) : p ≠ l := fun z => by
  obtain ⟨ns, i, big, seed, cnt, g1, g2, r⟩ := x.at_
  rw [z, g2] at h
  cases h
def spBag (K : PySem.W.Frag) : Sp := fun vs H Q _ => ∃ (a : Addr) (ns : List Int), vs = [.ref a] ∧ SqL K H a (ns.map V.int) ∧ ns.length ≤ 63 ∧ ∀ (b l : Addr) (H' : Hp), Same H H' → H b = none → H l = none → BagAt l H' b → Q (.ref b) H'
def spDraw : Sp := fun vs H Q _ => ∃ (b l : Addr) (n : Int), vs = [.ref b, .int n] ∧ BagAt l H b ∧ 0 < n ∧ n < 1073741824 ∧ ∀ (r : Int) (H' : Hp), 0 ≤ r → r < n → BagAt l H' b → But b H H' → Q (.int r) H'
/-- what a thing of a list, a tuple, a text is -/
def Among (K : PySem.W.Frag) (H : Hp) (b : Addr) (x : V) (n : Nat) (P : V → Prop) : Prop := (∃ (p : Addr) (xs : List V), x = .ref p ∧ p ≠ b ∧ (SqL K H p xs ∨ SqT K H p xs) ∧ xs.length = n ∧ ∀ y ∈ xs, P y) ∨ ∃ z : Str, x = .str z ∧ z.cps.toList.length = n ∧ ∀ c ∈ z.cps.toList, P (.str ⟨#[c]⟩)
def spOf (K : PySem.W.Frag) : Sp := fun vs H Q _ => ∃ (b l : Addr) (x : V) (n : Nat) (P : V → Prop), vs = [.ref b, x] ∧ BagAt l H b ∧ 0 < n ∧ n ≤ 100000 ∧ Among K H b x n P ∧ ∀ (y : V) (H' : Hp), P y → BagAt l H' b → But b H H' → Q y H'
theorem seqBut {K : PySem.W.Frag} {H H' : Hp} {b p : Addr} {xs : List V} (x : But b H H') (hp : p ≠ b) (h : SqL K H p xs ∨ SqT K H p xs) : SqL K H' p xs ∨ SqT K H' p xs := by
  refine h.imp (fun h => ?_) fun h => ?_
  · rcases h with (h | ⟨o, h⟩) | h
    · exact .inl (.inl (x.at hp h))
    · exact .inl (.inr ⟨o, x.at hp h⟩)
    · exact .inr h
  · rcases h with (h | ⟨o, h⟩) | h
    · exact .inl (.inl (x.at hp h))
    · exact .inl (.inr ⟨o, x.at hp h⟩)
    · exact .inr h
theorem fmodR {i n : Int} (h : 0 < n) : 0 ≤ i.fmod n ∧ i.fmod n < n := by
  rw [Int.fmod_eq_emod_of_nonneg _ (by omega)]
  exact ⟨Int.emod_nonneg _ (by omega), Int.emod_lt_of_pos _ h⟩
theorem fdivR {i n : Int} (h0 : 0 ≤ i) (h : 0 < n) : 0 ≤ i.fdiv n := by
  rw [Int.fdiv_eq_ediv_of_nonneg _ (by omega)]
  exact Int.ediv_nonneg h0 (by omega)
end Fb

set_option Elab.async false
set_option linter.all false
set_option maxRecDepth 100000
set_option maxHeartbeats 4000000
namespace K0
open PySem PySem.Spec PyProof.Rows L2 Fb
abbrev sBag : Stmt := top 28
abbrev sDraw : Stmt := top 29
abbrev sOf : Stmt := top 30
section
variable {P : Program} {w : World} {K : PySem.W.Frag} {mg : Str → Option Value} {base : Heap}
theorem scBag : FnScope ["script", "seed", "item"] ["script"] (defScope sBag) := ⟨rfl, rfl, rfl, by decide +kernel, rfl, by decide +kernel, by decide +kernel⟩
theorem ok_bag {f : Addr} {fd : FuncData} (F : Fun K "_law_bag" "_law_bag" sBag f fd) (mi : mg "int" = none) (ml : mg "list" = none) : FnOk P w K mg base CX0 1 f fd ["script"] (spBag K) := by
  refine F.ok scBag (fun vs H Q E h => ?_) (fun cdv A outer s H vs Q E hr h => ?_)
  · obtain ⟨a, ns, rfl, _⟩ := h
    rfl
  obtain ⟨a, ns, rfl, hS, hlen, q⟩ := h
  refine ⟨_, pss_cons (ps_set (i := 1) scBag.nd rfl (Or.inl rfl) pe_int)
    (pss_cons (ps_for PassesOwn.never rfl (pi_list (pe_slice sl_list (pv 0) po_none (po_some pe_int))) (pg_name (i := 2) scBag.nd rfl (Or.inl rfl))
      (pss_one (ps_set (i := 1) scBag.nd rfl (Or.inl rfl) (pe_op op_modN (pe_callTy call_int1 rfl mi (by decide +kernel) (pa_cons (pe_op op_add (pe_op op_add (pe_op op_mul (pv 1) pe_int) (pe_op op_modN (pe_callTy call_int1 rfl mi (by decide +kernel) (pa_cons (pv 2) pa_nil)) pe_int)) pe_int) pa_nil)) pe_int))))
    (pss_one (ps_ret (pe_lst (pa_cons (pe_callTy call_list_of rfl ml (by decide +kernel) (pa_cons (pe_slice sl_list (pv 0) po_none (po_some pe_int)) pa_nil)) (pa_cons pe_int (pa_cons pe_int (pa_cons (pv 1) (pa_cons pe_int pa_nil))))))))), ?_⟩
  refine ⟨_, rfl, 63, rfl, a, _, rfl, hS, fun p hp => ?_⟩
  have cut : ∃ ms : List Int, cutV (ns.map V.int) none (some 63) = ms.map V.int := ⟨(ns.drop (HT.sIx ns.length 0 none)).take (HT.sIx ns.length ns.length (some 63) - HT.sIx ns.length 0 none), by
    unfold cutV
    rw [List.length_map, List.map_take, List.map_drop]⟩
  obtain ⟨ms, hms⟩ := cut
  rw [hms]
  have s1 : Same H (upd H p (.lst (ms.map V.int))) := same_new hp _
  refine ⟨p, rfl, ⟨_, SqL.of upd_same⟩, for_list (K := K) (a := p) (xs := ms.map V.int) (fun i σ H2 => H2 = upd H p (.lst (ms.map V.int)) ∧ ∃ (seed : Int) (v : Option V), σ = [some (.ref a), some (.int seed), v] ∧ 0 ≤ seed ∧ seed < 2147483629)
    ⟨rfl, 12049, none, rfl, by decide, by decide⟩ (fun i σ H2 _ h => by rw [h.1]; exact SqL.of upd_same) ?_ ?_⟩
  · rintro i y σ H2 hi ⟨rfl, seed, v, rfl, h0, h1⟩
    obtain ⟨z, _, rfl⟩ : ∃ z, ms[i]? = some z ∧ V.int z = y := by
      rw [List.getElem?_map] at hi
      exact Option.map_eq_some_iff.mp hi
    refine ⟨_, rfl, _, _, rfl, rfl, .inl ⟨by omega, by omega⟩, _, rfl, .inl ⟨_, rfl, _, _, rfl, rfl, (by show (2147483587 : Int) ≠ 0; decide), _, _, rfl, rfl, _, _, rfl, rfl, .inl ⟨_, rfl, _, _, rfl, rfl, (by show (2147483629 : Int) ≠ 0; decide), ?_⟩⟩⟩
    exact ⟨rfl, _, _, rfl, fmodR (by decide)⟩
  · rintro σ H2 ⟨rfl, seed, v, rfl, h0, h1⟩
    refine ⟨_, rfl, 63, rfl, a, _, rfl, s1.seq hS, fun p2 hp2 => ?_⟩
    rw [hms]
    have s2 := s1.trans (same_new hp2 (.lst (ms.map V.int)))
    refine ⟨p2, _, rfl, .inl (SqL.of upd_same), fun l hl => ?_⟩
    have s3 := s2.trans (same_new hl (.lst (ms.map V.int)))
    refine ⟨_, rfl, (by show 5 ≤ sizeLine; decide), fun b hb => ?_⟩
    refine q b l _ (s3.trans (same_new hb _)) (s3.free hb) (s2.free hl) ⟨ms, 0, 0, seed, 0, upd_same, (upd_ne ?_).trans upd_same, ?_, by decide, by decide, h0, h1⟩
    all_goals
      intro z
      rw [← z, upd_same] at hb
      cases hb
theorem scDraw : FnScope ["bag", "size", "item", "digit"] ["bag", "size"] (defScope sDraw) := ⟨rfl, rfl, rfl, by decide +kernel, rfl, by decide +kernel, by decide +kernel⟩
theorem ok_draw {f : Addr} {fd : FuncData} (F : Fun K "_law_draw" "_law_draw" sDraw f fd) (mi : mg "int" = none) (ml : mg "len" = none) : FnOk P w K mg base CX0 1 f fd ["bag", "size"] spDraw := by
  refine F.ok scDraw (fun vs H Q E h => ?_) (fun cdv A outer s H vs Q E hr h => ?_)
  · obtain ⟨b, l, n, rfl, _⟩ := h
    rfl
  obtain ⟨b, l, n, rfl, B, hn, hn2, q⟩ := h
  refine ⟨_, pss_cons (ps_asg (pe_op op_add (pe_ix ix_list (pv 0) pe_int (fun _ _ => rfl)) pe_int) (pg_sub (pv 0) pe_int set_list))
    (pss_cut (ps_if (PW.pt (pw_and (pt_cmpR op_eq (pe_ix ix_list (pv 0) pe_int (fun _ _ => rfl)) pe_int (nomark _)) (pw_and1 (pt_cmpR op_lt (pe_ix ix_list (pv 0) pe_int (fun _ _ => rfl)) (pe_callB call_len_seq rfl ml PySem.boot_len (pa_cons (pe_ix ix_list (pv 0) pe_int (fun _ _ => rfl)) pa_nil)) (nomark _)))))
        (pss_cons (ps_set (i := 2) scDraw.nd rfl (Or.inl rfl) (pe_ix ix_list (pe_ix ix_list (pv 0) pe_int (fun _ _ => rfl)) (pe_ix ix_list (pv 0) pe_int (fun _ _ => rfl)) (fun _ _ => rfl)))
        (pss_cons (ps_asg (pe_op op_add (pe_ix ix_list (pv 0) pe_int (fun _ _ => rfl)) pe_int) (pg_sub (pv 0) pe_int set_list))
        (pss_one (ps_if (pt_cmpR op_ge (pv 2) (pe_op op_pow pe_int pe_int) (nomark _))
          (pss_one (ps_asg (pv 2) (pg_sub (pv 0) pe_int set_list)))
          (pss_one (ps_asg (pe_op op_modN (pe_callTy call_int1 rfl mi (by decide +kernel) (pa_cons (pe_op op_add (pe_op op_add (pe_op op_mul (pe_ix ix_list (pv 0) pe_int (fun _ _ => rfl)) pe_int) (pe_op op_mul (pe_op op_modN (pe_callTy call_int1 rfl mi (by decide +kernel) (pa_cons (pv 2) pa_nil)) pe_int) pe_int)) pe_int) pa_nil)) pe_int) (pg_sub (pv 0) pe_int set_list)))))))
        pss_nil)
    (pss_cons (ps_if (pt_cmpR op_gt (pe_ix ix_list (pv 0) pe_int (fun _ _ => rfl)) pe_int (nomark _))
        (pss_cons (ps_set (i := 3) scDraw.nd rfl (Or.inl rfl) (pe_op op_modN (pe_callTy call_int1 rfl mi (by decide +kernel) (pa_cons (pe_ix ix_list (pv 0) pe_int (fun _ _ => rfl)) pa_nil)) (pv 1)))
        (pss_cons (ps_asg (pe_op op_fdivN (pe_ix ix_list (pv 0) pe_int (fun _ _ => rfl)) (pv 1)) (pg_sub (pv 0) pe_int set_list))
        (pss_one (ps_ret (pv 3)))))
        pss_nil)
    (pss_cons (ps_asg (pe_op op_modN (pe_callTy call_int1 rfl mi (by decide +kernel) (pa_cons (pe_op op_add (pe_op op_add (pe_op op_pow (pe_ix ix_list (pv 0) pe_int (fun _ _ => rfl)) pe_int) (pe_op op_mul (pe_ix ix_list (pv 0) pe_int (fun _ _ => rfl)) pe_int)) pe_int) pa_nil)) pe_int) (pg_sub (pv 0) pe_int set_list))
    (pss_one (ps_ret (pe_op op_modN (pe_callTy call_int1 rfl mi (by decide +kernel) (pa_cons (pe_op op_add (pe_op op_fdivN (pe_ix ix_list (pv 0) pe_int (fun _ _ => rfl)) pe_int) (pe_op op_mul (pe_op op_modN (pe_callTy call_int1 rfl mi (by decide +kernel) (pa_cons (pe_ix ix_list (pv 0) pe_int (fun _ _ => rfl)) pa_nil)) pe_int) pe_int)) pa_nil)) (pv 1))))))), ?_⟩
  obtain ⟨ns, i, big, seed, cnt, h1, h2, hlb, i0, b0, s0, s1⟩ := B.at_
  have h1' : H b = some (.lst [.ref l, .int i, .int big, .int seed, .int cnt]) := h1
  refine ⟨_, rfl, b, _, 4, _, rfl, rfl, SqL.of h1', rfl, _, _, rfl, rfl, _, rfl, b, _, 4, 4, rfl, rfl, h1', rfl, ?_⟩
  generalize eH : upd H b (.lst (List.set [V.ref l, V.int i, V.int big, V.int seed, V.int cnt] 4 (V.int (cnt + 1)))) = H1
  have g1 : H1 b = some (.lst [.ref l, .int i, .int big, .int seed, .int (cnt + 1)]) := by
    rw [← eH]
    exact upd_same
  have g2 : H1 l = some (.lst (ns.map V.int)) := by
    rw [← eH]
    exact (upd_ne hlb).trans h2
  have g3 : But b H H1 := by
    rw [← eH]
    exact But.upd
  refine ⟨fun σ' H' => ∃ (v : Option V) (i big seed cnt : Int), σ' = [some (.ref b), some (.int n), v, none] ∧ H' b = some (.lst [.ref l, .int i, .int big, .int seed, .int cnt]) ∧ H' l = some (.lst (ns.map V.int)) ∧ But b H H' ∧ 0 ≤ i ∧ 0 ≤ big ∧ 0 ≤ seed ∧ seed < 2147483629, ?_, ?_⟩
  · -- if bag[2] == 0 and bag[1] < len(bag[0])
    refine ⟨_, rfl, b, _, 2, _, rfl, rfl, SqL.of g1, rfl, rfl, _, rfl, ?_⟩
    refine ite2 (fun c => ?_) (fun c => iteF ⟨none, i, big, seed, cnt + 1, rfl, g1, g2, g3, i0, b0, s0, s1⟩)
    refine ⟨_, rfl, b, _, 1, _, rfl, rfl, SqL.of g1, rfl, _, rfl, b, _, 0, _, rfl, rfl, SqL.of g1, rfl, l, _, rfl, .inl (SqL.of g2), _, _, rfl, rfl, _, rfl, ?_⟩
    refine ite2 (fun c2 => ?_) (fun c2 => ⟨none, i, big, seed, cnt + 1, rfl, g1, g2, g3, i0, b0, s0, s1⟩)
    have hi : i < (ns.length : Int) := by
      have e := of_decide_eq_true c2
      rw [List.length_map] at e
      exact e
    obtain ⟨z, hz⟩ : ∃ z, atI (ns.map V.int) i = some (V.int z) := by
      have hk : i.toNat < ns.length := by omega
      have e : i = ((i.toNat : Nat) : Int) := by omega
      refine ⟨ns[i.toNat], ?_⟩
      have y : atI (ns.map V.int) ((i.toNat : Nat) : Int) = some (.int ns[i.toNat]) := atI_nat (by rw [List.getElem?_map, List.getElem?_eq_getElem hk]; rfl)
      rw [← e] at y
      exact y
    refine ⟨_, rfl, b, _, 0, _, rfl, rfl, SqL.of g1, rfl, _, rfl, b, _, 1, _, rfl, rfl, SqL.of g1, rfl, l, _, i, _, rfl, rfl, SqL.of g2, hz, ?_⟩
    refine ⟨_, rfl, b, _, 1, _, rfl, rfl, SqL.of g1, rfl, _, _, rfl, rfl, _, rfl, b, _, 1, 1, rfl, rfl, g1, rfl, ?_⟩
    generalize eH2 : upd H1 b (.lst (List.set [V.ref l, V.int i, V.int big, V.int seed, V.int (cnt + 1)] 1 (V.int (i + 1)))) = H2
    have k1 : H2 b = some (.lst [.ref l, .int (i + 1), .int big, .int seed, .int (cnt + 1)]) := by
      rw [← eH2]
      exact upd_same
    have k2 : H2 l = some (.lst (ns.map V.int)) := by
      rw [← eH2]
      exact (upd_ne hlb).trans g2
    have k3 : But b H H2 := by
      rw [← eH2]
      exact g3.trans But.upd
    refine ⟨_, rfl, _, _, rfl, rfl, ⟨by decide, by decide, by decide⟩, _, _, rfl, rfl, _, rfl, ?_⟩
    refine ite2 (fun c3 => ?_) (fun c3 => ?_)
    · have hz0 : 0 ≤ z := by
        have e := of_decide_eq_true c3
        have e2 : (0 : Int) ≤ 10 ^ (18 : Int).toNat := by decide
        exact Int.le_trans e2 e
      refine ⟨_, rfl, _, rfl, b, _, 2, 2, rfl, rfl, k1, rfl, ?_⟩
      exact ⟨some (.int z), i + 1, z, seed, cnt + 1, rfl, upd_same, (upd_ne hlb).trans k2, k3.trans But.upd, by omega, hz0, s0, s1⟩
    · refine ⟨_, rfl, b, _, 3, _, rfl, rfl, SqL.of k1, rfl, _, _, rfl, rfl, .inl ⟨by omega, by omega⟩, _, rfl, .inl ⟨_, rfl, _, _, rfl, rfl, (by show (2147483549 : Int) ≠ 0; decide), _, _, rfl, rfl, .inr ⟨by decide, by decide⟩, _, _, rfl, rfl, _, _, rfl, rfl,
        .inl ⟨_, rfl, _, _, rfl, rfl, (by show (2147483629 : Int) ≠ 0; decide), _, rfl, b, _, 3, 3, rfl, rfl, k1, rfl, ?_⟩⟩⟩
      have R := fmodR (i := seed * 69621 + z.fmod 2147483549 * 30103 + 89) (n := 2147483629) (by decide)
      exact ⟨some (.int z), i + 1, big, _, cnt + 1, rfl, upd_same, (upd_ne hlb).trans k2, k3.trans But.upd, by omega, b0, R.1, R.2⟩
  · rintro σ' H' ⟨v, i, big, seed, cnt, rfl, g1, g2, g3, i0, b0, s0, s1⟩
    refine ⟨_, rfl, b, _, 2, _, rfl, rfl, SqL.of g1, rfl, _, _, rfl, rfl, _, rfl, ?_⟩
    refine ite2 (fun c => ?_) (fun c => ?_)
    · have hn0 : n ≠ 0 := by omega
      refine ⟨_, rfl, b, _, 2, _, rfl, rfl, SqL.of g1, rfl, .inl ⟨_, rfl, _, rfl, _, _, rfl, rfl, hn0, ?_⟩⟩
      refine ⟨_, rfl, b, _, 2, _, rfl, rfl, SqL.of g1, rfl, _, rfl, _, _, rfl, rfl, ⟨hn0, by omega⟩, _, rfl, b, _, 2, 2, rfl, rfl, g1, rfl, ?_⟩
      refine ⟨_, rfl, ?_⟩
      have R := fmodR (i := big) hn
      exact q _ _ R.1 R.2 ⟨ns, i, _, seed, cnt, upd_same, (upd_ne hlb).trans g2, hlb, i0, fdivR b0 hn, s0, s1⟩ (g3.trans But.upd)
    · have hn0 : n ≠ 0 := by omega
      refine ⟨_, rfl, b, _, 3, _, rfl, rfl, SqL.of g1, rfl, _, _, rfl, rfl, ⟨by decide, by decide, by omega⟩, _, rfl, b, _, 4, _, rfl, rfl, SqL.of g1, rfl, _, _, rfl, rfl, .inr ⟨by decide, by decide⟩, _, _, rfl, rfl, _, _, rfl, rfl,
        .inl ⟨_, rfl, _, _, rfl, rfl, (by show (2147483629 : Int) ≠ 0; decide), _, rfl, b, _, 3, 3, rfl, rfl, g1, rfl, ?_⟩⟩
      have R := fmodR (i := seed ^ (3 : Int).toNat + cnt * 1299709 + 60013) (n := 2147483629) (by decide)
      generalize eH2 : upd H' b (.lst (List.set [V.ref l, V.int i, V.int big, V.int seed, V.int cnt] 3 (V.int (Int.fmod (seed ^ (3 : Int).toNat + cnt * 1299709 + 60013) 2147483629)))) = H2
      generalize Int.fmod (seed ^ (3 : Int).toNat + cnt * 1299709 + 60013) 2147483629 = sd at R eH2
      have k1 : H2 b = some (.lst [.ref l, .int i, .int big, .int sd, .int cnt]) := by
        rw [← eH2]
        exact upd_same
      have k2 : H2 l = some (.lst (ns.map V.int)) := by
        rw [← eH2]
        exact (upd_ne hlb).trans g2
      have k3 : But b H H2 := by
        rw [← eH2]
        exact g3.trans But.upd
      refine ⟨_, rfl, b, _, 3, _, rfl, rfl, SqL.of k1, rfl, _, _, rfl, rfl, ⟨by decide, by decide⟩, _, rfl, b, _, 3, _, rfl, rfl, SqL.of k1, rfl, .inl ⟨_, rfl, _, _, rfl, rfl, (by show (7901 : Int) ≠ 0; decide), _, _, rfl, rfl, .inr ⟨by decide, by decide⟩, _, _, rfl, rfl,
        .inl ⟨_, rfl, _, rfl, _, _, rfl, rfl, hn0, ?_⟩⟩⟩
      have R2 := fmodR (i := sd.fdiv 97 + sd.fmod 7901 * 67) hn
      exact q _ _ R2.1 R2.2 ⟨ns, i, big, sd, cnt, k1, k2, hlb, i0, b0, R.1, R.2⟩ k3
end
end K0

set_option Elab.async false
set_option linter.all false
set_option maxRecDepth 100000
set_option maxHeartbeats 4000000
namespace Fb
open PySem PySem.Spec PyProof.Rows L2
/-- a def of the top that may be called by its name -/
structure Rd (P : Program) (w : World) (K : PySem.W.Frag) (mg : Str → Option Value) (base : Heap) (CX : CXT) (k : Nat) (x : Str) (ps : List Str) (sp : Sp) : Prop where
  ex : ∃ (f : Addr) (fd : FuncData), FnOk P w K mg base CX k f fd ps sp ∧ mg x = some (.ref f) ∧ PySem.W.keepIn K (.ref f) = true ∧ Binds K fd ps []
structure RdW (P : Program) (w : World) (K : PySem.W.Frag) (mg : Str → Option Value) (base : Heap) (CX : CXT) (k : Nat) (x : Str) (ps : List Str) (sp : Sp) : Prop where
  ex : ∃ (f : Addr) (fd : FuncData), FnW P w K mg base CX k f fd ps sp ∧ mg x = some (.ref f) ∧ PySem.W.keepIn K (.ref f) = true ∧ Binds K fd ps []
theorem RdW.rd {P : Program} {w : World} {K : PySem.W.Frag} {mg : Str → Option Value} {base : Heap} {CX : CXT} {k : Nat} {x : Str} {ps : List Str} {sp : Sp} (R : RdW P w K mg base CX k x ps sp) : Rd P w K mg base CX k x ps sp := by
  obtain ⟨f, fd, F, r⟩ := R.ex
  exact ⟨f, fd, F.ok, r⟩
/-- where it stands, of what it is -/
structure Sat (K : PySem.W.Frag) (mg : Str → Option Value) (x : Str) (st : Stmt) (ps : List Str) : Prop where
  ex : ∃ (f : Addr) (fd : FuncData), Fun K x x st f fd ∧ mg x = some (.ref f) ∧ PySem.W.keepIn K (.ref f) = true ∧ Binds K fd ps []
section
variable {X : Cx} {CX : CXT} {k : Nat} {ps : List Str} {sp : Sp} {E : XK} {x : Str} {q pos : Pos} {e : Expr} {es : List Expr} {t : TA}
theorem pe_rd (R : Rd X.prog X.w X.K X.mg X.base CX k x ps sp) (hr : Room k X.A) (hg : Gl X x) (hx : Passes CX X E) (ha : PA X (e :: es) t) (hdb : (x == ("__debug__" : Str)) = false := by decide)
    (he : starEach (e :: es) X.env = (false, eval e X.env) :: starEach es X.env := by rfl) (hpl : (backTo pos (starEach es X.env)).any (·.1) = false := by rfl) : PE X (.Call (.Name x q) (e :: es) [] pos) (tCall sp [] E t) := by
  obtain ⟨f, fd, F, hm, hk, hb⟩ := R.ex
  exact pe_call F hr hg hm hk hb .nil hx ha hdb he hpl
theorem pe_rdW (R : RdW X.prog X.w X.K X.mg X.base CX k x ps sp) (hr : RoomH k X.A) (hg : Gl X x) (hx : Passes CX X E) (ha : PA X (e :: es) t) (hdb : (x == ("__debug__" : Str)) = false := by decide)
    (he : starEach (e :: es) X.env = (false, eval e X.env) :: starEach es X.env := by rfl) (hpl : (backTo pos (starEach es X.env)).any (·.1) = false := by rfl) : PE X (.Call (.Name x q) (e :: es) [] pos) (tCall sp [] E t) := by
  obtain ⟨f, fd, F, hm, hk, hb⟩ := R.ex
  exact pe_callW F hr hg hm hk hb hx ha hdb he hpl
end
theorem atI_mem {α : Type} {xs : List α} {i : Int} {v : α} (h : atI xs i = some v) : v ∈ xs := by
  obtain ⟨j, _, h⟩ := Option.bind_eq_some_iff.mp h
  exact List.mem_of_getElem? h
theorem atI_some {α : Type} {xs : List α} {i : Int} (h0 : 0 ≤ i) (h : i < xs.length) : ∃ v, v ∈ xs ∧ atI xs i = some v := by
  have hk : i.toNat < xs.length := by omega
  have e : i = ((i.toNat : Nat) : Int) := by omega
  refine ⟨xs[i.toNat], List.getElem_mem hk, ?_⟩
  have y : atI xs ((i.toNat : Nat) : Int) = some xs[i.toNat] := atI_nat (List.getElem?_eq_getElem hk)
  rw [← e] at y
  exact y
end Fb

set_option Elab.async false
set_option linter.all false
set_option maxRecDepth 100000
set_option maxHeartbeats 4000000
namespace Fb
open PySem PySem.Spec PyProof.Rows L2
/-- what is new in H' -/
def fresh (H H' : Hp) : Hp := fun a => match H a with
  | none => H' a
  | some _ => none
theorem fresh_some {H H' : Hp} {a : Addr} {o : HO} (h : fresh H H' a = some o) : H a = none ∧ H' a = some o := by
  unfold fresh at h
  split at h
  · exact ⟨‹_›, h⟩
  · cases h
theorem fresh_of {H H' : Hp} {a : Addr} {o : HO} (h1 : H a = none) (h2 : H' a = some o) : fresh H H' a = some o := by
  unfold fresh
  rw [h1]
  exact h2
theorem fresh_sub {H H' : Hp} : Same (fresh H H') H' := fun a o h => (fresh_some h).2
theorem but_new {b p : Addr} {H H' : Hp} {o : HO} (x : But b H H') (h : H p = none) : But b H (upd H' p o) := fun c u e => by
  have y := x c u e
  by_cases hb : c = b
  · rw [hb, L2.del_same] at e
    cases e
  · rw [L2.del_ne hb] at e y ⊢
    rw [upd_ne (ne_of_none e h)]
    exact y
theorem but_sub {b : Addr} {H H' : Hp} (x : But b H H') {a : Addr} {o : HO} (hb : H b = none ∨ a ≠ b) (h : H a = some o) : H' a = some o := by
  refine x.at ?_ h
  rcases hb with hb | hb
  · intro z
    rw [z, hb] at h
    cases h
  · exact hb
theorem BagAt.some {l : Addr} {H : Hp} {b : Addr} (B : BagAt l H b) : ∃ o, H b = some o := by
  obtain ⟨ns, i, big, seed, cnt, h, _⟩ := B.at_
  exact ⟨_, h⟩
theorem BagAt.ne {l : Addr} {H : Hp} {b p : Addr} (B : BagAt l H b) (h : H p = none) : p ≠ b := fun z => by
  obtain ⟨o, e⟩ := B.some
  rw [z, e] at h
  cases h
/-- new things stay, the bag and the list in the making aside -/
theorem fresh_step {H H1 H2 : Hp} {b D : Addr} (hb : ∃ o, H b = some o) (x : But b H1 H2) : Same (L2.del (fresh H H1) D) (L2.del (fresh H H2) D) := fun a o h => by
  by_cases hD : a = D
  · rw [hD, L2.del_same] at h
    cases h
  · rw [L2.del_ne hD] at h ⊢
    obtain ⟨h1, h2⟩ := fresh_some h
    refine fresh_of h1 (x.at (fun z => ?_) h2)
    obtain ⟨u, hu⟩ := hb
    rw [z, hu] at h1
    cases h1
theorem fresh_in {H H1 H2 : Hp} {b D : Addr} (x : But b H H1) (hb : ∃ o, H1 b = some o) (hD : ∃ o, H1 D = some o) : Same (fresh H1 H2) (L2.del (fresh H H2) D) := fun a o h => by
  obtain ⟨h1, h2⟩ := fresh_some h
  have hne : a ≠ D := fun z => by
    obtain ⟨u, hu⟩ := hD
    rw [z, hu] at h1
    cases h1
  rw [L2.del_ne hne]
  refine fresh_of ?_ h2
  cases e : H a with
  | none => rfl
  | some u =>
    exfalso
    have hab : a ≠ b := fun z => by
      obtain ⟨u, hu⟩ := hb
      rw [z, hu] at h1
      cases h1
    rw [x.at hab e] at h1
    cases h1
theorem del_upd {H : Hp} {D : Addr} {o : HO} : L2.del (upd H D o) D = L2.del H D := by
  funext a
  by_cases h : a = D
  · rw [h, L2.del_same, L2.del_same]
  · rw [L2.del_ne h, L2.del_ne h, upd_ne h]
theorem fresh_del_upd {H H1 : Hp} {D : Addr} {o : HO} : L2.del (fresh H (upd H1 D o)) D = L2.del (fresh H H1) D := by
  funext a
  by_cases h : a = D
  · rw [h, L2.del_same, L2.del_same]
  · rw [L2.del_ne h, L2.del_ne h]
    unfold fresh
    rw [upd_ne h]
theorem del_sub {H : Hp} {D : Addr} : Same (L2.del H D) H := Same.undel
theorem dpAll_snoc {K : PySem.W.Frag} {H : Hp} : ∀ {vs : List V} {ds : List PyData} {v : V} {d : PyData}, DpAll K H vs ds → Dp K H v d → DpAll K H (vs ++ [v]) (ds ++ [d])
  | _, _, _, _, .nil, h => .cons h .nil
  | _, _, _, _, .cons a t, h => .cons a (dpAll_snoc t h)
theorem but_free {b l D : Addr} {H H1 : Hp} (x : But b H H1) (B : BagAt l H1 b) (h : H1 D = none) : H D = none := by
  cases e : H D with
  | none => rfl
  | some u =>
    rw [x.at (B.ne h) e] at h
    cases h
theorem fresh_back {b l : Addr} {H H1 H2 : Hp} (x : But b H H1) (B : BagAt l H1 b) : Same (fresh H1 H2) (fresh H H2) := fun a o h => by
  obtain ⟨h1, h2⟩ := fresh_some h
  exact fresh_of (but_free x B h1) h2
theorem fresh_new {D : Addr} {H H1 : Hp} {o : HO} (h : H1 D = none) : Same (fresh H H1) (fresh H (upd H1 D o)) := fun a u e => by
  obtain ⟨h1, h2⟩ := fresh_some e
  exact fresh_of h1 ((upd_ne (ne_of_none h2 h)).trans h2)
theorem sum_ones : ∀ (ys : List Str), (∀ y ∈ ys, y.length = 1) → (ys.map (·.length)).sum = ys.length
  | [], _ => rfl
  | y :: r, h => by
    rw [List.map_cons, List.sum_cons, sum_ones r fun z hz => h z (List.mem_cons_of_mem _ hz), h y List.mem_cons_self, List.length_cons]
    exact Nat.add_comm _ _
/-! ### a text joined of signs -/
theorem joinL_signs {N : Nat} : ∀ (ps : List (List Nat)), (∀ p ∈ ps, p.length = 1 ∧ ∀ c ∈ p, c < N) → (TL.joinL [] ps).length = ps.length ∧ ∀ c ∈ TL.joinL [] ps, c < N
  | [], _ => ⟨rfl, fun c h => nomatch h⟩
  | [p], h => ⟨(h p (by simp)).1, (h p (by simp)).2⟩
  | p :: q :: r, h => by
    have ih := joinL_signs (q :: r) fun x hx => h x (List.mem_cons_of_mem _ hx)
    have hp := h p List.mem_cons_self
    constructor
    · show (p ++ ([] ++ TL.joinL [] (q :: r))).length = _
      rw [List.length_append, List.nil_append, ih.1, hp.1]
      exact Nat.add_comm _ _
    · intro c hc
      have hc : c ∈ p ++ ([] ++ TL.joinL [] (q :: r)) := hc
      rw [List.nil_append] at hc
      rcases List.mem_append.mp hc with z | z
      · exact hp.2 c z
      · exact ih.2 c z
theorem join_signs {N : Nat} (ys : List Str) (h : ∀ y ∈ ys, y.length = 1 ∧ ∀ c ∈ TL.tl y, c < N) : (Txt.join ⟨#[]⟩ ys).length = ys.length ∧ ∀ c ∈ TL.tl (Txt.join ⟨#[]⟩ ys), c < N := by
  have e : TL.tl (Txt.join ⟨#[]⟩ ys) = TL.joinL [] (ys.map TL.tl) := by
    rw [TL.join_eq, TL.tl_join]
  have q := joinL_signs (N := N) (ys.map TL.tl) fun p hp => by
    obtain ⟨y, hy, rfl⟩ := List.mem_map.mp hp
    refine ⟨?_, (h y hy).2⟩
    have := (h y hy).1
    simpa [Str.length] using this
  rw [← e] at q
  refine ⟨?_, q.2⟩
  have := q.1
  simpa [Str.length] using this
theorem int_small {i : Int} {k : Nat} (hk : 0 < k) (h1 : -(10 : Int) ^ k < i) (h2 : i < 10 ^ k) : ((toString i : String) : Str).length ≤ k + 1 := by
  have q := int_text_length_le10 (a := i) (k := k) hk (by
    have e : ((10 ^ k : Nat) : Int) = (10 : Int) ^ k := by norm_cast
    omega)
  exact Nat.le_trans (Nat.le_of_eq (PySem.ofString_length (toString i))) q
end Fb

set_option Elab.async false
set_option linter.all false
set_option maxRecDepth 100000
set_option maxHeartbeats 4000000
namespace K0
open PySem PySem.Spec PyProof.Rows L2 Fb
section
variable {P : Program} {w : World} {K : PySem.W.Frag} {mg : Str → Option Value} {base : Heap}
abbrev RD (P : Program) (w : World) (K : PySem.W.Frag) (mg : Str → Option Value) (base : Heap) (k : Nat) (x : Str) (ps : List Str) (sp : Sp) : Prop := Rd P w K mg base CX0 k x ps sp
theorem scOf : FnScope ["bag", "things"] ["bag", "things"] (defScope sOf) := ⟨rfl, rfl, rfl, by decide +kernel, rfl, by decide +kernel, by decide +kernel⟩
theorem ok_of {f : Addr} {fd : FuncData} (F : Fun K "_law_of" "_law_of" sOf f fd) (ml : mg "len" = none) (D : RD P w K mg base 1 "_law_draw" ["bag", "size"] spDraw) : FnOk P w K mg base CX0 2 f fd ["bag", "things"] (spOf K) := by
  refine F.ok scOf (fun vs H Q E h => ?_) (fun cdv A outer s H vs Q E hr h => ?_)
  · obtain ⟨b, l, x, n, P, rfl, _⟩ := h
    rfl
  obtain ⟨b, l, x, n, P, rfl, B, hn, hn2, A, q⟩ := h
  refine ⟨_, pss_one (ps_ret (pe_ix ix_seq (pv 1) (pe_rd D hr rfl pass0 (pa_cons (pv 0) (pa_cons (pe_callB call_len rfl ml PySem.boot_len (pa_cons (pv 1) pa_nil)) pa_nil))) (fun _ _ => rfl))), ?_⟩
  refine ⟨_, rfl, _, rfl, _, rfl, x, n, rfl, ?_, b, l, n, rfl, B, by omega, by omega, fun r H' r0 r1 B' bt => ?_⟩
  · rcases A with ⟨p, xs, rfl, hp, hx, hl, _⟩ | ⟨z, rfl, hl, _⟩
    · rcases hx with hx | hx
      · exact .inl ⟨xs, hx, hl.symm⟩
      · exact .inr ⟨xs, hx, hl.symm⟩
    · have e : z.length = n := by simpa [Str.length] using hl
      exact ⟨by rw [e]; exact Nat.le_trans hn2 (by decide), e.symm⟩
  · rcases A with ⟨p, xs, rfl, hp, hx, hl, hP⟩ | ⟨z, rfl, hl, hP⟩
    · obtain ⟨v, hv, he⟩ := atI_some (xs := xs) r0 (by omega)
      rcases seqBut bt hp hx with hx | hx
      · exact .inl ⟨p, xs, r, v, rfl, rfl, hx, he, q _ _ (hP v hv) B' bt⟩
      · exact .inr (.inl ⟨p, xs, r, v, rfl, rfl, hx, he, q _ _ (hP v hv) B' bt⟩)
    · obtain ⟨v, hv, he⟩ := atI_some (xs := z.cps.toList) r0 (by omega)
      have e : z.length = n := by simpa [Str.length] using hl
      exact .inr (.inr ⟨z, r, v, rfl, rfl, by rw [e]; exact Nat.le_trans hn2 (by decide), he, q _ _ (hP v hv) B' bt⟩)
end
end K0

set_option Elab.async false
set_option linter.all false
set_option maxRecDepth 100000
set_option maxHeartbeats 4000000
namespace K0
open PySem PySem.Spec PyProof.Rows L2 Fb
abbrev sValue : Stmt := top 41
abbrev DK := Dk 10 50
/-- a value, new through and through -/
def spValue (K : PySem.W.Frag) (n : Nat) : Sp := fun vs H Q _ => ∃ b l : Addr, vs = [.ref b, .int n] ∧ BagAt l H b ∧ ∀ (y : V) (d : PyData) (H' : Hp), Dp K (fresh H H') y d → DK n d → BagAt l H' b → But b H H' → Q y H'
section
variable {P : Program} {w : World} {K : PySem.W.Frag} {mg : Str → Option Value} {base : Heap}
theorem scValue : FnScope ["bag", "deep", "pick", "size", "parts", "k"] ["bag", "deep"] (defScope sValue) := ⟨rfl, rfl, rfl, by decide +kernel, rfl, by decide +kernel, by decide +kernel⟩
theorem ok_value {f : Addr} {fd : FuncData} {k n : Nat} {spr : Sp} (F : Fun K "_law_value" "_law_value" sValue f fd) (D : RD P w K mg base 1 "_law_draw" ["bag", "size"] spDraw) (O : RD P w K mg base 2 "_law_of" ["bag", "things"] (spOf K))
    (R : RD P w K mg base k "_law_value" ["bag", "deep"] spr) (hk : 2 ≤ k) (hn : n < 10) (hrec : ∀ m, n = m + 1 → spr = spValue K m) (mr : mg "range" = none) (mt : mg "tuple" = none) : FnOk P w K mg base CX0 (k + 1) f fd ["bag", "deep"] (spValue K n) := by
  refine F.ok scValue (fun vs H Q E h => ?_) (fun cdv A outer s H vs Q E hr h => ?_)
  · obtain ⟨b, l, rfl, _⟩ := h
    rfl
  obtain ⟨b, l, rfl, B, q⟩ := h
  have hr1 := hr.mono (Nat.le_trans (by decide : 1 ≤ 2) hk)
  have hr2 := hr.mono hk
  refine ⟨_, pss_cons (ps_set (i := 2) scValue.nd rfl (Or.inl rfl) (pe_rd D hr1 rfl pass0 (pa_cons (pv 0) (pa_cons (pe_ifExp (pt_cmpR op_gt (pv 1) pe_int (nomark _)) pe_int pe_int) pa_nil))))
    (pss_cons (ps_if (pt_cmpR op_eq (pv 2) pe_int (nomark _)) (pss_one (ps_ret (pe_rd O hr2 rfl pass0 (pa_cons (pv 0) (pa_cons (pe_lst (pa_cons pe_non (pa_cons pe_bl (pa_cons pe_bl pa_nil)))) pa_nil))))) pss_nil)
    (pss_cons (ps_if (pt_cmpR op_lt (pv 2) pe_int (nomark _)) (pss_one (ps_ret (pe_rd O hr2 rfl pass0 (pa_cons (pv 0) (pa_cons (pe_lst (pa_cons pe_int (pa_cons pe_int (pa_cons (pe_op op_sub pe_int pe_int)
        (pa_cons (pe_rd D hr1 rfl pass0 (pa_cons (pv 0) (pa_cons pe_int pa_nil))) (pa_cons (pe_op op_sub pe_int (pe_rd D hr1 rfl pass0 (pa_cons (pv 0) (pa_cons pe_int pa_nil)))) pa_nil)))))) pa_nil))))) pss_nil)
    (pss_cons (ps_if (pt_cmpR op_lt (pv 2) pe_int (nomark _))
        (pss_cons (ps_set (i := 3) scValue.nd rfl (Or.inl rfl) (pe_rd D hr1 rfl pass0 (pa_cons (pv 0) (pa_cons pe_int pa_nil))))
        (pss_one (ps_ret (pe_join pe_str (pe_lc (own := [("k", 5)]) (g := gName 5) (tt := tYes) rfl scValue.nd (pi_range1 rfl mr (pa_cons (pv 3) pa_nil)) (blkOk_by (N := ["bag", "deep", "pick", "size", "parts", "k"]) (sc := defScope sValue) (by decide +kernel))
            (fun _ _ _ _ _ => pg_name (i := 5) scValue.nd rfl (Or.inl rfl)) (fun _ _ _ _ _ => pts_nil) (fun _ _ _ _ _ => pe_rd O hr2 rfl pass0 (pa_cons (pv 0) (pa_cons pe_str pa_nil)))))))) pss_nil)
    (pss_cons (ps_setLc (i := 4) (own := [("k", 5)]) (g := gName 5) (tt := tYes) rfl scValue.nd rfl rfl (sw_true rfl rfl rfl (by decide +kernel)) (pi_range1 rfl mr (pa_cons (pe_rd D hr1 rfl pass0 (pa_cons (pv 0) (pa_cons pe_int pa_nil))) pa_nil)) (blkOk_by (N := ["bag", "deep", "pick", "size", "parts", "k"]) (sc := defScope sValue) (by decide +kernel))
            (fun _ _ _ _ _ => pg_name (i := 5) scValue.nd rfl (Or.inl rfl)) (fun _ _ _ _ _ => pts_nil) (fun _ _ _ _ _ => pe_rd R hr rfl pass0 (pa_cons (pv 0) (pa_cons (pe_op op_sub (pv 1) pe_int) pa_nil))))
    (pss_one (ps_ret (pe_ifExp (pt_cmpR op_eq (pv 2) pe_int (nomark _)) (pv 4) (pe_callTy call_tuple_of rfl mt (by decide +kernel) (pa_cons (pv 4) pa_nil))))))))), ?_⟩
  refine ⟨_, rfl, _, rfl, _, _, rfl, rfl, _, rfl, ?_⟩
  refine ite2 (fun c => ⟨b, l, 10, rfl, B, by decide, by decide, fun r H1 r0 r1 B1 bt => ?_⟩) (fun c => ⟨b, l, 8, rfl, B, by decide, by decide, fun r H1 r0 r1 B1 bt => ?_⟩)
  all_goals
    have hp : 8 ≤ r → 0 < n ∧ r < 10 := by first | exact fun _ => ⟨by have e := of_decide_eq_true c; omega, r1⟩ | exact fun h => by omega
    refine ⟨_, rfl, rfl, _, rfl, ?_⟩
    refine ite2 (fun c1 => ?_) (fun c1 => ?_)
    · refine ⟨_, rfl, (by show 3 ≤ sizeLine; decide), fun p hl => ?_⟩
      refine ⟨b, l, .ref p, 3, (fun y => y = .non ∨ ∃ t, y = .bl t), rfl, B1.new hl _, by decide, by decide, .inl ⟨p, _, rfl, B1.ne hl, .inl (SqL.of upd_same), rfl, ?_⟩, fun y H2 hy B2 bt2 => ?_⟩
      · intro y hy
        simp at hy
        rcases hy with rfl | rfl | rfl
        · exact .inl rfl
        · exact .inr ⟨_, rfl⟩
        · exact .inr ⟨_, rfl⟩
      · have bt3 : But b H H2 := (bt.trans (But.of (same_new hl _))).trans bt2
        rcases hy with rfl | ⟨t, rfl⟩
        · exact q _ .none H2 .non .non B2 bt3
        · exact q _ (.bool t) H2 (.bl t) (.bl t) B2 bt3
    refine ⟨_, rfl, _, _, rfl, rfl, _, rfl, ?_⟩
    refine ite2 (fun c2 => ?_) (fun c2 => ?_)
    · refine ⟨_, rfl, _, _, rfl, rfl, _, rfl, b, l, _, rfl, B1, by decide, by decide, fun r2 H2 r20 r21 B2 bt2 => ?_⟩
      refine ⟨_, rfl, b, l, _, rfl, B2, by decide, by decide, fun r3 H3 r30 r31 B3 bt3 => ?_⟩
      refine ⟨_, _, rfl, rfl, (by show 5 ≤ sizeLine; decide), fun p hl => ?_⟩
      refine ⟨b, l, .ref p, 5, (fun y => ∃ z : Int, y = .int z ∧ -(10 ^ 9 : Int) < z ∧ z < 10 ^ 9), rfl, B3.new hl _, by decide, by decide, .inl ⟨p, _, rfl, B3.ne hl, .inl (SqL.of upd_same), rfl, ?_⟩, fun y H4 hy B4 bt4 => ?_⟩
      · intro y hy
        simp at hy
        rcases hy with rfl | rfl | rfl | rfl | rfl
        · exact ⟨_, rfl, by decide, by decide⟩
        · exact ⟨_, rfl, by decide, by decide⟩
        · exact ⟨_, rfl, by decide, by decide⟩
        · exact ⟨_, rfl, by omega, by omega⟩
        · exact ⟨_, rfl, by omega, by omega⟩
      · have bt5 : But b H H4 := (((bt.trans bt2).trans bt3).trans (But.of (same_new hl _))).trans bt4
        obtain ⟨z, rfl, z0, z1⟩ := hy
        have zl := int_small (k := 9) (by decide) z0 z1
        refine q _ (.int z) H4 (.int z) (.int z ?_ (Nat.le_trans zl (by decide))) B4 bt5
        have hz : z.natAbs < 2 ^ 30 := by omega
        rcases Nat.eq_zero_or_pos z.natAbs with e | e
        · rw [e]
          decide
        · exact Nat.lt_trans ((Nat.log2_lt (by omega)).mpr hz) (by decide)
    refine ⟨_, rfl, _, _, rfl, rfl, _, rfl, ?_⟩
    refine ite2 (fun c3 => ?_) (fun c3 => ?_)
    · refine ⟨_, rfl, b, l, _, rfl, B1, by decide, by decide, fun r2 H2 r20 r21 B2 bt2 => ?_⟩
      refine ⟨⟨_, rfl⟩, _, rfl, r2, rfl, by omega, by omega, fun D hD => lc_range (lo := 0) (n := r2.toNat)
        (fun i Hi => ∃ ys : List Str, Hi D = some (.lst (ys.map V.str)) ∧ ys.length = i ∧ (∀ y ∈ ys, y.length = 1 ∧ ∀ c ∈ TL.tl y, c < 16 ^ 8) ∧ BagAt l Hi b ∧ But b H2 Hi) ⟨[], upd_same, rfl, (fun y hy => nomatch hy), B2.new hD _, But.of (same_new hD _)⟩ ?_ ?_⟩
      · rintro i Hi hi ⟨ys, hy, hl, hs, Bi, bi⟩
        have hDb : D ≠ b := B2.ne hD
        refine ⟨rfl, _, rfl, b, l, _, 18, (fun y => ∃ c : Nat, y = .str ⟨#[c]⟩ ∧ c < 16 ^ 8), rfl, Bi, by decide, by decide, .inr ⟨_, rfl, by decide +kernel, ?_⟩, fun y H3 hy3 B3 bt3 => ?_⟩
        · intro c hc
          refine ⟨c, rfl, ?_⟩
          have all : ∀ c ∈ ("ab01.-#:=? xyzAZ~\n" : Str).cps.toList, c < 16 ^ 8 := by decide +kernel
          exact all c hc
        · obtain ⟨c, rfl, hc⟩ := hy3
          refine ⟨ys.map V.str, bt3.at hDb hy, (by rw [List.length_map, hl]; have : sizeLine = 16777216 := sizeLine_eq; omega), ys ++ [⟨#[c]⟩], ?_, by rw [List.length_append, hl]; rfl, ?_, B3.skip hDb (B2.cell hD) _, ?_⟩
          · rw [List.map_append]
            exact upd_same
          · intro y hy
            rcases List.mem_append.mp hy with z | z
            · exact hs y z
            · obtain rfl : y = ⟨#[c]⟩ := by simpa using z
              exact ⟨rfl, fun x hx => by
                have : x = c := by simpa using hx
                rw [this]
                exact hc⟩
          · exact but_new (bi.trans bt3) hD
      · rintro Hi ⟨ys, hy, hl, hs, Bi, bi⟩
        have hj := join_signs ys hs
        have hyl : ys.length ≤ 4 := by omega
        refine ⟨_, D, ys, rfl, rfl, .inl (SqL.of hy), ?_, ?_⟩
        · have e : (ys.map (·.length)).sum ≤ ys.length := Nat.le_of_eq (sum_ones ys fun y hy => (hs y hy).1)
          show _ + ys.length * 0 ≤ _
          omega
        · refine q _ (.str _) _ (.str _) (.str _ ?_ ?_) Bi ((bt.trans bt2).trans bi)
          · show (Txt.join ⟨#[]⟩ ys).length ≤ 50
            omega
          · have e := PySem.StrLaws.reprText_len (Txt.join ⟨#[]⟩ ys) hj.2
            show (reprText (Txt.join ⟨#[]⟩ ys)).length ≤ 50
            omega
    · have hp2 := hp (by have e := c3; rw [decide_eq_true_iff] at e; omega)
      obtain ⟨m, rfl⟩ : ∃ m, n = m + 1 := ⟨n - 1, by omega⟩
      obtain rfl := hrec m rfl
      refine ⟨_, rfl, b, l, _, rfl, B1, by decide, by decide, fun r2 H2 r20 r21 B2 bt2 => ?_⟩
      refine ⟨r2, rfl, by omega, by omega, fun D hD => lc_range (lo := 0) (n := r2.toNat)
        (fun i Hi => ∃ (vs : List V) (ds : List PyData), Hi D = some (.lst vs) ∧ vs.length = i ∧ DpAll K (L2.del (Fb.fresh H2 Hi) D) vs ds ∧ (∀ d ∈ ds, DK m d) ∧ BagAt l Hi b ∧ But b H2 Hi) ⟨[], [], upd_same, rfl, .nil, (fun y hy => nomatch hy), B2.new hD _, But.of (same_new hD _)⟩ ?_ ?_⟩
      · rintro i Hi hi ⟨vs, ds, hy, hl, ha, hd, Bi, bi⟩
        have hDb : D ≠ b := B2.ne hD
        refine ⟨rfl, _, rfl, _, rfl, _, _, rfl, rfl, b, l, by show [V.ref b, V.int (((m + 1 : Nat) : Int) - 1)] = _; rw [show ((m + 1 : Nat) : Int) - 1 = (m : Int) by omega], Bi, fun y d H3 dy dd B3 bt3 => ?_⟩
        refine ⟨vs, bt3.at hDb hy, (by rw [hl]; have : sizeLine = 16777216 := sizeLine_eq; omega), vs ++ [y], ds ++ [d], upd_same, by rw [List.length_append, hl]; rfl, ?_, ?_, B3.skip hDb (B2.cell hD) _, but_new (bi.trans bt3) hD⟩
        · rw [fresh_del_upd]
          exact dpAll_snoc (dpsSame (fresh_step B2.some bt3) ha) (dpSame (fresh_in bi Bi.some ⟨_, hy⟩) dy)
        · intro z hz
          rcases List.mem_append.mp hz with h | h
          · exact hd z h
          · obtain rfl : z = d := by simpa using h
            exact dd
      · rintro Hi ⟨vs, ds, hy, hl, ha, hd, Bi, bi⟩
        have bh := bt.trans bt2
        have ha2 : DpAll K (Fb.fresh H Hi) vs ds := dpsSame (del_sub.trans (fresh_back bh B2 (H2 := Hi))) ha
        have hvl : ds.length ≤ 10 := by
          have := dpAll_len ha
          omega
        have hDn : H D = none := but_free bh B2 hD
        refine ⟨_, rfl, rfl, _, rfl, ite2 (fun c4 => ?_) (fun c4 => ?_)⟩
        · exact ⟨_, rfl, q _ (.list ds) _ (.lst (SqL.of (fresh_of hDn hy)) ha2) (.lst hvl hd) Bi (bh.trans bi)⟩
        · refine ⟨_, rfl, D, vs, rfl, .inl ⟨SqL.of hy, fun t ht => ?_⟩⟩
          have htn : H t = none := but_free (bh.trans bi) Bi ht
          exact q _ (.tuple ds) _ (.tup (SqT.of (fresh_of htn upd_same)) (dpsSame (fresh_new ht) ha2)) (.tup hvl hd) (Bi.new ht _) (but_new (bh.trans bi) htn)
end
end K0

set_option Elab.async false
set_option linter.all false
set_option maxRecDepth 100000
set_option maxHeartbeats 4000000
namespace Fb
open PySem PySem.Spec PyProof.Rows L2 RZ
theorem ty_seqL {K : PySem.W.Frag} {H : Hp} {a : Addr} {xs : List V} (h : SqL K H a xs) : TyX K H (.ref a) (.type "list") := by
  rcases h with (h | ⟨o, h⟩) | ⟨o, its, n, hk, hc, _⟩
  · exact .base (.lst h)
  · exact .base (.frz h)
  · exact .kList hk hc
theorem ty_seqT {K : PySem.W.Frag} {H : Hp} {a : Addr} {xs : List V} (h : SqT K H a xs) : TyX K H (.ref a) (.type "tuple") := by
  rcases h with (h | ⟨o, h⟩) | ⟨o, its, n, hk, hc, _⟩
  · exact .base (.tup h)
  · exact .fTuple h
  · exact .kTuple hk hc
theorem iteN {A B : Prop} {c : Bool} (e : c = false) (h : B) : if c = true then A else B := by
  rw [e]
  exact iteF h
theorem iteY {A B : Prop} {c : Bool} (e : c = true) (h : A) : if c = true then A else B := by
  rw [e]
  exact iteT h
theorem any_lt {K : PySem.W.Frag} {tx : String} {b1 b2 : Bool} (h1 : kitB tx "list" = some b1) (h2 : kitB tx "tuple" = some b2) : PySem.W.kitAny K (.type tx) [.type "list", .type "tuple"] = some (b1 || b2) := by
  refine kitAny_cons (kit_ty h1) (fun e => kitAny_cons (kit_ty h2) (fun e2 => ?_) (fun e2 => ?_)) (fun e => ?_)
  · rw [e, e2]
    rfl
  · rw [e, e2]
    rfl
  · rw [e]
    rfl
theorem all_true : ∀ n : Nat, (List.replicate n true).all id = true
  | 0 => rfl
  | n + 1 => by
    rw [List.replicate_succ, List.all_cons, all_true n]
    rfl
theorem rep_snoc {n : Nat} : (List.replicate n true).map V.bl ++ [V.bl true] = (List.replicate (n + 1) true).map V.bl := by
  rw [List.replicate_succ', List.map_append]
  rfl
/-- the walk over zip of two tuples -/
theorem walk_zipTT {K : PySem.W.Frag} {a b : Addr} {xs ys : List V} (hl : xs.length = ys.length) : Walk (ItzT K a b) xs.length (fun H => SqT K H a xs ∧ SqT K H b ys) (YPair (fun i => xs[i]?) (fun i => ys[i]?)) :=
  ⟨fun i H hi q => ⟨xs, ys, xs[i], ys[i], q.1, q.2, List.getElem?_eq_getElem hi, List.getElem?_eq_getElem (by omega)⟩, fun H q => ⟨xs, ys, q.1, q.2, .inl (Nat.le_refl _)⟩,
    fun i H x H' hi q y => by
      obtain ⟨T, x, y, e1, e2, e3, h1, h2⟩ := y
      exact ⟨T, x, y, e1, e2, e3, h1 xs q.1, h2 ys q.2⟩⟩
end Fb
namespace K0
open PySem PySem.Spec PyProof.Rows L2 Fb RZ
abbrev sLike : Stmt := top 31
def spLike (K : PySem.W.Frag) (n : Nat) : Sp := fun vs H Q _ => ∃ (x y : V) (d : PyData), vs = [x, y] ∧ Dp K H x d ∧ Dp K H y d ∧ DK n d ∧ ∀ H', Same H H' → Q (.bl true) H'
def PvLike (H : Hp) (D : Addr) (i : Nat) (Hi : Hp) : Prop := Hi D = some (.lst ((List.replicate i true).map V.bl)) ∧ Same H Hi
section
variable {P : Program} {w : World} {K : PySem.W.Frag} {mg : Str → Option Value} {base : Heap}
theorem scLike : FnScope ["told", "due", "a", "b"] ["told", "due"] (defScope sLike) := ⟨rfl, rfl, rfl, by decide +kernel, rfl, by decide +kernel, by decide +kernel⟩
structure Kinds (mg : Str → Option Value) : Prop where
  is : mg "isinstance" = none
  li : mg "list" = none
  tu : mg "tuple" = none
  bo : mg "bool" = none
  st : mg "str" = none
  it : mg "int" = none
  ln : mg "len" = none
  al : mg "all" = none
  zi : mg "zip" = none
theorem ok_like {f : Addr} {fd : FuncData} {k n : Nat} {spr : Sp} (F : Fun K "_law_like" "_law_like" sLike f fd) (R : RD P w K mg base k "_law_like" ["told", "due"] spr) (hrec : ∀ m, n = m + 1 → spr = spLike K m) (M : Kinds mg) : FnOk P w K mg base CX0 (k + 1) f fd ["told", "due"] (spLike K n) := by
  refine F.ok scLike (fun vs H Q E h => ?_) (fun cdv A outer s H vs Q E hr h => ?_)
  · obtain ⟨x, y, d, rfl, _⟩ := h
    rfl
  obtain ⟨x, y, d, rfl, dx, dy, dd, q⟩ := h
  have eL : ∀ {pos : Pos}, PE (cxOf CX0 P w K mg base ["told", "due", "a", "b"] "_law_like" (defScope sLike) f cdv A outer s H E).nox (.Name "list" pos) (tC (.ty "list")) := pe_bltn (v := .ty "list") rfl M.li (by decide +kernel) rfl
  have eT : ∀ {pos : Pos}, PE (cxOf CX0 P w K mg base ["told", "due", "a", "b"] "_law_like" (defScope sLike) f cdv A outer s H E).nox (.Name "tuple" pos) (tC (.ty "tuple")) := pe_bltn (v := .ty "tuple") rfl M.tu (by decide +kernel) rfl
  have eB : ∀ {pos : Pos}, PE (cxOf CX0 P w K mg base ["told", "due", "a", "b"] "_law_like" (defScope sLike) f cdv A outer s H E).nox (.Name "bool" pos) (tC (.ty "bool")) := pe_bltn (v := .ty "bool") rfl M.bo (by decide +kernel) rfl
  have eS : ∀ {pos : Pos}, PE (cxOf CX0 P w K mg base ["told", "due", "a", "b"] "_law_like" (defScope sLike) f cdv A outer s H E).nox (.Name "str" pos) (tC (.ty "str")) := pe_bltn (v := .ty "str") rfl M.st (by decide +kernel) rfl
  have eI : ∀ {pos : Pos}, PE (cxOf CX0 P w K mg base ["told", "due", "a", "b"] "_law_like" (defScope sLike) f cdv A outer s H E).nox (.Name "int" pos) (tC (.ty "int")) := pe_bltn (v := .ty "int") rfl M.it (by decide +kernel) rfl
  refine ⟨_, pss_cons (ps_if (pt_val (pe_callB call_isiT rfl M.is (by decide +kernel) (pa_cons (pv 1) (pa_cons (pe_tup (pa_cons eL (pa_cons eT pa_nil))) pa_nil))))
      (pss_cons (ps_if (PW.pt (pw_or (pt_cmpR op_ne (pe_callB call_isi rfl M.is (by decide +kernel) (pa_cons (pv 0) (pa_cons eL pa_nil))) (pe_callB call_isi rfl M.is (by decide +kernel) (pa_cons (pv 1) (pa_cons eL pa_nil))) (nomark _))
          (pw_or1 (pt_cmpR op_ne (pe_callB call_isi rfl M.is (by decide +kernel) (pa_cons (pv 0) (pa_cons eT pa_nil))) (pe_callB call_isi rfl M.is (by decide +kernel) (pa_cons (pv 1) (pa_cons eT pa_nil))) (nomark _)))))
        (pss_one (ps_ret pe_bl)) pss_nil)
      (pss_one (ps_ret (pe_and (pe_cmpR op_eq (pe_callB call_len_seq rfl M.ln PySem.boot_len (pa_cons (pv 0) pa_nil)) (pe_callB call_len_seq rfl M.ln PySem.boot_len (pa_cons (pv 1) pa_nil)) (nomark _))
          (pe_one (pe_callB (cr_all rfl) rfl M.al (by decide +kernel) (pa_cons (pe_lc (own := [("a", 2), ("b", 3)]) (g := gTup K 2 (gCons (gName 2) (gCons (gName 3) gNil))) (tt := tYes) rfl scLike.nd (pi_zipA rfl M.zi (pa_cons (pv 0) (pa_cons (pv 1) pa_nil))) (blkOk_by (N := ["told", "due", "a", "b"]) (sc := defScope sLike) (by decide +kernel))
            (fun _ _ _ _ _ => pg_tup rfl (pgs_cons (pg_name (i := 2) scLike.nd rfl (Or.inl rfl) (.inr rfl)) (pgs_cons (pg_name (i := 3) scLike.nd rfl (Or.inl rfl) (.inr rfl)) pgs_nil))) (fun _ _ _ _ _ => pts_nil) (fun _ _ _ _ _ => pe_rd R hr rfl pass0 (pa_cons (pv 2) (pa_cons (pv 3) pa_nil)))) pa_nil))))))) pss_nil)
    (pss_cons (ps_if (PW.pt (pw_or (pt_cmpR op_isN (pv 1) pe_non (nomark _)) (pw_or1 (pt_cmpR op_isN (pv 0) pe_non (nomark _))))) (pss_one (ps_ret (pe_and (pe_cmp (pc_isN (pv 1)) rfl) (pe_one (pe_cmp (pc_isN (pv 0)) rfl))))) pss_nil)
    (pss_cons (ps_if (PW.pt (pw_or (pt_val (pe_callB call_isiT rfl M.is (by decide +kernel) (pa_cons (pv 0) (pa_cons (pe_tup (pa_cons eL (pa_cons eT pa_nil))) pa_nil))))
          (pw_or1 (pt_cmpR op_ne (pe_callB call_isi rfl M.is (by decide +kernel) (pa_cons (pv 0) (pa_cons eB pa_nil))) (pe_callB call_isi rfl M.is (by decide +kernel) (pa_cons (pv 1) (pa_cons eB pa_nil))) (nomark _))))) (pss_one (ps_ret pe_bl)) pss_nil)
    (pss_cons (ps_if (PW.pt (pw_or (pt_cmpR op_ne (pe_callB call_isi rfl M.is (by decide +kernel) (pa_cons (pv 0) (pa_cons eS pa_nil))) (pe_callB call_isi rfl M.is (by decide +kernel) (pa_cons (pv 1) (pa_cons eS pa_nil))) (nomark _))
          (pw_or1 (pt_cmpR op_ne (pe_callB call_isi rfl M.is (by decide +kernel) (pa_cons (pv 0) (pa_cons eI pa_nil))) (pe_callB call_isi rfl M.is (by decide +kernel) (pa_cons (pv 1) (pa_cons eI pa_nil))) (nomark _))))) (pss_one (ps_ret pe_bl)) pss_nil)
    (pss_one (ps_ret (pe_cmpR op_eq (pv 0) (pv 1) (nomark _))))))), ?_⟩
  have sh : (x = .non ∧ y = .non) ∨ (∃ (tx : String) (b1 b2 b3 : Bool), y = x ∧ (∀ H, TyX K H x (.type tx)) ∧ x ≠ .non ∧ scal x x = true ∧ kitB tx "list" = some false ∧ kitB tx "tuple" = some false ∧ kitB tx "bool" = some b1 ∧ kitB tx "str" = some b2 ∧ kitB tx "int" = some b3) ∨
      (∃ (a1 a2 : Addr) (xs ys : List V) (ds : List PyData) (m : Nat), n = m + 1 ∧ x = .ref a1 ∧ y = .ref a2 ∧ ((SqL K H a1 xs ∧ SqL K H a2 ys) ∨ (SqT K H a1 xs ∧ SqT K H a2 ys)) ∧ DpAll K H xs ds ∧ DpAll K H ys ds ∧ ds.length ≤ 10 ∧ ∀ d ∈ ds, DK m d) := by
    cases dd with
    | non =>
      cases dx
      cases dy
      exact .inl ⟨rfl, rfl⟩
    | bl b =>
      cases dx
      cases dy
      exact .inr (.inl ⟨"bool", true, false, true, rfl, fun _ => .base (.bl b), (fun z => by cases z), rfl, by decide +kernel, by decide +kernel, by decide +kernel, by decide +kernel, by decide +kernel⟩)
    | int i h1 h2 =>
      cases dx
      cases dy
      exact .inr (.inl ⟨"int", false, false, true, rfl, fun _ => .base (.int i), (fun z => by cases z), rfl, by decide +kernel, by decide +kernel, by decide +kernel, by decide +kernel, by decide +kernel⟩)
    | str z h1 h2 =>
      cases dx
      cases dy
      exact .inr (.inl ⟨"str", false, true, false, rfl, fun _ => .base (.str z), (fun z => by cases z), rfl, by decide +kernel, by decide +kernel, by decide +kernel, by decide +kernel, by decide +kernel⟩)
    | lst h1 h2 =>
      cases dx with
      | lst g1 g2 =>
        cases dy with
        | lst g3 g4 => exact .inr (.inr ⟨_, _, _, _, _, _, rfl, rfl, rfl, .inl ⟨g1, g3⟩, g2, g4, h1, h2⟩)
    | tup h1 h2 =>
      cases dx with
      | tup g1 g2 =>
        cases dy with
        | tup g3 g4 => exact .inr (.inr ⟨_, _, _, _, _, _, rfl, rfl, rfl, .inr ⟨g1, g3⟩, g2, g4, h1, h2⟩)
  rcases sh with ⟨rfl, rfl⟩ | ⟨tx, b1, b2, b3, rfl, ty, nn, sc, kl, kt, kb, ks, ki⟩ | ⟨a1, a2, xs, ys, ds, m, rfl, rfl, rfl, hs, ax, ay, hl, hd⟩
  · refine ⟨_, rfl, (by show 2 ≤ sizeLine; decide), fun t ht => ⟨_, t, _, _, [.type "list", .type "tuple"], _, rfl, upd_same, .cons (.ty _) (.cons (.ty _) .nil), .base .non, any_lt (tx := "NoneType") (b1 := false) (b2 := false) (by decide +kernel) (by decide +kernel), _, rfl, iteF ?_⟩⟩
    refine ⟨_, rfl, rfl, _, rfl, iteT (iteT ?_)⟩
    refine ⟨_, rfl, _, rfl, iteT ⟨_, rfl, ?_⟩⟩
    exact q _ (same_new ht _)
  · refine ⟨_, rfl, (by show 2 ≤ sizeLine; decide), fun t ht => ⟨_, t, _, _, [.type "list", .type "tuple"], _, rfl, upd_same, .cons (.ty _) (.cons (.ty _) .nil), ty _, any_lt kl kt, _, rfl, iteF ?_⟩⟩
    refine ⟨_, rfl, rfl, _, rfl, iteN (decide_eq_false nn) ⟨_, rfl, rfl, _, rfl, iteN (decide_eq_false nn) ?_⟩⟩
    refine ⟨_, rfl, (by show 2 ≤ sizeLine; decide), fun t2 ht2 => ⟨_, t2, _, _, [.type "list", .type "tuple"], _, rfl, upd_same, .cons (.ty _) (.cons (.ty _) .nil), ty _, any_lt kl kt, _, rfl, iteF ?_⟩⟩
    have nb : ∀ b : Bool, (!decide (V.bl b = V.bl b)) = false := fun b => by simp
    refine ⟨_, rfl, _, _, _, _, b1, rfl, .ty _, ty _, kit_ty kb, _, rfl, _, _, _, _, b1, rfl, .ty _, ty _, kit_ty kb, rfl, _, rfl, iteN (nb b1) ?_⟩
    refine ⟨_, rfl, _, _, _, _, b2, rfl, .ty _, ty _, kit_ty ks, _, rfl, _, _, _, _, b2, rfl, .ty _, ty _, kit_ty ks, rfl, _, rfl, iteN (nb b2) ?_⟩
    refine ⟨_, rfl, _, _, _, _, b3, rfl, .ty _, ty _, kit_ty ki, _, rfl, _, _, _, _, b3, rfl, .ty _, ty _, kit_ty ki, rfl, _, rfl, iteN (nb b3) ?_⟩
    refine ⟨_, rfl, _, rfl, sc, ?_⟩
    rw [decide_eq_true rfl]
    exact q _ ((same_new ht _).trans (same_new ht2 _))
  · have nb : ∀ b : Bool, (!decide (V.bl b = V.bl b)) = false := fun b => by simp
    have lx := dpAll_len ax
    have ly := dpAll_len ay
    obtain rfl := hrec m rfl
    obtain ⟨tx, b1, b2, hor, ty1, ty2, k1, k2⟩ : ∃ (tx : String) (b1 b2 : Bool), (b1 || b2) = true ∧ (∀ H', Same H H' → TyX K H' (.ref a1) (.type tx)) ∧ (∀ H', Same H H' → TyX K H' (.ref a2) (.type tx)) ∧ kitB tx "list" = some b1 ∧ kitB tx "tuple" = some b2 := by
      rcases hs with ⟨h1, h2⟩ | ⟨h1, h2⟩
      · exact ⟨"list", true, false, rfl, fun H' e => ty_seqL (e.seq h1), fun H' e => ty_seqL (e.seq h2), by decide +kernel, by decide +kernel⟩
      · exact ⟨"tuple", false, true, rfl, fun H' e => ty_seqT (Same.seqT e h1), fun H' e => ty_seqT (Same.seqT e h2), by decide +kernel, by decide +kernel⟩
    refine ⟨_, rfl, (by show 2 ≤ sizeLine; decide), fun t ht => ⟨_, t, _, _, [.type "list", .type "tuple"], _, rfl, upd_same, .cons (.ty _) (.cons (.ty _) .nil), ty2 _ (same_new ht _), any_lt k1 k2, _, rfl, iteY hor ?_⟩⟩
    have s1 : Same H (upd H t (.tup [.ty "list", .ty "tuple"])) := same_new ht _
    refine ⟨_, rfl, _, _, _, _, b1, rfl, .ty _, ty1 _ s1, kit_ty k1, _, rfl, _, _, _, _, b1, rfl, .ty _, ty2 _ s1, kit_ty k1, rfl, _, rfl, iteN (nb b1) ?_⟩
    refine ⟨_, rfl, _, _, _, _, b2, rfl, .ty _, ty1 _ s1, kit_ty k2, _, rfl, _, _, _, _, b2, rfl, .ty _, ty2 _ s1, kit_ty k2, rfl, _, rfl, iteN (nb b2) ?_⟩
    refine ⟨_, rfl, a1, xs, rfl, hs.imp (fun h => s1.seq h.1) (fun h => Same.seqT s1 h.1), _, rfl, a2, ys, rfl, hs.imp (fun h => s1.seq h.2) (fun h => Same.seqT s1 h.2), rfl, true, ?_, iteT ?_⟩
    · rw [lx, ly, decide_eq_true rfl]
    generalize upd H t (.tup [.ty "list", .ty "tuple"]) = H1 at s1
    have xy : xs.length = ys.length := lx.trans ly.symm
    refine ⟨_, rfl, _, rfl, a1, a2, xs, ys, rfl, ?_⟩
    rcases hs with ⟨h1, h2⟩ | ⟨h1, h2⟩
    · refine .inl ⟨s1.seq h1, s1.seq h2, fun D hD => lc_it (walk_zip (n := xs.length) (by omega)) (PvLike H D) ⟨upd_same, s1.trans (same_new hD _)⟩ (fun i Hi _ p => ⟨p.2.seq h1, p.2.seq h2⟩) (fun i v Hi Hj hi p y => ?_) (fun Hi p => ?_)⟩
      · obtain ⟨T, x', y', rfl, hT, rfl, e1, e2⟩ := y
        have s2 : Same H (upd Hi T (.tup [x', y'])) := p.2.trans (same_new hT _)
        obtain ⟨d1, g1, u1⟩ := dpAll_get ax e1
        obtain ⟨d2, g2, u2⟩ := dpAll_get ay e2
        obtain rfl : d1 = d2 := by
          rw [g1] at g2
          exact Option.some.inj g2
        have hDT : D ≠ T := ne_of_none p.1 hT
        refine ⟨T, [x', y'], rfl, SqT.of upd_same, rfl, x', _, rfl, y', _, rfl, rfl, rfl, _, rfl, _, rfl, x', y', d1, rfl, dpSame s2 u1, dpSame s2 u2, hd _ (List.mem_of_getElem? g1), fun H3 s3 => ?_⟩
        refine ⟨_, s3 _ _ ((upd_ne hDT).trans p.1), ?_, ?_⟩
        · rw [List.length_map, List.length_replicate]
          have : sizeLine = 16777216 := sizeLine_eq
          omega
        · exact ⟨by rw [rep_snoc]; exact upd_same, fun c o e => (upd_ne (ne_of_none (s1 _ _ e) hD)).trans (s3 _ _ (s2 _ _ e))⟩
      · refine ⟨D, List.replicate xs.length true, rfl, SqL.of p.1, ?_⟩
        rw [all_true]
        exact q _ p.2
    · refine .inr ⟨Same.seqT s1 h1, Same.seqT s1 h2, fun D hD => lc_it (walk_zipTT xy) (PvLike H D) ⟨upd_same, s1.trans (same_new hD _)⟩ (fun i Hi _ p => ⟨Same.seqT p.2 h1, Same.seqT p.2 h2⟩) (fun i v Hi Hj hi p y => ?_) (fun Hi p => ?_)⟩
      · obtain ⟨T, x', y', rfl, hT, rfl, e1, e2⟩ := y
        have s2 : Same H (upd Hi T (.tup [x', y'])) := p.2.trans (same_new hT _)
        obtain ⟨d1, g1, u1⟩ := dpAll_get ax e1
        obtain ⟨d2, g2, u2⟩ := dpAll_get ay e2
        obtain rfl : d1 = d2 := by
          rw [g1] at g2
          exact Option.some.inj g2
        have hDT : D ≠ T := ne_of_none p.1 hT
        refine ⟨T, [x', y'], rfl, SqT.of upd_same, rfl, x', _, rfl, y', _, rfl, rfl, rfl, _, rfl, _, rfl, x', y', d1, rfl, dpSame s2 u1, dpSame s2 u2, hd _ (List.mem_of_getElem? g1), fun H3 s3 => ?_⟩
        refine ⟨_, s3 _ _ ((upd_ne hDT).trans p.1), ?_, ?_⟩
        · rw [List.length_map, List.length_replicate]
          have : sizeLine = 16777216 := sizeLine_eq
          omega
        · exact ⟨by rw [rep_snoc]; exact upd_same, fun c o e => (upd_ne (ne_of_none (s1 _ _ e) hD)).trans (s3 _ _ (s2 _ _ e))⟩
      · refine ⟨D, List.replicate xs.length true, rfl, SqL.of p.1, ?_⟩
        rw [all_true]
        exact q _ p.2
end
end K0

set_option Elab.async false
set_option linter.all false
set_option maxRecDepth 100000
set_option maxHeartbeats 4000000
namespace K0
open PySem PySem.Spec PyProof.Rows L2 Fb RZ
abbrev sCopied : Stmt := top 42
/-- G' : what stood in G, and new things -/
structure Grown (G H G' H' : Hp) : Prop where
  keep : Same G G'
  sub : Same G' H'
  new : ∀ a o, H a = some o → G a = none → G' a = none
def spCopied (K : PySem.W.Frag) (n : Nat) : Sp := fun vs H Q _ => ∃ (y : V) (d : PyData) (G : Hp), vs = [y] ∧ Same G H ∧ Dp K G y d ∧ DK n d ∧ ∀ (y' : V) (G' H' : Hp), Same H H' → Grown G H G' H' → Dp K G' y' d → Q y' H'
def PvCop (K : PySem.W.Frag) (G H : Hp) (ds : List PyData) (D : Addr) (i : Nat) (Hi : Hp) : Prop := Same H Hi ∧ ∃ (G' : Hp) (vs : List V), Hi D = some (.lst vs) ∧ vs.length = i ∧ Same G G' ∧ Same G' Hi ∧ G' D = none ∧ (∀ a o, H a = some o → G a = none → G' a = none) ∧ DpAll K G' vs (ds.take i)
theorem PvCop.start {K : PySem.W.Frag} {G H : Hp} {ds : List PyData} {D : Addr} (gs : Same G H) (hD : H D = none) : PvCop K G H ds D 0 (upd H D (.lst [])) :=
  ⟨same_new hD _, G, [], upd_same, rfl, Same.refl _, gs.trans (same_new hD _), gs.free hD, fun _ _ _ h => h, by rw [List.take_zero]; exact .nil⟩
theorem PvCop.step {K : PySem.W.Frag} {G H : Hp} {ds : List PyData} {D : Addr} {i : Nat} {Hi H2 G2 : Hp} {y : V} {d : PyData} {G1 : Hp} {vs : List V} (hD : H D = none) (s0 : Same H Hi) (hy : Hi D = some (.lst vs)) (hl : vs.length = i) (g1 : Same G G1) (g3 : G1 D = none)
    (g4 : ∀ a o, H a = some o → G a = none → G1 a = none) (g5 : DpAll K G1 vs (ds.take i)) (hd : ds[i]? = some d) (s2 : Same Hi H2) (gr : Grown G1 Hi G2 H2) (dy : Dp K G2 y d) : PvCop K G H ds D (i + 1) (upd H2 D (.lst (vs ++ [y]))) := by
  have n2 : G2 D = none := gr.new _ _ hy g3
  refine ⟨fun a o e => (upd_ne (ne_of_none e hD)).trans (s2 _ _ (s0 _ _ e)), G2, _, upd_same, by rw [List.length_append, hl]; rfl, g1.trans gr.keep, fun a o e => (upd_ne (ne_of_none e n2)).trans (gr.sub _ _ e), n2, fun a o h1 h2 => gr.new _ _ (s0 _ _ h1) (g4 _ _ h1 h2), ?_⟩
  have e : ds.take (i + 1) = ds.take i ++ [d] := by rw [List.take_succ, hd]; rfl
  rw [e]
  exact dpAll_snoc (dpsSame gr.keep g5) dy
section
variable {P : Program} {w : World} {K : PySem.W.Frag} {mg : Str → Option Value} {base : Heap}
theorem scCopied : FnScope ["value", "part"] ["value"] (defScope sCopied) := ⟨rfl, rfl, rfl, by decide +kernel, rfl, by decide +kernel, by decide +kernel⟩
theorem ok_copied {f : Addr} {fd : FuncData} {k n : Nat} {spr : Sp} (F : Fun K "_law_copied" "_law_copied" sCopied f fd) (R : RD P w K mg base k "_law_copied" ["value"] spr) (hrec : ∀ m, n = m + 1 → spr = spCopied K m) (M : Kinds mg) : FnOk P w K mg base CX0 (k + 1) f fd ["value"] (spCopied K n) := by
  refine F.ok scCopied (fun vs H Q E h => ?_) (fun cdv A outer s H vs Q E hr h => ?_)
  · obtain ⟨y, d, G, rfl, _⟩ := h
    rfl
  obtain ⟨y, d, G, rfl, gs, dy, dd, q⟩ := h
  have eL : ∀ {pos : Pos}, PE (cxOf CX0 P w K mg base ["value", "part"] "_law_copied" (defScope sCopied) f cdv A outer s H E).nox (.Name "list" pos) (tC (.ty "list")) := pe_bltn (v := .ty "list") rfl M.li (by decide +kernel) rfl
  have eT : ∀ {pos : Pos}, PE (cxOf CX0 P w K mg base ["value", "part"] "_law_copied" (defScope sCopied) f cdv A outer s H E).nox (.Name "tuple" pos) (tC (.ty "tuple")) := pe_bltn (v := .ty "tuple") rfl M.tu (by decide +kernel) rfl
  refine ⟨_, pss_cons (ps_if (pt_val (pe_callB call_isi rfl M.is (by decide +kernel) (pa_cons (pv 0) (pa_cons eL pa_nil))))
      (pss_one (ps_ret (pe_lc (own := [("part", 1)]) (g := gName 1) (tt := tYes) rfl scCopied.nd (pi_list (pv 0)) (blkOk_by (N := ["value", "part"]) (sc := defScope sCopied) (by decide +kernel))
            (fun _ _ _ _ _ => pg_name (i := 1) scCopied.nd rfl (Or.inl rfl)) (fun _ _ _ _ _ => pts_nil) (fun _ _ _ _ _ => pe_rd R hr rfl pass0 (pa_cons (pv 1) pa_nil))))) pss_nil)
    (pss_cons (ps_if (pt_val (pe_callB call_isi rfl M.is (by decide +kernel) (pa_cons (pv 0) (pa_cons eT pa_nil))))
      (pss_one (ps_ret (pe_callTy call_tuple_of rfl M.tu (by decide +kernel) (pa_cons (pe_lc (own := [("part", 1)]) (g := gName 1) (tt := tYes) rfl scCopied.nd (pi_tup (pv 0)) (blkOk_by (N := ["value", "part"]) (sc := defScope sCopied) (by decide +kernel))
            (fun _ _ _ _ _ => pg_name (i := 1) scCopied.nd rfl (Or.inl rfl)) (fun _ _ _ _ _ => pts_nil) (fun _ _ _ _ _ => pe_rd R hr rfl pass0 (pa_cons (pv 1) pa_nil))) pa_nil)))) pss_nil)
    (pss_one (ps_ret (pv 0)))), ?_⟩
  have dyH : Dp K H y d := dpSame gs dy
  have same : Q y H := q y G H (Same.refl _) ⟨Same.refl _, gs, fun _ _ _ h => h⟩ dy
  have sh : (∃ tx : String, TyX K H y (.type tx) ∧ kitB tx "list" = some false ∧ kitB tx "tuple" = some false) ∨
      (∃ (a : Addr) (xs : List V) (ds : List PyData) (m : Nat), n = m + 1 ∧ y = .ref a ∧ d = .list ds ∧ SqL K G a xs ∧ DpAll K G xs ds ∧ ds.length ≤ 10 ∧ ∀ d ∈ ds, DK m d) ∨
      (∃ (a : Addr) (xs : List V) (ds : List PyData) (m : Nat), n = m + 1 ∧ y = .ref a ∧ d = .tuple ds ∧ SqT K G a xs ∧ DpAll K G xs ds ∧ ds.length ≤ 10 ∧ ∀ d ∈ ds, DK m d) := by
    cases dd with
    | non =>
      cases dy
      exact .inl ⟨"NoneType", .base .non, by decide +kernel, by decide +kernel⟩
    | bl b =>
      cases dy
      exact .inl ⟨"bool", .base (.bl b), by decide +kernel, by decide +kernel⟩
    | int i h1 h2 =>
      cases dy
      exact .inl ⟨"int", .base (.int i), by decide +kernel, by decide +kernel⟩
    | str z h1 h2 =>
      cases dy
      exact .inl ⟨"str", .base (.str z), by decide +kernel, by decide +kernel⟩
    | lst h1 h2 =>
      cases dy with
      | lst g1 g2 => exact .inr (.inl ⟨_, _, _, _, rfl, rfl, rfl, g1, g2, h1, h2⟩)
    | tup h1 h2 =>
      cases dy with
      | tup g1 g2 => exact .inr (.inr ⟨_, _, _, _, rfl, rfl, rfl, g1, g2, h1, h2⟩)
  rcases sh with ⟨tx, ty, k1, k2⟩ | ⟨a, xs, ds, m, rfl, rfl, rfl, hs, hx, hl, hd⟩ | ⟨a, xs, ds, m, rfl, rfl, rfl, hs, hx, hl, hd⟩
  · exact ⟨_, rfl, _, _, _, _, false, rfl, .ty _, ty, kit_ty k1, _, rfl, iteF ⟨_, rfl, _, _, _, _, false, rfl, .ty _, ty, kit_ty k2, _, rfl, iteF ⟨_, rfl, same⟩⟩⟩
  · have lx := dpAll_len hx
    obtain rfl := hrec m rfl
    refine ⟨_, rfl, _, _, _, _, true, rfl, .ty _, ty_seqL (gs.seq hs), kit_ty (by decide +kernel), _, rfl, iteT ?_⟩
    refine ⟨_, rfl, a, rfl, ⟨xs, gs.seq hs⟩, fun D hD => lc_list (xs := xs) (PvCop K G H ds D) (PvCop.start gs hD) (fun i Hi _ p => (gs.trans p.1).seq hs) ?_ ?_⟩
    · intro i x Hi hi p
      · obtain ⟨s0, G1, vs, hy, hvl, g1, g2, g3, g4, g5⟩ := p
        obtain ⟨d1, e1, u1⟩ := dpAll_get hx hi
        refine ⟨rfl, _, rfl, x, d1, G1, rfl, g2, dpSame g1 u1, hd _ (List.mem_of_getElem? e1), fun y' G2 H2 s2 gr dy' => ?_⟩
        refine ⟨vs, s2 _ _ hy, ?_, PvCop.step hD s0 hy hvl g1 g3 g4 g5 e1 s2 gr dy'⟩
        have : i < xs.length := (List.getElem?_eq_some_iff.mp hi).1
        have hz : sizeLine = 16777216 := sizeLine_eq
        omega
    · rintro Hi ⟨s0, G1, vs, hy, hvl, g1, g2, g3, g4, g5⟩
      rw [List.take_of_length_le (by omega)] at g5
      refine q _ (upd G1 D (.lst vs)) _ s0 ⟨fun c o e => (upd_ne (ne_of_none (gs _ _ e) hD)).trans (g1 _ _ e), fun c o e => ?_, fun c o e1 e2 => (upd_ne (ne_of_none e1 hD)).trans (g4 _ _ e1 e2)⟩ (.lst (SqL.of upd_same) (dpsSame (same_new g3 _) g5))
      by_cases hc : c = D
      · rw [hc, upd_same] at e
        rw [hc, hy]
        exact e
      · rw [upd_ne hc] at e
        exact g2 _ _ e
  · have lx := dpAll_len hx
    obtain rfl := hrec m rfl
    refine ⟨_, rfl, _, _, _, _, false, rfl, .ty _, ty_seqT (Same.seqT gs hs), kit_ty (by decide +kernel), _, rfl, iteF ?_⟩
    refine ⟨_, rfl, _, _, _, _, true, rfl, .ty _, ty_seqT (Same.seqT gs hs), kit_ty (by decide +kernel), _, rfl, iteT ?_⟩
    refine ⟨_, rfl, a, rfl, ⟨xs, Same.seqT gs hs⟩, fun D hD => lc_tup (xs := xs) (PvCop K G H ds D) (PvCop.start gs hD) (fun i Hi _ p => Same.seqT (gs.trans p.1) hs) ?_ ?_⟩
    · intro i x Hi hi p
      · obtain ⟨s0, G1, vs, hy, hvl, g1, g2, g3, g4, g5⟩ := p
        obtain ⟨d1, e1, u1⟩ := dpAll_get hx hi
        refine ⟨rfl, _, rfl, x, d1, G1, rfl, g2, dpSame g1 u1, hd _ (List.mem_of_getElem? e1), fun y' G2 H2 s2 gr dy' => ?_⟩
        refine ⟨vs, s2 _ _ hy, ?_, PvCop.step hD s0 hy hvl g1 g3 g4 g5 e1 s2 gr dy'⟩
        have : i < xs.length := (List.getElem?_eq_some_iff.mp hi).1
        have hz : sizeLine = 16777216 := sizeLine_eq
        omega
    · rintro Hi ⟨s0, G1, vs, hy, hvl, g1, g2, g3, g4, g5⟩
      rw [List.take_of_length_le (by omega)] at g5
      refine ⟨D, vs, rfl, .inl ⟨SqL.of hy, fun t ht => ?_⟩⟩
      have htH : H t = none := s0.free ht
      have htG : G1 t = none := g2.free ht
      refine q _ (upd G1 t (.tup vs)) _ (s0.trans (same_new ht _)) ⟨fun c o e => (upd_ne (ne_of_none (gs _ _ e) htH)).trans (g1 _ _ e), fun c o e => ?_, fun c o e1 e2 => (upd_ne (ne_of_none e1 htH)).trans (g4 _ _ e1 e2)⟩ (.tup (SqT.of upd_same) (dpsSame (same_new htG _) g5))
      by_cases hc : c = t
      · rw [hc, upd_same] at e
        rw [hc, upd_same]
        exact e
      · rw [upd_ne hc] at e ⊢
        exact g2 _ _ e
end
end K0

set_option Elab.async false
set_option linter.all false
set_option maxRecDepth 100000
set_option maxHeartbeats 4000000
namespace Fb
open PySem PySem.Spec PyProof.Rows L2
abbrev appU (us ws : List Value) : List Value := us ++ ws
abbrev appV (vs zs : List V) : List V := vs ++ zs
abbrev revU (us ws : List Value) : List Value := us ++ ws.reverse
abbrev revV (vs zs : List V) : List V := vs ++ zs.reverse
/-- the ways with keywords in which such an __init__ is called -/
def KBAll (K : PySem.W.Frag) (fd : FuncData) : List Str → Prop
  | [f1] => KBn K fd ["self", f1] 1 [f1] appU appV
  | [f1, f2] => KBn K fd ["self", f1, f2] 1 [f1, f2] appU appV ∧ KBn K fd ["self", f1, f2] 1 [f2, f1] revU revV ∧ KBn K fd ["self", f1, f2] 2 [f2] appU appV
  | _ => True
/-- an error class of the package: x its name and its code, fl its fields -/
structure Cl (P : Program) (w : World) (K : PySem.W.Frag) (mg : Str → Option Value) (base : Heap) (x : Str) (fl : List Str) (C : Addr) : Prop where
  gC : mg x = some (.ref C)
  mkr : ∃ (fI : Addr) (fd : FuncData), EMk K C fI ∧ FnOk P w K mg base CX0 1 fI fd ("self" :: fl) (spI K C x fl) ∧ Binds K fd ("self" :: fl) [] ∧ KBAll K fd fl
  is : EIs K C
  no : NoF K C fl
theorem Cl.ec {P : Program} {w : World} {K : PySem.W.Frag} {mg : Str → Option Value} {base : Heap} {x : Str} {fl : List Str} {C : Addr} (T : Cl P w K mg base x fl C) : EC K C := by
  obtain ⟨fI, fd, T, _⟩ := T.mkr
  exact T.toEC
/-- the fields of such an error -/
abbrev flds (x : Str) (fl : List Str) (ys : List V) : List (Str × V) := (("code" : Str), V.str x) :: (fl.zip ys).reverse
/-- what is left when an error has been made -/
def tErr (K : PySem.W.Frag) (C : Addr) (x : Str) (fl : List Str) (ys : List V) (H : Hp) (Q : VK) : Prop := ys.length = fl.length ∧ (∀ y ∈ ys, Fm K H y) ∧ ∀ (e : Addr) (H' : Hp), Same H H' → H e = none → Err H' e C (flds x fl ys) → Q (.ref e) H'
theorem err_sp {K : PySem.W.Frag} {C : Addr} {x : Str} {fl : List Str} {ys : List V} {H : Hp} {Q : VK} (h : tErr K C x fl ys H Q) (a : Addr) (ha : H a = none) : spI K C x fl (.ref a :: ys) (upd H a (exo a C none)) (fun v H3 => v = .non ∧ Q (.ref a) H3) E0 := by
  obtain ⟨hl, hf, q⟩ := h
  exact ⟨a, ys, rfl, hl, upd_same, fun y hy => (hf y hy).same (same_new ha _), fun d H' hd hne hs h1 h2 => ⟨rfl, q a H' (fun b o e => hs b o (ne_of_none e ha) ((upd_ne (ne_of_none e ha)).trans e)) ha ⟨d, .inl h1, .inr h2⟩⟩⟩
section
variable {X : Cx} {C : Addr} {x p1 p2 f1 f2 : Str} {fl : List Str} {p pos q1 q2 : Pos} {a b : Expr} {ta tb : TE} {t : TA}
theorem pe_new0 (T : Cl X.prog X.w X.K X.mg X.base x [] C) (hr : Room 2 X.A) (hg : Gl X x) (hx : Passes CX0 X E0) (hdb : (x == ("__debug__" : Str)) = false := by decide) :
    PE X (.Call (.Name x p) [] [] pos) (tMkx C 0 0 (spI X.K C x []) (fun us _ => us) tNil tNil) := by
  obtain ⟨fI, fd, T1, F, b, k⟩ := T.mkr
  exact pe_mkx0 T1 F hr hg T.gC (kbn_pos b) hx hdb
theorem pe_new1 (T : Cl X.prog X.w X.K X.mg X.base x [f1] C) (hr : Room 2 X.A) (hg : Gl X x) (hx : Passes CX0 X E0) (ha : PA X [a] t) (hdb : (x == ("__debug__" : Str)) = false := by decide) (he : starEach [a] X.env = (false, eval a X.env) :: starEach [] X.env := by rfl)
    (hpl : ((backTo pos (starEach [a] X.env)).any (·.1) || (backToKw pos (keywordEach [] X.env)).any (·.1.isNone)) = false := by rfl) :
    PE X (.Call (.Name x p) [a] [] pos) (tMkx C 1 0 (spI X.K C x [f1]) (fun us _ => us) t tNil) := by
  obtain ⟨fI, fd, T1, F, b, k⟩ := T.mkr
  exact pe_mkxN (n := 1) (ks := []) T1 F hr hg T.gC (kbn_pos b) hx (by decide) ha pk_nil rfl rfl hdb he hpl
theorem pe_new1k (T : Cl X.prog X.w X.K X.mg X.base x [f1] C) (hr : Room 2 X.A) (hg : Gl X x) (hx : Passes CX0 X E0) (ha : PE X a ta) (hall : (backToKw pos (keywordEach [⟨some f1, a, q1⟩] X.env)).all (·.1.isSome) = true := by rfl) (hks : (backToKw pos (keywordEach [⟨some f1, a, q1⟩] X.env)).filterMap (·.1) = [f1] := by rfl)
    (hdb : (x == ("__debug__" : Str)) = false := by decide) (hpl : ((backTo pos (starEach [] X.env)).any (·.1) || (backToKw pos (keywordEach [⟨some f1, a, q1⟩] X.env)).any (·.1.isNone)) = false := by rfl) :
    PE X (.Call (.Name x p) [] [⟨some f1, a, q1⟩] pos) (tMkx C 0 1 (spI X.K C x [f1]) appV tNil (tCons ta tNil)) := by
  obtain ⟨fI, fd, T1, F, b, k⟩ := T.mkr
  exact pe_mkxK T1 F hr hg T.gC k hx (pk_cons ha pk_nil) hall hks hdb hpl
theorem pe_new2 (T : Cl X.prog X.w X.K X.mg X.base x [f1, f2] C) (hr : Room 2 X.A) (hg : Gl X x) (hx : Passes CX0 X E0) (ha : PA X [a, b] t) (hdb : (x == ("__debug__" : Str)) = false := by decide)
    (he : starEach [a, b] X.env = (false, eval a X.env) :: starEach [b] X.env := by rfl)
    (hpl : ((backTo pos (starEach [a, b] X.env)).any (·.1) || (backToKw pos (keywordEach [] X.env)).any (·.1.isNone)) = false := by rfl) :
    PE X (.Call (.Name x p) [a, b] [] pos) (tMkx C 2 0 (spI X.K C x [f1, f2]) (fun us _ => us) t tNil) := by
  obtain ⟨fI, fd, T1, F, bi, k⟩ := T.mkr
  exact pe_mkxN (n := 2) (ks := []) T1 F hr hg T.gC (kbn_pos bi) hx (by decide) ha pk_nil rfl rfl hdb he hpl
theorem pe_new2k (T : Cl X.prog X.w X.K X.mg X.base x [f1, f2] C) (hr : Room 2 X.A) (hg : Gl X x) (hx : Passes CX0 X E0) (ha : PE X a ta) (hb : PE X b tb) (hall : (backToKw pos (keywordEach [⟨some f1, a, q1⟩, ⟨some f2, b, q2⟩] X.env)).all (·.1.isSome) = true := by rfl)
    (hks : (backToKw pos (keywordEach [⟨some f1, a, q1⟩, ⟨some f2, b, q2⟩] X.env)).filterMap (·.1) = [f1, f2] := by rfl)
    (hdb : (x == ("__debug__" : Str)) = false := by decide) (hpl : ((backTo pos (starEach [] X.env)).any (·.1) || (backToKw pos (keywordEach [⟨some f1, a, q1⟩, ⟨some f2, b, q2⟩] X.env)).any (·.1.isNone)) = false := by rfl) :
    PE X (.Call (.Name x p) [] [⟨some f1, a, q1⟩, ⟨some f2, b, q2⟩] pos) (tMkx C 0 2 (spI X.K C x [f1, f2]) appV tNil (tCons ta (tCons tb tNil))) := by
  obtain ⟨fI, fd, T1, F, bi, k⟩ := T.mkr
  exact pe_mkxK T1 F hr hg T.gC k.1 hx (pk_cons ha (pk_cons hb pk_nil)) hall hks hdb hpl
theorem pe_new2r (T : Cl X.prog X.w X.K X.mg X.base x [f1, f2] C) (hr : Room 2 X.A) (hg : Gl X x) (hx : Passes CX0 X E0) (ha : PE X a ta) (hb : PE X b tb) (hall : (backToKw pos (keywordEach [⟨some f2, b, q1⟩, ⟨some f1, a, q2⟩] X.env)).all (·.1.isSome) = true := by rfl)
    (hks : (backToKw pos (keywordEach [⟨some f2, b, q1⟩, ⟨some f1, a, q2⟩] X.env)).filterMap (·.1) = [f2, f1] := by rfl)
    (hdb : (x == ("__debug__" : Str)) = false := by decide) (hpl : ((backTo pos (starEach [] X.env)).any (·.1) || (backToKw pos (keywordEach [⟨some f2, b, q1⟩, ⟨some f1, a, q2⟩] X.env)).any (·.1.isNone)) = false := by rfl) :
    PE X (.Call (.Name x p) [] [⟨some f2, b, q1⟩, ⟨some f1, a, q2⟩] pos) (tMkx C 0 2 (spI X.K C x [f1, f2]) revV tNil (tCons tb (tCons ta tNil))) := by
  obtain ⟨fI, fd, T1, F, bi, k⟩ := T.mkr
  exact pe_mkxK T1 F hr hg T.gC k.2.1 hx (pk_cons hb (pk_cons ha pk_nil)) hall hks hdb hpl
theorem pe_new2m (T : Cl X.prog X.w X.K X.mg X.base x [f1, f2] C) (hr : Room 2 X.A) (hg : Gl X x) (hx : Passes CX0 X E0) (ha : PA X [a] t) (hb : PE X b tb) (hall : (backToKw pos (keywordEach [⟨some f2, b, q1⟩] X.env)).all (·.1.isSome) = true := by rfl)
    (hks : (backToKw pos (keywordEach [⟨some f2, b, q1⟩] X.env)).filterMap (·.1) = [f2] := by rfl)
    (hdb : (x == ("__debug__" : Str)) = false := by decide) (he : starEach [a] X.env = (false, eval a X.env) :: starEach [] X.env := by rfl)
    (hpl : ((backTo pos (starEach [a] X.env)).any (·.1) || (backToKw pos (keywordEach [⟨some f2, b, q1⟩] X.env)).any (·.1.isNone)) = false := by rfl) :
    PE X (.Call (.Name x p) [a] [⟨some f2, b, q1⟩] pos) (tMkx C 1 1 (spI X.K C x [f1, f2]) appV t (tCons tb tNil)) := by
  obtain ⟨fI, fd, T1, F, bi, k⟩ := T.mkr
  exact pe_mkxN (n := 1) T1 F hr hg T.gC k.2.2 hx (by decide) ha (pk_cons hb pk_nil) hall hks hdb he hpl
end
/-- the ways with keywords, by the text -/
theorem InitF.kbn {P : Program} {K : PySem.W.Frag} {C fI : Addr} {st : Stmt} {qual : Str} {fd : FuncData} {ps ks : List Str} {n : Nat} {g : List Value → List Value → List Value} {gV : List V → List V → List V} (F : InitF P K C fI st qual fd)
    (h : ∀ (doc pm : Value) (an : Option Addr) (ct : Value) (c cc : Addr) (us ws : List Value), us.length = n → ws.length = ks.length → bindArgs (PySem.W.fnX "__init__" qual (defArgs st) (defBody st) (defScope st) [(("__class__" : Str), cc)] .none .none doc pm an (.ref c) ct) ⟨us, ks.zip ws⟩ = pure (ps.zip (g us ws)))
    (hrel : ∀ {vs : List V} {us : List Value} {zs : List V} {ws : List Value}, Vals vs us → Vals zs ws → Vals (gV vs zs) (g us ws)) : KBn K fd ps n ks g gV := by
  obtain ⟨oc, od, doc, pm, an, ct, osl, c, cc, rfl, _, _⟩ := F.ex
  exact ⟨fun s us ws _ h1 h2 => .of_eq (h doc pm an ct c cc us ws h1 h2), hrel⟩
theorem rel_app {vs : List V} {us : List Value} {zs : List V} {ws : List Value} (a : Vals vs us) (b : Vals zs ws) : Vals (appV vs zs) (appU us ws) := a.append b
theorem rel_rev {vs : List V} {us : List Value} {zs : List V} {ws : List Value} (a : Vals vs us) (b : Vals zs ws) : Vals (revV vs zs) (revU us ws) := a.append b.reverse
end Fb

set_option Elab.async false
set_option linter.all false
set_option maxRecDepth 100000
set_option maxHeartbeats 4000000
namespace K0
open PySem PySem.Spec PyProof.Rows L2 Fb
/-- the error classes: their names, their fields -/
def two : List (Str × List Str) := [("BadText", ["line", "why"]), ("UnlikeParts", ["one", "other"]), ("UnlikeTapes", ["one", "other"]), ("TooMany", ["what", "found"]), ("CantAnswer", ["at", "run"])]
def one : List (Str × List Str) := [("BadName", ["name"]), ("BadLetters", ["at"]), ("BadRun", ["at"]), ("BadColumn", ["column"]), ("BadNumber", ["value"]), ("BadTable", ["at"]), ("HeldTwice", ["item"]), ("BreaksBeside", ["lot"]), ("NotSo", ["lot"]), ("NotEnough", ["lot"]), ("EndedRun", ["at"]), ("UnknownPart", ["name"]), ("UnknownName", ["name"]), ("UnknownRun", ["at"]), ("NotHeld", ["run"])]
def zero : List (Str × List Str) := [("BadDeed", []), ("NoDraft", []), ("InDraft", []), ("NothingLeft", [])]
def tbl : List (Str × List Str) := two ++ (one ++ zero)
structure Tab (P : Program) (w : World) (K : PySem.W.Frag) (mg : Str → Option Value) (base : Heap) (C : Str → Addr) : Prop where
  cBadText : Cl P w K mg base "BadText" ["line", "why"] (C "BadText")
  cUnlikeParts : Cl P w K mg base "UnlikeParts" ["one", "other"] (C "UnlikeParts")
  cUnlikeTapes : Cl P w K mg base "UnlikeTapes" ["one", "other"] (C "UnlikeTapes")
  cTooMany : Cl P w K mg base "TooMany" ["what", "found"] (C "TooMany")
  cCantAnswer : Cl P w K mg base "CantAnswer" ["at", "run"] (C "CantAnswer")
  cBadName : Cl P w K mg base "BadName" ["name"] (C "BadName")
  cBadLetters : Cl P w K mg base "BadLetters" ["at"] (C "BadLetters")
  cBadRun : Cl P w K mg base "BadRun" ["at"] (C "BadRun")
  cBadColumn : Cl P w K mg base "BadColumn" ["column"] (C "BadColumn")
  cBadNumber : Cl P w K mg base "BadNumber" ["value"] (C "BadNumber")
  cBadTable : Cl P w K mg base "BadTable" ["at"] (C "BadTable")
  cHeldTwice : Cl P w K mg base "HeldTwice" ["item"] (C "HeldTwice")
  cBreaksBeside : Cl P w K mg base "BreaksBeside" ["lot"] (C "BreaksBeside")
  cNotSo : Cl P w K mg base "NotSo" ["lot"] (C "NotSo")
  cNotEnough : Cl P w K mg base "NotEnough" ["lot"] (C "NotEnough")
  cEndedRun : Cl P w K mg base "EndedRun" ["at"] (C "EndedRun")
  cUnknownPart : Cl P w K mg base "UnknownPart" ["name"] (C "UnknownPart")
  cUnknownName : Cl P w K mg base "UnknownName" ["name"] (C "UnknownName")
  cUnknownRun : Cl P w K mg base "UnknownRun" ["at"] (C "UnknownRun")
  cNotHeld : Cl P w K mg base "NotHeld" ["run"] (C "NotHeld")
  cBadDeed : Cl P w K mg base "BadDeed" [] (C "BadDeed")
  cNoDraft : Cl P w K mg base "NoDraft" [] (C "NoDraft")
  cInDraft : Cl P w K mg base "InDraft" [] (C "InDraft")
  cNothingLeft : Cl P w K mg base "NothingLeft" [] (C "NothingLeft")
section
variable {P : Program} {w : World} {K : PySem.W.Frag} {mg : Str → Option Value} {base : Heap} {C : Str → Addr}
theorem Tab.all (T : Tab P w K mg base C) : ∀ x fl, (x, fl) ∈ tbl → Cl P w K mg base x fl (C x) := by
  intro x fl h
  simp only [tbl, two, one, zero, List.cons_append, List.nil_append, List.mem_cons, List.not_mem_nil, or_false, Prod.mk.injEq] at h
  rcases h with ⟨rfl, rfl⟩ | ⟨rfl, rfl⟩ | ⟨rfl, rfl⟩ | ⟨rfl, rfl⟩ | ⟨rfl, rfl⟩ | ⟨rfl, rfl⟩ | ⟨rfl, rfl⟩ | ⟨rfl, rfl⟩ | ⟨rfl, rfl⟩ | ⟨rfl, rfl⟩ | ⟨rfl, rfl⟩ | ⟨rfl, rfl⟩ | ⟨rfl, rfl⟩ | ⟨rfl, rfl⟩ | ⟨rfl, rfl⟩ | ⟨rfl, rfl⟩ | ⟨rfl, rfl⟩ | ⟨rfl, rfl⟩ | ⟨rfl, rfl⟩ | ⟨rfl, rfl⟩ | ⟨rfl, rfl⟩ | ⟨rfl, rfl⟩ | ⟨rfl, rfl⟩ | ⟨rfl, rfl⟩
  · exact T.cBadText
  · exact T.cUnlikeParts
  · exact T.cUnlikeTapes
  · exact T.cTooMany
  · exact T.cCantAnswer
  · exact T.cBadName
  · exact T.cBadLetters
  · exact T.cBadRun
  · exact T.cBadColumn
  · exact T.cBadNumber
  · exact T.cBadTable
  · exact T.cHeldTwice
  · exact T.cBreaksBeside
  · exact T.cNotSo
  · exact T.cNotEnough
  · exact T.cEndedRun
  · exact T.cUnknownPart
  · exact T.cUnknownName
  · exact T.cUnknownRun
  · exact T.cNotHeld
  · exact T.cBadDeed
  · exact T.cNoDraft
  · exact T.cInDraft
  · exact T.cNothingLeft
end
abbrev sTwo : Stmt := top 32
abbrev sOne : Stmt := top 33
abbrev sMade : Stmt := top 34
def spTwo (K : PySem.W.Frag) (C : Str → Addr) : Sp := fun vs H Q _ => ∃ (x : Str) (fl : List Str) (a b : V) (way : Int), vs = [.str x, a, b, .int way] ∧ (x, fl) ∈ two ∧ tErr K (C x) x fl [a, b] H Q
def spOne (K : PySem.W.Frag) (C : Str → Addr) : Sp := fun vs H Q _ => ∃ (x : Str) (fl : List Str) (a : V) (way : Int), vs = [.str x, a, .int way] ∧ (x, fl) ∈ one ∧ tErr K (C x) x fl [a] H Q
def spMade (K : PySem.W.Frag) (C : Str → Addr) : Sp := fun vs H Q _ => ∃ (x : Str) (fl : List Str) (a b : V) (way : Int), vs = [.str x, a, b, .int way] ∧ (x, fl) ∈ tbl ∧ tErr K (C x) x fl ([a, b].take fl.length) H Q
section
variable {P : Program} {w : World} {K : PySem.W.Frag} {mg : Str → Option Value} {base : Heap} {C : Str → Addr}
theorem scTwo : FnScope ["pick", "a", "b", "way"] ["pick", "a", "b", "way"] (defScope sTwo) := ⟨rfl, rfl, rfl, by decide +kernel, rfl, by decide +kernel, by decide +kernel⟩
theorem ok_two {f : Addr} {fd : FuncData} (F : Fun K "_law_two" "_law_two" sTwo f fd) (T : Tab P w K mg base C) : FnOk P w K mg base CX0 3 f fd ["pick", "a", "b", "way"] (spTwo K C) := by
  refine F.ok scTwo (fun vs H Q E h => ?_) (fun cdv A outer s H vs Q E hr h => ?_)
  · obtain ⟨x, fl, a, b, way, rfl, _⟩ := h
    rfl
  obtain ⟨x, fl, a, b, way, rfl, hm, q⟩ := h
  refine ⟨_, (pss_cons (ps_if (PW.pt (pw_and (pt_cmpR op_eq (pv 0) pe_str (nomark _)) (pw_and1 (pt_cmpR op_lt (pv 3) pe_int (nomark _))))) (pss_one (ps_ret (pe_ifExp (pt_cmpR op_eq (pv 3) pe_int (nomark _)) (pe_new2 T.cBadText hr rfl pass0 (pa_cons (pv 1) (pa_cons (pv 2) pa_nil))) (pe_new2k T.cBadText hr rfl pass0 (pv 1) (pv 2))))) pss_nil)
    (pss_cons (ps_if (pt_cmpR op_eq (pv 0) pe_str (nomark _)) (pss_one (ps_ret (pe_ifExp (pt_cmpR op_eq (pv 3) pe_int (nomark _)) (pe_new2r T.cBadText hr rfl pass0 (pv 1) (pv 2)) (pe_new2m T.cBadText hr rfl pass0 (pa_cons (pv 1) pa_nil) (pv 2))))) pss_nil)
    (pss_cons (ps_if (PW.pt (pw_and (pt_cmpR op_eq (pv 0) pe_str (nomark _)) (pw_and1 (pt_cmpR op_lt (pv 3) pe_int (nomark _))))) (pss_one (ps_ret (pe_ifExp (pt_cmpR op_eq (pv 3) pe_int (nomark _)) (pe_new2 T.cUnlikeParts hr rfl pass0 (pa_cons (pv 1) (pa_cons (pv 2) pa_nil))) (pe_new2k T.cUnlikeParts hr rfl pass0 (pv 1) (pv 2))))) pss_nil)
    (pss_cons (ps_if (pt_cmpR op_eq (pv 0) pe_str (nomark _)) (pss_one (ps_ret (pe_ifExp (pt_cmpR op_eq (pv 3) pe_int (nomark _)) (pe_new2r T.cUnlikeParts hr rfl pass0 (pv 1) (pv 2)) (pe_new2m T.cUnlikeParts hr rfl pass0 (pa_cons (pv 1) pa_nil) (pv 2))))) pss_nil)
    (pss_cons (ps_if (PW.pt (pw_and (pt_cmpR op_eq (pv 0) pe_str (nomark _)) (pw_and1 (pt_cmpR op_lt (pv 3) pe_int (nomark _))))) (pss_one (ps_ret (pe_ifExp (pt_cmpR op_eq (pv 3) pe_int (nomark _)) (pe_new2 T.cUnlikeTapes hr rfl pass0 (pa_cons (pv 1) (pa_cons (pv 2) pa_nil))) (pe_new2k T.cUnlikeTapes hr rfl pass0 (pv 1) (pv 2))))) pss_nil)
    (pss_cons (ps_if (pt_cmpR op_eq (pv 0) pe_str (nomark _)) (pss_one (ps_ret (pe_ifExp (pt_cmpR op_eq (pv 3) pe_int (nomark _)) (pe_new2r T.cUnlikeTapes hr rfl pass0 (pv 1) (pv 2)) (pe_new2m T.cUnlikeTapes hr rfl pass0 (pa_cons (pv 1) pa_nil) (pv 2))))) pss_nil)
    (pss_cons (ps_if (PW.pt (pw_and (pt_cmpR op_eq (pv 0) pe_str (nomark _)) (pw_and1 (pt_cmpR op_lt (pv 3) pe_int (nomark _))))) (pss_one (ps_ret (pe_ifExp (pt_cmpR op_eq (pv 3) pe_int (nomark _)) (pe_new2 T.cTooMany hr rfl pass0 (pa_cons (pv 1) (pa_cons (pv 2) pa_nil))) (pe_new2k T.cTooMany hr rfl pass0 (pv 1) (pv 2))))) pss_nil)
    (pss_cons (ps_if (pt_cmpR op_eq (pv 0) pe_str (nomark _)) (pss_one (ps_ret (pe_ifExp (pt_cmpR op_eq (pv 3) pe_int (nomark _)) (pe_new2r T.cTooMany hr rfl pass0 (pv 1) (pv 2)) (pe_new2m T.cTooMany hr rfl pass0 (pa_cons (pv 1) pa_nil) (pv 2))))) pss_nil)
    (pss_cons (ps_if (PW.pt (pw_and (pt_cmpR op_eq (pv 0) pe_str (nomark _)) (pw_and1 (pt_cmpR op_lt (pv 3) pe_int (nomark _))))) (pss_one (ps_ret (pe_ifExp (pt_cmpR op_eq (pv 3) pe_int (nomark _)) (pe_new2 T.cCantAnswer hr rfl pass0 (pa_cons (pv 1) (pa_cons (pv 2) pa_nil))) (pe_new2k T.cCantAnswer hr rfl pass0 (pv 1) (pv 2))))) pss_nil)
    (pss_cons (ps_if (pt_cmpR op_eq (pv 0) pe_str (nomark _)) (pss_one (ps_ret (pe_ifExp (pt_cmpR op_eq (pv 3) pe_int (nomark _)) (pe_new2r T.cCantAnswer hr rfl pass0 (pv 1) (pv 2)) (pe_new2m T.cCantAnswer hr rfl pass0 (pa_cons (pv 1) pa_nil) (pv 2))))) pss_nil)
    (pss_one (ps_ret pe_non)))))))))))), ?_⟩
  simp only [two, List.mem_cons, List.not_mem_nil, or_false, Prod.mk.injEq] at hm
  rcases hm with ⟨rfl, rfl⟩ | ⟨rfl, rfl⟩ | ⟨rfl, rfl⟩ | ⟨rfl, rfl⟩ | ⟨rfl, rfl⟩
  · refine ⟨_, rfl, rfl, _, rfl, iteY (by decide +kernel) ⟨_, rfl, _, _, rfl, rfl, _, rfl, ?_⟩⟩
    refine ite2 (fun c => ?_) (fun c => ?_)
    · refine ⟨_, rfl, rfl, _, rfl, ite2 (fun c2 => ?_) (fun c2 => ?_)⟩
      · exact ⟨_, rfl, _, rfl, rfl, rfl, err_sp q⟩
      · exact ⟨_, rfl, _, rfl, rfl, rfl, err_sp q⟩
    · refine ⟨_, rfl, rfl, _, rfl, iteY (by decide +kernel) ⟨_, rfl, rfl, _, rfl, ite2 (fun c2 => ?_) (fun c2 => ?_)⟩⟩
      · exact ⟨_, rfl, _, rfl, rfl, rfl, err_sp q⟩
      · exact ⟨_, rfl, _, rfl, rfl, rfl, err_sp q⟩
  · refine ⟨_, rfl, rfl, _, rfl, iteN (by decide +kernel) (iteF ⟨_, rfl, rfl, _, rfl, iteN (by decide +kernel) ?_⟩)⟩
    refine ⟨_, rfl, rfl, _, rfl, iteY (by decide +kernel) ⟨_, rfl, _, _, rfl, rfl, _, rfl, ?_⟩⟩
    refine ite2 (fun c => ?_) (fun c => ?_)
    · refine ⟨_, rfl, rfl, _, rfl, ite2 (fun c2 => ?_) (fun c2 => ?_)⟩
      · exact ⟨_, rfl, _, rfl, rfl, rfl, err_sp q⟩
      · exact ⟨_, rfl, _, rfl, rfl, rfl, err_sp q⟩
    · refine ⟨_, rfl, rfl, _, rfl, iteY (by decide +kernel) ⟨_, rfl, rfl, _, rfl, ite2 (fun c2 => ?_) (fun c2 => ?_)⟩⟩
      · exact ⟨_, rfl, _, rfl, rfl, rfl, err_sp q⟩
      · exact ⟨_, rfl, _, rfl, rfl, rfl, err_sp q⟩
  · refine ⟨_, rfl, rfl, _, rfl, iteN (by decide +kernel) (iteF ⟨_, rfl, rfl, _, rfl, iteN (by decide +kernel) ?_⟩)⟩
    refine ⟨_, rfl, rfl, _, rfl, iteN (by decide +kernel) (iteF ⟨_, rfl, rfl, _, rfl, iteN (by decide +kernel) ?_⟩)⟩
    refine ⟨_, rfl, rfl, _, rfl, iteY (by decide +kernel) ⟨_, rfl, _, _, rfl, rfl, _, rfl, ?_⟩⟩
    refine ite2 (fun c => ?_) (fun c => ?_)
    · refine ⟨_, rfl, rfl, _, rfl, ite2 (fun c2 => ?_) (fun c2 => ?_)⟩
      · exact ⟨_, rfl, _, rfl, rfl, rfl, err_sp q⟩
      · exact ⟨_, rfl, _, rfl, rfl, rfl, err_sp q⟩
    · refine ⟨_, rfl, rfl, _, rfl, iteY (by decide +kernel) ⟨_, rfl, rfl, _, rfl, ite2 (fun c2 => ?_) (fun c2 => ?_)⟩⟩
      · exact ⟨_, rfl, _, rfl, rfl, rfl, err_sp q⟩
      · exact ⟨_, rfl, _, rfl, rfl, rfl, err_sp q⟩
  · refine ⟨_, rfl, rfl, _, rfl, iteN (by decide +kernel) (iteF ⟨_, rfl, rfl, _, rfl, iteN (by decide +kernel) ?_⟩)⟩
    refine ⟨_, rfl, rfl, _, rfl, iteN (by decide +kernel) (iteF ⟨_, rfl, rfl, _, rfl, iteN (by decide +kernel) ?_⟩)⟩
    refine ⟨_, rfl, rfl, _, rfl, iteN (by decide +kernel) (iteF ⟨_, rfl, rfl, _, rfl, iteN (by decide +kernel) ?_⟩)⟩
    refine ⟨_, rfl, rfl, _, rfl, iteY (by decide +kernel) ⟨_, rfl, _, _, rfl, rfl, _, rfl, ?_⟩⟩
    refine ite2 (fun c => ?_) (fun c => ?_)
    · refine ⟨_, rfl, rfl, _, rfl, ite2 (fun c2 => ?_) (fun c2 => ?_)⟩
      · exact ⟨_, rfl, _, rfl, rfl, rfl, err_sp q⟩
      · exact ⟨_, rfl, _, rfl, rfl, rfl, err_sp q⟩
    · refine ⟨_, rfl, rfl, _, rfl, iteY (by decide +kernel) ⟨_, rfl, rfl, _, rfl, ite2 (fun c2 => ?_) (fun c2 => ?_)⟩⟩
      · exact ⟨_, rfl, _, rfl, rfl, rfl, err_sp q⟩
      · exact ⟨_, rfl, _, rfl, rfl, rfl, err_sp q⟩
  · refine ⟨_, rfl, rfl, _, rfl, iteN (by decide +kernel) (iteF ⟨_, rfl, rfl, _, rfl, iteN (by decide +kernel) ?_⟩)⟩
    refine ⟨_, rfl, rfl, _, rfl, iteN (by decide +kernel) (iteF ⟨_, rfl, rfl, _, rfl, iteN (by decide +kernel) ?_⟩)⟩
    refine ⟨_, rfl, rfl, _, rfl, iteN (by decide +kernel) (iteF ⟨_, rfl, rfl, _, rfl, iteN (by decide +kernel) ?_⟩)⟩
    refine ⟨_, rfl, rfl, _, rfl, iteN (by decide +kernel) (iteF ⟨_, rfl, rfl, _, rfl, iteN (by decide +kernel) ?_⟩)⟩
    refine ⟨_, rfl, rfl, _, rfl, iteY (by decide +kernel) ⟨_, rfl, _, _, rfl, rfl, _, rfl, ?_⟩⟩
    refine ite2 (fun c => ?_) (fun c => ?_)
    · refine ⟨_, rfl, rfl, _, rfl, ite2 (fun c2 => ?_) (fun c2 => ?_)⟩
      · exact ⟨_, rfl, _, rfl, rfl, rfl, err_sp q⟩
      · exact ⟨_, rfl, _, rfl, rfl, rfl, err_sp q⟩
    · refine ⟨_, rfl, rfl, _, rfl, iteY (by decide +kernel) ⟨_, rfl, rfl, _, rfl, ite2 (fun c2 => ?_) (fun c2 => ?_)⟩⟩
      · exact ⟨_, rfl, _, rfl, rfl, rfl, err_sp q⟩
      · exact ⟨_, rfl, _, rfl, rfl, rfl, err_sp q⟩
end
end K0

set_option Elab.async false
set_option linter.all false
set_option maxRecDepth 100000
set_option maxHeartbeats 4000000
namespace Fb
open PySem PySem.Spec PyProof.Rows L2
theorem tErr.same {K : PySem.W.Frag} {C : Addr} {x : Str} {fl : List Str} {ys : List V} {H H' : Hp} {Q : VK} (h : tErr K C x fl ys H Q) (s : Same H H') : tErr K C x fl ys H' Q :=
  ⟨h.1, fun y hy => (h.2.1 y hy).same s, fun e H2 s2 he er => h.2.2 e H2 (s.trans s2) (s.free he) er⟩
end Fb
namespace K0
open PySem PySem.Spec PyProof.Rows L2 Fb
section
variable {P : Program} {w : World} {K : PySem.W.Frag} {mg : Str → Option Value} {base : Heap} {C : Str → Addr}
theorem scOne : FnScope ["pick", "a", "way"] ["pick", "a", "way"] (defScope sOne) := ⟨rfl, rfl, rfl, by decide +kernel, rfl, by decide +kernel, by decide +kernel⟩
theorem ok_one {f : Addr} {fd : FuncData} (F : Fun K "_law_one" "_law_one" sOne f fd) (T : Tab P w K mg base C) : FnOk P w K mg base CX0 3 f fd ["pick", "a", "way"] (spOne K C) := by
  refine F.ok scOne (fun vs H Q E h => ?_) (fun cdv A outer s H vs Q E hr h => ?_)
  · obtain ⟨x, fl, a, way, rfl, _⟩ := h
    rfl
  obtain ⟨x, fl, a, way, rfl, hm, q⟩ := h
  refine ⟨_, (pss_cons (ps_if (pt_cmpR op_eq (pv 0) pe_str (nomark _)) (pss_one (ps_ret (pe_ifExp (pt_cmpR op_lt (pv 2) pe_int (nomark _)) (pe_new1 T.cBadName hr rfl pass0 (pa_cons (pv 1) pa_nil)) (pe_new1k T.cBadName hr rfl pass0 (pv 1))))) pss_nil)
    (pss_cons (ps_if (pt_cmpR op_eq (pv 0) pe_str (nomark _)) (pss_one (ps_ret (pe_ifExp (pt_cmpR op_lt (pv 2) pe_int (nomark _)) (pe_new1 T.cBadLetters hr rfl pass0 (pa_cons (pv 1) pa_nil)) (pe_new1k T.cBadLetters hr rfl pass0 (pv 1))))) pss_nil)
    (pss_cons (ps_if (pt_cmpR op_eq (pv 0) pe_str (nomark _)) (pss_one (ps_ret (pe_ifExp (pt_cmpR op_lt (pv 2) pe_int (nomark _)) (pe_new1 T.cBadRun hr rfl pass0 (pa_cons (pv 1) pa_nil)) (pe_new1k T.cBadRun hr rfl pass0 (pv 1))))) pss_nil)
    (pss_cons (ps_if (pt_cmpR op_eq (pv 0) pe_str (nomark _)) (pss_one (ps_ret (pe_ifExp (pt_cmpR op_lt (pv 2) pe_int (nomark _)) (pe_new1 T.cBadColumn hr rfl pass0 (pa_cons (pv 1) pa_nil)) (pe_new1k T.cBadColumn hr rfl pass0 (pv 1))))) pss_nil)
    (pss_cons (ps_if (pt_cmpR op_eq (pv 0) pe_str (nomark _)) (pss_one (ps_ret (pe_ifExp (pt_cmpR op_lt (pv 2) pe_int (nomark _)) (pe_new1 T.cBadNumber hr rfl pass0 (pa_cons (pv 1) pa_nil)) (pe_new1k T.cBadNumber hr rfl pass0 (pv 1))))) pss_nil)
    (pss_cons (ps_if (pt_cmpR op_eq (pv 0) pe_str (nomark _)) (pss_one (ps_ret (pe_ifExp (pt_cmpR op_lt (pv 2) pe_int (nomark _)) (pe_new1 T.cBadTable hr rfl pass0 (pa_cons (pv 1) pa_nil)) (pe_new1k T.cBadTable hr rfl pass0 (pv 1))))) pss_nil)
    (pss_cons (ps_if (pt_cmpR op_eq (pv 0) pe_str (nomark _)) (pss_one (ps_ret (pe_ifExp (pt_cmpR op_lt (pv 2) pe_int (nomark _)) (pe_new1 T.cHeldTwice hr rfl pass0 (pa_cons (pv 1) pa_nil)) (pe_new1k T.cHeldTwice hr rfl pass0 (pv 1))))) pss_nil)
    (pss_cons (ps_if (pt_cmpR op_eq (pv 0) pe_str (nomark _)) (pss_one (ps_ret (pe_ifExp (pt_cmpR op_lt (pv 2) pe_int (nomark _)) (pe_new1 T.cBreaksBeside hr rfl pass0 (pa_cons (pv 1) pa_nil)) (pe_new1k T.cBreaksBeside hr rfl pass0 (pv 1))))) pss_nil)
    (pss_cons (ps_if (pt_cmpR op_eq (pv 0) pe_str (nomark _)) (pss_one (ps_ret (pe_ifExp (pt_cmpR op_lt (pv 2) pe_int (nomark _)) (pe_new1 T.cNotSo hr rfl pass0 (pa_cons (pv 1) pa_nil)) (pe_new1k T.cNotSo hr rfl pass0 (pv 1))))) pss_nil)
    (pss_cons (ps_if (pt_cmpR op_eq (pv 0) pe_str (nomark _)) (pss_one (ps_ret (pe_ifExp (pt_cmpR op_lt (pv 2) pe_int (nomark _)) (pe_new1 T.cNotEnough hr rfl pass0 (pa_cons (pv 1) pa_nil)) (pe_new1k T.cNotEnough hr rfl pass0 (pv 1))))) pss_nil)
    (pss_cons (ps_if (pt_cmpR op_eq (pv 0) pe_str (nomark _)) (pss_one (ps_ret (pe_ifExp (pt_cmpR op_lt (pv 2) pe_int (nomark _)) (pe_new1 T.cEndedRun hr rfl pass0 (pa_cons (pv 1) pa_nil)) (pe_new1k T.cEndedRun hr rfl pass0 (pv 1))))) pss_nil)
    (pss_cons (ps_if (pt_cmpR op_eq (pv 0) pe_str (nomark _)) (pss_one (ps_ret (pe_ifExp (pt_cmpR op_lt (pv 2) pe_int (nomark _)) (pe_new1 T.cUnknownPart hr rfl pass0 (pa_cons (pv 1) pa_nil)) (pe_new1k T.cUnknownPart hr rfl pass0 (pv 1))))) pss_nil)
    (pss_cons (ps_if (pt_cmpR op_eq (pv 0) pe_str (nomark _)) (pss_one (ps_ret (pe_ifExp (pt_cmpR op_lt (pv 2) pe_int (nomark _)) (pe_new1 T.cUnknownName hr rfl pass0 (pa_cons (pv 1) pa_nil)) (pe_new1k T.cUnknownName hr rfl pass0 (pv 1))))) pss_nil)
    (pss_cons (ps_if (pt_cmpR op_eq (pv 0) pe_str (nomark _)) (pss_one (ps_ret (pe_ifExp (pt_cmpR op_lt (pv 2) pe_int (nomark _)) (pe_new1 T.cUnknownRun hr rfl pass0 (pa_cons (pv 1) pa_nil)) (pe_new1k T.cUnknownRun hr rfl pass0 (pv 1))))) pss_nil)
    (pss_cons (ps_if (pt_cmpR op_eq (pv 0) pe_str (nomark _)) (pss_one (ps_ret (pe_ifExp (pt_cmpR op_lt (pv 2) pe_int (nomark _)) (pe_new1 T.cNotHeld hr rfl pass0 (pa_cons (pv 1) pa_nil)) (pe_new1k T.cNotHeld hr rfl pass0 (pv 1))))) pss_nil)
    (pss_one (ps_ret pe_non))))))))))))))))), ?_⟩
  simp only [one, List.mem_cons, List.not_mem_nil, or_false, Prod.mk.injEq] at hm
  rcases hm with ⟨rfl, rfl⟩ | ⟨rfl, rfl⟩ | ⟨rfl, rfl⟩ | ⟨rfl, rfl⟩ | ⟨rfl, rfl⟩ | ⟨rfl, rfl⟩ | ⟨rfl, rfl⟩ | ⟨rfl, rfl⟩ | ⟨rfl, rfl⟩ | ⟨rfl, rfl⟩ | ⟨rfl, rfl⟩ | ⟨rfl, rfl⟩ | ⟨rfl, rfl⟩ | ⟨rfl, rfl⟩ | ⟨rfl, rfl⟩
  · refine ⟨_, rfl, rfl, _, rfl, iteY (by decide +kernel) ⟨_, rfl, _, _, rfl, rfl, _, rfl, ite2 (fun c => ?_) (fun c => ?_)⟩⟩
    · exact ⟨_, rfl, rfl, rfl, err_sp q⟩
    · exact ⟨_, rfl, rfl, rfl, err_sp q⟩
  · refine ⟨_, rfl, rfl, _, rfl, iteN (by decide +kernel) ?_⟩
    refine ⟨_, rfl, rfl, _, rfl, iteY (by decide +kernel) ⟨_, rfl, _, _, rfl, rfl, _, rfl, ite2 (fun c => ?_) (fun c => ?_)⟩⟩
    · exact ⟨_, rfl, rfl, rfl, err_sp q⟩
    · exact ⟨_, rfl, rfl, rfl, err_sp q⟩
  · refine ⟨_, rfl, rfl, _, rfl, iteN (by decide +kernel) ?_⟩
    refine ⟨_, rfl, rfl, _, rfl, iteN (by decide +kernel) ?_⟩
    refine ⟨_, rfl, rfl, _, rfl, iteY (by decide +kernel) ⟨_, rfl, _, _, rfl, rfl, _, rfl, ite2 (fun c => ?_) (fun c => ?_)⟩⟩
    · exact ⟨_, rfl, rfl, rfl, err_sp q⟩
    · exact ⟨_, rfl, rfl, rfl, err_sp q⟩
  · refine ⟨_, rfl, rfl, _, rfl, iteN (by decide +kernel) ?_⟩
    refine ⟨_, rfl, rfl, _, rfl, iteN (by decide +kernel) ?_⟩
    refine ⟨_, rfl, rfl, _, rfl, iteN (by decide +kernel) ?_⟩
    refine ⟨_, rfl, rfl, _, rfl, iteY (by decide +kernel) ⟨_, rfl, _, _, rfl, rfl, _, rfl, ite2 (fun c => ?_) (fun c => ?_)⟩⟩
    · exact ⟨_, rfl, rfl, rfl, err_sp q⟩
    · exact ⟨_, rfl, rfl, rfl, err_sp q⟩
  · refine ⟨_, rfl, rfl, _, rfl, iteN (by decide +kernel) ?_⟩
    refine ⟨_, rfl, rfl, _, rfl, iteN (by decide +kernel) ?_⟩
    refine ⟨_, rfl, rfl, _, rfl, iteN (by decide +kernel) ?_⟩
    refine ⟨_, rfl, rfl, _, rfl, iteN (by decide +kernel) ?_⟩
    refine ⟨_, rfl, rfl, _, rfl, iteY (by decide +kernel) ⟨_, rfl, _, _, rfl, rfl, _, rfl, ite2 (fun c => ?_) (fun c => ?_)⟩⟩
    · exact ⟨_, rfl, rfl, rfl, err_sp q⟩
    · exact ⟨_, rfl, rfl, rfl, err_sp q⟩
  · refine ⟨_, rfl, rfl, _, rfl, iteN (by decide +kernel) ?_⟩
    refine ⟨_, rfl, rfl, _, rfl, iteN (by decide +kernel) ?_⟩
    refine ⟨_, rfl, rfl, _, rfl, iteN (by decide +kernel) ?_⟩
    refine ⟨_, rfl, rfl, _, rfl, iteN (by decide +kernel) ?_⟩
    refine ⟨_, rfl, rfl, _, rfl, iteN (by decide +kernel) ?_⟩
    refine ⟨_, rfl, rfl, _, rfl, iteY (by decide +kernel) ⟨_, rfl, _, _, rfl, rfl, _, rfl, ite2 (fun c => ?_) (fun c => ?_)⟩⟩
    · exact ⟨_, rfl, rfl, rfl, err_sp q⟩
    · exact ⟨_, rfl, rfl, rfl, err_sp q⟩
  · refine ⟨_, rfl, rfl, _, rfl, iteN (by decide +kernel) ?_⟩
    refine ⟨_, rfl, rfl, _, rfl, iteN (by decide +kernel) ?_⟩
    refine ⟨_, rfl, rfl, _, rfl, iteN (by decide +kernel) ?_⟩
    refine ⟨_, rfl, rfl, _, rfl, iteN (by decide +kernel) ?_⟩
    refine ⟨_, rfl, rfl, _, rfl, iteN (by decide +kernel) ?_⟩
    refine ⟨_, rfl, rfl, _, rfl, iteN (by decide +kernel) ?_⟩
    refine ⟨_, rfl, rfl, _, rfl, iteY (by decide +kernel) ⟨_, rfl, _, _, rfl, rfl, _, rfl, ite2 (fun c => ?_) (fun c => ?_)⟩⟩
    · exact ⟨_, rfl, rfl, rfl, err_sp q⟩
    · exact ⟨_, rfl, rfl, rfl, err_sp q⟩
  · refine ⟨_, rfl, rfl, _, rfl, iteN (by decide +kernel) ?_⟩
    refine ⟨_, rfl, rfl, _, rfl, iteN (by decide +kernel) ?_⟩
    refine ⟨_, rfl, rfl, _, rfl, iteN (by decide +kernel) ?_⟩
    refine ⟨_, rfl, rfl, _, rfl, iteN (by decide +kernel) ?_⟩
    refine ⟨_, rfl, rfl, _, rfl, iteN (by decide +kernel) ?_⟩
    refine ⟨_, rfl, rfl, _, rfl, iteN (by decide +kernel) ?_⟩
    refine ⟨_, rfl, rfl, _, rfl, iteN (by decide +kernel) ?_⟩
    refine ⟨_, rfl, rfl, _, rfl, iteY (by decide +kernel) ⟨_, rfl, _, _, rfl, rfl, _, rfl, ite2 (fun c => ?_) (fun c => ?_)⟩⟩
    · exact ⟨_, rfl, rfl, rfl, err_sp q⟩
    · exact ⟨_, rfl, rfl, rfl, err_sp q⟩
  · refine ⟨_, rfl, rfl, _, rfl, iteN (by decide +kernel) ?_⟩
    refine ⟨_, rfl, rfl, _, rfl, iteN (by decide +kernel) ?_⟩
    refine ⟨_, rfl, rfl, _, rfl, iteN (by decide +kernel) ?_⟩
    refine ⟨_, rfl, rfl, _, rfl, iteN (by decide +kernel) ?_⟩
    refine ⟨_, rfl, rfl, _, rfl, iteN (by decide +kernel) ?_⟩
    refine ⟨_, rfl, rfl, _, rfl, iteN (by decide +kernel) ?_⟩
    refine ⟨_, rfl, rfl, _, rfl, iteN (by decide +kernel) ?_⟩
    refine ⟨_, rfl, rfl, _, rfl, iteN (by decide +kernel) ?_⟩
    refine ⟨_, rfl, rfl, _, rfl, iteY (by decide +kernel) ⟨_, rfl, _, _, rfl, rfl, _, rfl, ite2 (fun c => ?_) (fun c => ?_)⟩⟩
    · exact ⟨_, rfl, rfl, rfl, err_sp q⟩
    · exact ⟨_, rfl, rfl, rfl, err_sp q⟩
  · refine ⟨_, rfl, rfl, _, rfl, iteN (by decide +kernel) ?_⟩
    refine ⟨_, rfl, rfl, _, rfl, iteN (by decide +kernel) ?_⟩
    refine ⟨_, rfl, rfl, _, rfl, iteN (by decide +kernel) ?_⟩
    refine ⟨_, rfl, rfl, _, rfl, iteN (by decide +kernel) ?_⟩
    refine ⟨_, rfl, rfl, _, rfl, iteN (by decide +kernel) ?_⟩
    refine ⟨_, rfl, rfl, _, rfl, iteN (by decide +kernel) ?_⟩
    refine ⟨_, rfl, rfl, _, rfl, iteN (by decide +kernel) ?_⟩
    refine ⟨_, rfl, rfl, _, rfl, iteN (by decide +kernel) ?_⟩
    refine ⟨_, rfl, rfl, _, rfl, iteN (by decide +kernel) ?_⟩
    refine ⟨_, rfl, rfl, _, rfl, iteY (by decide +kernel) ⟨_, rfl, _, _, rfl, rfl, _, rfl, ite2 (fun c => ?_) (fun c => ?_)⟩⟩
    · exact ⟨_, rfl, rfl, rfl, err_sp q⟩
    · exact ⟨_, rfl, rfl, rfl, err_sp q⟩
  · refine ⟨_, rfl, rfl, _, rfl, iteN (by decide +kernel) ?_⟩
    refine ⟨_, rfl, rfl, _, rfl, iteN (by decide +kernel) ?_⟩
    refine ⟨_, rfl, rfl, _, rfl, iteN (by decide +kernel) ?_⟩
    refine ⟨_, rfl, rfl, _, rfl, iteN (by decide +kernel) ?_⟩
    refine ⟨_, rfl, rfl, _, rfl, iteN (by decide +kernel) ?_⟩
    refine ⟨_, rfl, rfl, _, rfl, iteN (by decide +kernel) ?_⟩
    refine ⟨_, rfl, rfl, _, rfl, iteN (by decide +kernel) ?_⟩
    refine ⟨_, rfl, rfl, _, rfl, iteN (by decide +kernel) ?_⟩
    refine ⟨_, rfl, rfl, _, rfl, iteN (by decide +kernel) ?_⟩
    refine ⟨_, rfl, rfl, _, rfl, iteN (by decide +kernel) ?_⟩
    refine ⟨_, rfl, rfl, _, rfl, iteY (by decide +kernel) ⟨_, rfl, _, _, rfl, rfl, _, rfl, ite2 (fun c => ?_) (fun c => ?_)⟩⟩
    · exact ⟨_, rfl, rfl, rfl, err_sp q⟩
    · exact ⟨_, rfl, rfl, rfl, err_sp q⟩
  · refine ⟨_, rfl, rfl, _, rfl, iteN (by decide +kernel) ?_⟩
    refine ⟨_, rfl, rfl, _, rfl, iteN (by decide +kernel) ?_⟩
    refine ⟨_, rfl, rfl, _, rfl, iteN (by decide +kernel) ?_⟩
    refine ⟨_, rfl, rfl, _, rfl, iteN (by decide +kernel) ?_⟩
    refine ⟨_, rfl, rfl, _, rfl, iteN (by decide +kernel) ?_⟩
    refine ⟨_, rfl, rfl, _, rfl, iteN (by decide +kernel) ?_⟩
    refine ⟨_, rfl, rfl, _, rfl, iteN (by decide +kernel) ?_⟩
    refine ⟨_, rfl, rfl, _, rfl, iteN (by decide +kernel) ?_⟩
    refine ⟨_, rfl, rfl, _, rfl, iteN (by decide +kernel) ?_⟩
    refine ⟨_, rfl, rfl, _, rfl, iteN (by decide +kernel) ?_⟩
    refine ⟨_, rfl, rfl, _, rfl, iteN (by decide +kernel) ?_⟩
    refine ⟨_, rfl, rfl, _, rfl, iteY (by decide +kernel) ⟨_, rfl, _, _, rfl, rfl, _, rfl, ite2 (fun c => ?_) (fun c => ?_)⟩⟩
    · exact ⟨_, rfl, rfl, rfl, err_sp q⟩
    · exact ⟨_, rfl, rfl, rfl, err_sp q⟩
  · refine ⟨_, rfl, rfl, _, rfl, iteN (by decide +kernel) ?_⟩
    refine ⟨_, rfl, rfl, _, rfl, iteN (by decide +kernel) ?_⟩
    refine ⟨_, rfl, rfl, _, rfl, iteN (by decide +kernel) ?_⟩
    refine ⟨_, rfl, rfl, _, rfl, iteN (by decide +kernel) ?_⟩
    refine ⟨_, rfl, rfl, _, rfl, iteN (by decide +kernel) ?_⟩
    refine ⟨_, rfl, rfl, _, rfl, iteN (by decide +kernel) ?_⟩
    refine ⟨_, rfl, rfl, _, rfl, iteN (by decide +kernel) ?_⟩
    refine ⟨_, rfl, rfl, _, rfl, iteN (by decide +kernel) ?_⟩
    refine ⟨_, rfl, rfl, _, rfl, iteN (by decide +kernel) ?_⟩
    refine ⟨_, rfl, rfl, _, rfl, iteN (by decide +kernel) ?_⟩
    refine ⟨_, rfl, rfl, _, rfl, iteN (by decide +kernel) ?_⟩
    refine ⟨_, rfl, rfl, _, rfl, iteN (by decide +kernel) ?_⟩
    refine ⟨_, rfl, rfl, _, rfl, iteY (by decide +kernel) ⟨_, rfl, _, _, rfl, rfl, _, rfl, ite2 (fun c => ?_) (fun c => ?_)⟩⟩
    · exact ⟨_, rfl, rfl, rfl, err_sp q⟩
    · exact ⟨_, rfl, rfl, rfl, err_sp q⟩
  · refine ⟨_, rfl, rfl, _, rfl, iteN (by decide +kernel) ?_⟩
    refine ⟨_, rfl, rfl, _, rfl, iteN (by decide +kernel) ?_⟩
    refine ⟨_, rfl, rfl, _, rfl, iteN (by decide +kernel) ?_⟩
    refine ⟨_, rfl, rfl, _, rfl, iteN (by decide +kernel) ?_⟩
    refine ⟨_, rfl, rfl, _, rfl, iteN (by decide +kernel) ?_⟩
    refine ⟨_, rfl, rfl, _, rfl, iteN (by decide +kernel) ?_⟩
    refine ⟨_, rfl, rfl, _, rfl, iteN (by decide +kernel) ?_⟩
    refine ⟨_, rfl, rfl, _, rfl, iteN (by decide +kernel) ?_⟩
    refine ⟨_, rfl, rfl, _, rfl, iteN (by decide +kernel) ?_⟩
    refine ⟨_, rfl, rfl, _, rfl, iteN (by decide +kernel) ?_⟩
    refine ⟨_, rfl, rfl, _, rfl, iteN (by decide +kernel) ?_⟩
    refine ⟨_, rfl, rfl, _, rfl, iteN (by decide +kernel) ?_⟩
    refine ⟨_, rfl, rfl, _, rfl, iteN (by decide +kernel) ?_⟩
    refine ⟨_, rfl, rfl, _, rfl, iteY (by decide +kernel) ⟨_, rfl, _, _, rfl, rfl, _, rfl, ite2 (fun c => ?_) (fun c => ?_)⟩⟩
    · exact ⟨_, rfl, rfl, rfl, err_sp q⟩
    · exact ⟨_, rfl, rfl, rfl, err_sp q⟩
  · refine ⟨_, rfl, rfl, _, rfl, iteN (by decide +kernel) ?_⟩
    refine ⟨_, rfl, rfl, _, rfl, iteN (by decide +kernel) ?_⟩
    refine ⟨_, rfl, rfl, _, rfl, iteN (by decide +kernel) ?_⟩
    refine ⟨_, rfl, rfl, _, rfl, iteN (by decide +kernel) ?_⟩
    refine ⟨_, rfl, rfl, _, rfl, iteN (by decide +kernel) ?_⟩
    refine ⟨_, rfl, rfl, _, rfl, iteN (by decide +kernel) ?_⟩
    refine ⟨_, rfl, rfl, _, rfl, iteN (by decide +kernel) ?_⟩
    refine ⟨_, rfl, rfl, _, rfl, iteN (by decide +kernel) ?_⟩
    refine ⟨_, rfl, rfl, _, rfl, iteN (by decide +kernel) ?_⟩
    refine ⟨_, rfl, rfl, _, rfl, iteN (by decide +kernel) ?_⟩
    refine ⟨_, rfl, rfl, _, rfl, iteN (by decide +kernel) ?_⟩
    refine ⟨_, rfl, rfl, _, rfl, iteN (by decide +kernel) ?_⟩
    refine ⟨_, rfl, rfl, _, rfl, iteN (by decide +kernel) ?_⟩
    refine ⟨_, rfl, rfl, _, rfl, iteN (by decide +kernel) ?_⟩
    refine ⟨_, rfl, rfl, _, rfl, iteY (by decide +kernel) ⟨_, rfl, _, _, rfl, rfl, _, rfl, ite2 (fun c => ?_) (fun c => ?_)⟩⟩
    · exact ⟨_, rfl, rfl, rfl, err_sp q⟩
    · exact ⟨_, rfl, rfl, rfl, err_sp q⟩
theorem scMade : FnScope ["pick", "a", "b", "way"] ["pick", "a", "b", "way"] (defScope sMade) := ⟨rfl, rfl, rfl, by decide +kernel, rfl, by decide +kernel, by decide +kernel⟩
theorem ok_made {f : Addr} {fd : FuncData} (F : Fun K "_law_made" "_law_made" sMade f fd) (T : Tab P w K mg base C) (R2 : RD P w K mg base 3 "_law_two" ["pick", "a", "b", "way"] (spTwo K C)) (R1 : RD P w K mg base 3 "_law_one" ["pick", "a", "way"] (spOne K C)) :
    FnOk P w K mg base CX0 4 f fd ["pick", "a", "b", "way"] (spMade K C) := by
  refine F.ok scMade (fun vs H Q E h => ?_) (fun cdv A outer s H vs Q E hr h => ?_)
  · obtain ⟨x, fl, a, b, way, rfl, _⟩ := h
    rfl
  obtain ⟨x, fl, a, b, way, rfl, hm, q⟩ := h
  have hr2 := hr.mono (by decide : 2 ≤ 3)
  refine ⟨_, (pss_cons (ps_if (pt_cmpR op_in_seq (pv 0) (pe_tup (pa_cons pe_str (pa_cons pe_str (pa_cons pe_str (pa_cons pe_str (pa_cons pe_str pa_nil)))))) rfl) (pss_one (ps_ret (pe_rd R2 hr rfl pass0 (pa_cons (pv 0) (pa_cons (pv 1) (pa_cons (pv 2) (pa_cons (pv 3) pa_nil))))))) pss_nil)
    (pss_cons (ps_if (pt_cmpR op_eq (pv 0) pe_str (nomark _)) (pss_one (ps_ret (pe_new0 T.cBadDeed hr2 rfl pass0))) pss_nil)
    (pss_cons (ps_if (pt_cmpR op_eq (pv 0) pe_str (nomark _)) (pss_one (ps_ret (pe_new0 T.cNoDraft hr2 rfl pass0))) pss_nil)
    (pss_cons (ps_if (pt_cmpR op_eq (pv 0) pe_str (nomark _)) (pss_one (ps_ret (pe_new0 T.cInDraft hr2 rfl pass0))) pss_nil)
    (pss_cons (ps_if (pt_cmpR op_eq (pv 0) pe_str (nomark _)) (pss_one (ps_ret (pe_new0 T.cNothingLeft hr2 rfl pass0))) pss_nil)
    (pss_one (ps_ret (pe_rd R1 hr rfl pass0 (pa_cons (pv 0) (pa_cons (pv 1) (pa_cons (pv 3) pa_nil))))))))))), ?_⟩
  have s1 : ∀ {t : Addr} {o : HO}, H t = none → Same H (upd H t o) := fun ht => same_new ht _
  rcases List.mem_append.mp hm with h2 | h2
  · have hl : fl.length = 2 ∧ inV (.str x) [.str "BadText", .str "UnlikeParts", .str "UnlikeTapes", .str "TooMany", .str "CantAnswer"] = true := by
      simp only [two, List.mem_cons, List.not_mem_nil, or_false, Prod.mk.injEq] at h2
      rcases h2 with ⟨rfl, rfl⟩ | ⟨rfl, rfl⟩ | ⟨rfl, rfl⟩ | ⟨rfl, rfl⟩ | ⟨rfl, rfl⟩ <;> exact ⟨rfl, by decide +kernel⟩
    refine ⟨_, rfl, (by show 5 ≤ sizeLine; decide), fun t ht => ⟨t, _, rfl, .inr (SqT.of upd_same), rfl, (by decide), _, rfl, iteY hl.2 ?_⟩⟩
    rw [hl.1] at q
    exact ⟨_, rfl, _, rfl, _, rfl, _, rfl, x, fl, a, b, way, rfl, h2, q.same (s1 ht)⟩
  rcases List.mem_append.mp h2 with h1 | h0
  · have hl : fl.length = 1 ∧ inV (.str x) [.str "BadText", .str "UnlikeParts", .str "UnlikeTapes", .str "TooMany", .str "CantAnswer"] = false ∧ decide (V.str x = V.str "BadDeed") = false ∧ decide (V.str x = V.str "NoDraft") = false ∧ decide (V.str x = V.str "InDraft") = false ∧ decide (V.str x = V.str "NothingLeft") = false := by
      simp only [one, List.mem_cons, List.not_mem_nil, or_false, Prod.mk.injEq] at h1
      rcases h1 with ⟨rfl, rfl⟩ | ⟨rfl, rfl⟩ | ⟨rfl, rfl⟩ | ⟨rfl, rfl⟩ | ⟨rfl, rfl⟩ | ⟨rfl, rfl⟩ | ⟨rfl, rfl⟩ | ⟨rfl, rfl⟩ | ⟨rfl, rfl⟩ | ⟨rfl, rfl⟩ | ⟨rfl, rfl⟩ | ⟨rfl, rfl⟩ | ⟨rfl, rfl⟩ | ⟨rfl, rfl⟩ | ⟨rfl, rfl⟩ <;> exact ⟨rfl, by decide +kernel, by decide +kernel, by decide +kernel, by decide +kernel, by decide +kernel⟩
    refine ⟨_, rfl, (by show 5 ≤ sizeLine; decide), fun t ht => ⟨t, _, rfl, .inr (SqT.of upd_same), rfl, (by decide), _, rfl, iteN hl.2.1 ?_⟩⟩
    rw [hl.1] at q
    refine ⟨_, rfl, rfl, _, rfl, iteN hl.2.2.1 ⟨_, rfl, rfl, _, rfl, iteN hl.2.2.2.1 ⟨_, rfl, rfl, _, rfl, iteN hl.2.2.2.2.1 ⟨_, rfl, rfl, _, rfl, iteN hl.2.2.2.2.2 ?_⟩⟩⟩⟩
    exact ⟨_, rfl, _, rfl, _, rfl, x, fl, a, way, rfl, h1, q.same (s1 ht)⟩
  · simp only [zero, List.mem_cons, List.not_mem_nil, or_false, Prod.mk.injEq] at h0
    rcases h0 with ⟨rfl, rfl⟩ | ⟨rfl, rfl⟩ | ⟨rfl, rfl⟩ | ⟨rfl, rfl⟩
    · refine ⟨_, rfl, (by show 5 ≤ sizeLine; decide), fun t ht => ⟨t, _, rfl, .inr (SqT.of upd_same), rfl, (by decide), _, rfl, iteN (by decide +kernel) ?_⟩⟩
      exact ⟨_, rfl, rfl, _, rfl, iteY (by decide +kernel) ⟨rfl, rfl, err_sp (q.same (s1 ht))⟩⟩
    · refine ⟨_, rfl, (by show 5 ≤ sizeLine; decide), fun t ht => ⟨t, _, rfl, .inr (SqT.of upd_same), rfl, (by decide), _, rfl, iteN (by decide +kernel) ?_⟩⟩
      refine ⟨_, rfl, rfl, _, rfl, iteN (by decide +kernel) ?_⟩
      exact ⟨_, rfl, rfl, _, rfl, iteY (by decide +kernel) ⟨rfl, rfl, err_sp (q.same (s1 ht))⟩⟩
    · refine ⟨_, rfl, (by show 5 ≤ sizeLine; decide), fun t ht => ⟨t, _, rfl, .inr (SqT.of upd_same), rfl, (by decide), _, rfl, iteN (by decide +kernel) ?_⟩⟩
      refine ⟨_, rfl, rfl, _, rfl, iteN (by decide +kernel) ?_⟩
      refine ⟨_, rfl, rfl, _, rfl, iteN (by decide +kernel) ?_⟩
      exact ⟨_, rfl, rfl, _, rfl, iteY (by decide +kernel) ⟨rfl, rfl, err_sp (q.same (s1 ht))⟩⟩
    · refine ⟨_, rfl, (by show 5 ≤ sizeLine; decide), fun t ht => ⟨t, _, rfl, .inr (SqT.of upd_same), rfl, (by decide), _, rfl, iteN (by decide +kernel) ?_⟩⟩
      refine ⟨_, rfl, rfl, _, rfl, iteN (by decide +kernel) ?_⟩
      refine ⟨_, rfl, rfl, _, rfl, iteN (by decide +kernel) ?_⟩
      refine ⟨_, rfl, rfl, _, rfl, iteN (by decide +kernel) ?_⟩
      exact ⟨_, rfl, rfl, _, rfl, iteY (by decide +kernel) ⟨rfl, rfl, err_sp (q.same (s1 ht))⟩⟩
end
end K0

set_option Elab.async false
set_option linter.all false
set_option maxRecDepth 100000
set_option maxHeartbeats 4000000
namespace K0
open PySem PySem.Spec PyProof.Rows L2 Fb
abbrev sValues : Stmt := top 35
def spValues (K : PySem.W.Frag) (C : Str → Addr) : Sp := fun vs H Q _ => ∃ (x : Str) (fl : List Str) (e : Addr) (ys : List V), vs = [.str x, .ref e] ∧ (x, fl) ∈ tbl ∧ ys.length = fl.length ∧ Err H e (C x) (flds x fl ys) ∧ ∀ (l : Addr) (H' : Hp), Same H H' → H l = none → H' l = some (.lst (.str x :: ys)) → Q (.ref l) H'
section
variable {P : Program} {w : World} {K : PySem.W.Frag} {mg : Str → Option Value} {base : Heap} {C : Str → Addr}
theorem scValues : FnScope ["pick", "error", "code"] ["pick", "error"] (defScope sValues) := ⟨rfl, rfl, rfl, by decide +kernel, rfl, by decide +kernel, by decide +kernel⟩
theorem ok_values {f : Addr} {fd : FuncData} (F : Fun K "_law_values" "_law_values" sValues f fd) (T : Tab P w K mg base C) : FnW P w K mg base CX0 1 f fd ["pick", "error"] (spValues K C) := by
  refine okW F scValues (fun vs H Q E h => ?_) (fun cdv A outer s H vs Q E hr h => ?_)
  · obtain ⟨x, fl, e, ys, rfl, _⟩ := h
    rfl
  obtain ⟨x, fl, e, ys, rfl, hm, hl, er, q⟩ := h
  refine ⟨_, (pss_cons (ps_set (i := 2) scValues.nd rfl (Or.inl rfl) (pe_lst (pa_cons (pe_ef (pv 1)) pa_nil)))
    (pss_cons (ps_if (pt_cmpR op_eq (pv 0) pe_str (nomark _)) (pss_one (ps_ret (pe_op op_cat (pv 2) (pe_lst (pa_cons (pe_ef (pv 1)) (pa_cons (pe_ef (pv 1)) pa_nil)))))) pss_nil)
    (pss_cons (ps_if (pt_cmpR op_eq (pv 0) pe_str (nomark _)) (pss_one (ps_ret (pe_op op_cat (pv 2) (pe_lst (pa_cons (pe_ef (pv 1)) (pa_cons (pe_ef (pv 1)) pa_nil)))))) pss_nil)
    (pss_cons (ps_if (pt_cmpR op_eq (pv 0) pe_str (nomark _)) (pss_one (ps_ret (pe_op op_cat (pv 2) (pe_lst (pa_cons (pe_ef (pv 1)) (pa_cons (pe_ef (pv 1)) pa_nil)))))) pss_nil)
    (pss_cons (ps_if (pt_cmpR op_eq (pv 0) pe_str (nomark _)) (pss_one (ps_ret (pe_op op_cat (pv 2) (pe_lst (pa_cons (pe_ef (pv 1)) (pa_cons (pe_ef (pv 1)) pa_nil)))))) pss_nil)
    (pss_cons (ps_if (pt_cmpR op_eq (pv 0) pe_str (nomark _)) (pss_one (ps_ret (pe_op op_cat (pv 2) (pe_lst (pa_cons (pe_ef (pv 1)) (pa_cons (pe_ef (pv 1)) pa_nil)))))) pss_nil)
    (pss_cons (ps_if (pt_cmpR op_eq (pv 0) pe_str (nomark _)) (pss_one (ps_ret (pe_op op_cat (pv 2) (pe_lst (pa_cons (pe_ef (pv 1)) pa_nil))))) pss_nil)
    (pss_cons (ps_if (pt_cmpR op_eq (pv 0) pe_str (nomark _)) (pss_one (ps_ret (pe_op op_cat (pv 2) (pe_lst (pa_cons (pe_ef (pv 1)) pa_nil))))) pss_nil)
    (pss_cons (ps_if (pt_cmpR op_eq (pv 0) pe_str (nomark _)) (pss_one (ps_ret (pe_op op_cat (pv 2) (pe_lst (pa_cons (pe_ef (pv 1)) pa_nil))))) pss_nil)
    (pss_cons (ps_if (pt_cmpR op_eq (pv 0) pe_str (nomark _)) (pss_one (ps_ret (pe_op op_cat (pv 2) (pe_lst (pa_cons (pe_ef (pv 1)) pa_nil))))) pss_nil)
    (pss_cons (ps_if (pt_cmpR op_eq (pv 0) pe_str (nomark _)) (pss_one (ps_ret (pe_op op_cat (pv 2) (pe_lst (pa_cons (pe_ef (pv 1)) pa_nil))))) pss_nil)
    (pss_cons (ps_if (pt_cmpR op_eq (pv 0) pe_str (nomark _)) (pss_one (ps_ret (pe_op op_cat (pv 2) (pe_lst (pa_cons (pe_ef (pv 1)) pa_nil))))) pss_nil)
    (pss_cons (ps_if (pt_cmpR op_eq (pv 0) pe_str (nomark _)) (pss_one (ps_ret (pe_op op_cat (pv 2) (pe_lst (pa_cons (pe_ef (pv 1)) pa_nil))))) pss_nil)
    (pss_cons (ps_if (pt_cmpR op_eq (pv 0) pe_str (nomark _)) (pss_one (ps_ret (pe_op op_cat (pv 2) (pe_lst (pa_cons (pe_ef (pv 1)) pa_nil))))) pss_nil)
    (pss_cons (ps_if (pt_cmpR op_eq (pv 0) pe_str (nomark _)) (pss_one (ps_ret (pe_op op_cat (pv 2) (pe_lst (pa_cons (pe_ef (pv 1)) pa_nil))))) pss_nil)
    (pss_cons (ps_if (pt_cmpR op_eq (pv 0) pe_str (nomark _)) (pss_one (ps_ret (pe_op op_cat (pv 2) (pe_lst (pa_cons (pe_ef (pv 1)) pa_nil))))) pss_nil)
    (pss_cons (ps_if (pt_cmpR op_eq (pv 0) pe_str (nomark _)) (pss_one (ps_ret (pe_op op_cat (pv 2) (pe_lst (pa_cons (pe_ef (pv 1)) pa_nil))))) pss_nil)
    (pss_cons (ps_if (pt_cmpR op_eq (pv 0) pe_str (nomark _)) (pss_one (ps_ret (pe_op op_cat (pv 2) (pe_lst (pa_cons (pe_ef (pv 1)) pa_nil))))) pss_nil)
    (pss_cons (ps_if (pt_cmpR op_eq (pv 0) pe_str (nomark _)) (pss_one (ps_ret (pe_op op_cat (pv 2) (pe_lst (pa_cons (pe_ef (pv 1)) pa_nil))))) pss_nil)
    (pss_cons (ps_if (pt_cmpR op_eq (pv 0) pe_str (nomark _)) (pss_one (ps_ret (pe_op op_cat (pv 2) (pe_lst (pa_cons (pe_ef (pv 1)) pa_nil))))) pss_nil)
    (pss_cons (ps_if (pt_cmpR op_eq (pv 0) pe_str (nomark _)) (pss_one (ps_ret (pe_op op_cat (pv 2) (pe_lst (pa_cons (pe_ef (pv 1)) pa_nil))))) pss_nil)
    (pss_one (ps_ret (pv 2)))))))))))))))))))))))), ?_⟩
  have T0 := T.all x fl hm
  have ec := T0.ec
  refine ⟨_, rfl, e, C x, flds x fl ys, .str x, rfl, er, ec, T0.no.1, rfl, (by show 1 ≤ sizeLine; decide), fun p hp => ?_⟩
  have s1 : Same H (upd H p (.lst [.str x])) := same_new hp _
  have er1 := er.same s1
  have hp1 : upd H p (.lst [.str x]) p = some (.lst [.str x]) := upd_same
  generalize upd H p (.lst [.str x]) = H1 at s1 er1 hp1
  simp only [tbl, two, one, zero, List.cons_append, List.nil_append, List.mem_cons, List.not_mem_nil, or_false, Prod.mk.injEq] at hm
  rcases hm with ⟨rfl, rfl⟩ | ⟨rfl, rfl⟩ | ⟨rfl, rfl⟩ | ⟨rfl, rfl⟩ | ⟨rfl, rfl⟩ | ⟨rfl, rfl⟩ | ⟨rfl, rfl⟩ | ⟨rfl, rfl⟩ | ⟨rfl, rfl⟩ | ⟨rfl, rfl⟩ | ⟨rfl, rfl⟩ | ⟨rfl, rfl⟩ | ⟨rfl, rfl⟩ | ⟨rfl, rfl⟩ | ⟨rfl, rfl⟩ | ⟨rfl, rfl⟩ | ⟨rfl, rfl⟩ | ⟨rfl, rfl⟩ | ⟨rfl, rfl⟩ | ⟨rfl, rfl⟩ | ⟨rfl, rfl⟩ | ⟨rfl, rfl⟩ | ⟨rfl, rfl⟩ | ⟨rfl, rfl⟩
  · match ys, hl with
    | [y0, y1], _ =>
    refine ⟨_, rfl, rfl, _, rfl, iteY (by decide +kernel) ⟨_, rfl, ?_⟩⟩
    refine ⟨_, rfl, e, _, _, y0, rfl, er1, ec, T0.no.2 _ (by simp), (by rfl), _, rfl, e, _, _, y1, rfl, er1, ec, T0.no.2 _ (by simp), (by rfl), (by show 2 ≤ sizeLine; decide), fun p2 hp2 => ?_⟩
    refine ⟨_, _, _, _, rfl, rfl, (upd_ne (ne_of_none hp1 hp2)).trans hp1, upd_same, (by show 3 ≤ sizeLine; decide), fun p3 hp3 => ?_⟩
    exact q p3 _ ((s1.trans (same_new hp2 _)).trans (same_new hp3 _)) ((s1.trans (same_new hp2 _)).free hp3) upd_same
  · match ys, hl with
    | [y0, y1], _ =>
    refine ⟨_, rfl, rfl, _, rfl, iteN (by decide +kernel) ?_⟩
    refine ⟨_, rfl, rfl, _, rfl, iteY (by decide +kernel) ⟨_, rfl, ?_⟩⟩
    refine ⟨_, rfl, e, _, _, y0, rfl, er1, ec, T0.no.2 _ (by simp), (by rfl), _, rfl, e, _, _, y1, rfl, er1, ec, T0.no.2 _ (by simp), (by rfl), (by show 2 ≤ sizeLine; decide), fun p2 hp2 => ?_⟩
    refine ⟨_, _, _, _, rfl, rfl, (upd_ne (ne_of_none hp1 hp2)).trans hp1, upd_same, (by show 3 ≤ sizeLine; decide), fun p3 hp3 => ?_⟩
    exact q p3 _ ((s1.trans (same_new hp2 _)).trans (same_new hp3 _)) ((s1.trans (same_new hp2 _)).free hp3) upd_same
  · match ys, hl with
    | [y0, y1], _ =>
    refine ⟨_, rfl, rfl, _, rfl, iteN (by decide +kernel) ?_⟩
    refine ⟨_, rfl, rfl, _, rfl, iteN (by decide +kernel) ?_⟩
    refine ⟨_, rfl, rfl, _, rfl, iteY (by decide +kernel) ⟨_, rfl, ?_⟩⟩
    refine ⟨_, rfl, e, _, _, y0, rfl, er1, ec, T0.no.2 _ (by simp), (by rfl), _, rfl, e, _, _, y1, rfl, er1, ec, T0.no.2 _ (by simp), (by rfl), (by show 2 ≤ sizeLine; decide), fun p2 hp2 => ?_⟩
    refine ⟨_, _, _, _, rfl, rfl, (upd_ne (ne_of_none hp1 hp2)).trans hp1, upd_same, (by show 3 ≤ sizeLine; decide), fun p3 hp3 => ?_⟩
    exact q p3 _ ((s1.trans (same_new hp2 _)).trans (same_new hp3 _)) ((s1.trans (same_new hp2 _)).free hp3) upd_same
  · match ys, hl with
    | [y0, y1], _ =>
    refine ⟨_, rfl, rfl, _, rfl, iteN (by decide +kernel) ?_⟩
    refine ⟨_, rfl, rfl, _, rfl, iteN (by decide +kernel) ?_⟩
    refine ⟨_, rfl, rfl, _, rfl, iteN (by decide +kernel) ?_⟩
    refine ⟨_, rfl, rfl, _, rfl, iteY (by decide +kernel) ⟨_, rfl, ?_⟩⟩
    refine ⟨_, rfl, e, _, _, y0, rfl, er1, ec, T0.no.2 _ (by simp), (by rfl), _, rfl, e, _, _, y1, rfl, er1, ec, T0.no.2 _ (by simp), (by rfl), (by show 2 ≤ sizeLine; decide), fun p2 hp2 => ?_⟩
    refine ⟨_, _, _, _, rfl, rfl, (upd_ne (ne_of_none hp1 hp2)).trans hp1, upd_same, (by show 3 ≤ sizeLine; decide), fun p3 hp3 => ?_⟩
    exact q p3 _ ((s1.trans (same_new hp2 _)).trans (same_new hp3 _)) ((s1.trans (same_new hp2 _)).free hp3) upd_same
  · match ys, hl with
    | [y0, y1], _ =>
    refine ⟨_, rfl, rfl, _, rfl, iteN (by decide +kernel) ?_⟩
    refine ⟨_, rfl, rfl, _, rfl, iteN (by decide +kernel) ?_⟩
    refine ⟨_, rfl, rfl, _, rfl, iteN (by decide +kernel) ?_⟩
    refine ⟨_, rfl, rfl, _, rfl, iteN (by decide +kernel) ?_⟩
    refine ⟨_, rfl, rfl, _, rfl, iteY (by decide +kernel) ⟨_, rfl, ?_⟩⟩
    refine ⟨_, rfl, e, _, _, y0, rfl, er1, ec, T0.no.2 _ (by simp), (by rfl), _, rfl, e, _, _, y1, rfl, er1, ec, T0.no.2 _ (by simp), (by rfl), (by show 2 ≤ sizeLine; decide), fun p2 hp2 => ?_⟩
    refine ⟨_, _, _, _, rfl, rfl, (upd_ne (ne_of_none hp1 hp2)).trans hp1, upd_same, (by show 3 ≤ sizeLine; decide), fun p3 hp3 => ?_⟩
    exact q p3 _ ((s1.trans (same_new hp2 _)).trans (same_new hp3 _)) ((s1.trans (same_new hp2 _)).free hp3) upd_same
  · match ys, hl with
    | [y0], _ =>
    refine ⟨_, rfl, rfl, _, rfl, iteN (by decide +kernel) ?_⟩
    refine ⟨_, rfl, rfl, _, rfl, iteN (by decide +kernel) ?_⟩
    refine ⟨_, rfl, rfl, _, rfl, iteN (by decide +kernel) ?_⟩
    refine ⟨_, rfl, rfl, _, rfl, iteN (by decide +kernel) ?_⟩
    refine ⟨_, rfl, rfl, _, rfl, iteN (by decide +kernel) ?_⟩
    refine ⟨_, rfl, rfl, _, rfl, iteY (by decide +kernel) ⟨_, rfl, ?_⟩⟩
    refine ⟨_, rfl, e, _, _, y0, rfl, er1, ec, T0.no.2 _ (by simp), (by rfl), (by show 1 ≤ sizeLine; decide), fun p2 hp2 => ?_⟩
    refine ⟨_, _, _, _, rfl, rfl, (upd_ne (ne_of_none hp1 hp2)).trans hp1, upd_same, (by show 2 ≤ sizeLine; decide), fun p3 hp3 => ?_⟩
    exact q p3 _ ((s1.trans (same_new hp2 _)).trans (same_new hp3 _)) ((s1.trans (same_new hp2 _)).free hp3) upd_same
  · match ys, hl with
    | [y0], _ =>
    refine ⟨_, rfl, rfl, _, rfl, iteN (by decide +kernel) ?_⟩
    refine ⟨_, rfl, rfl, _, rfl, iteN (by decide +kernel) ?_⟩
    refine ⟨_, rfl, rfl, _, rfl, iteN (by decide +kernel) ?_⟩
    refine ⟨_, rfl, rfl, _, rfl, iteN (by decide +kernel) ?_⟩
    refine ⟨_, rfl, rfl, _, rfl, iteN (by decide +kernel) ?_⟩
    refine ⟨_, rfl, rfl, _, rfl, iteN (by decide +kernel) ?_⟩
    refine ⟨_, rfl, rfl, _, rfl, iteY (by decide +kernel) ⟨_, rfl, ?_⟩⟩
    refine ⟨_, rfl, e, _, _, y0, rfl, er1, ec, T0.no.2 _ (by simp), (by rfl), (by show 1 ≤ sizeLine; decide), fun p2 hp2 => ?_⟩
    refine ⟨_, _, _, _, rfl, rfl, (upd_ne (ne_of_none hp1 hp2)).trans hp1, upd_same, (by show 2 ≤ sizeLine; decide), fun p3 hp3 => ?_⟩
    exact q p3 _ ((s1.trans (same_new hp2 _)).trans (same_new hp3 _)) ((s1.trans (same_new hp2 _)).free hp3) upd_same
  · match ys, hl with
    | [y0], _ =>
    refine ⟨_, rfl, rfl, _, rfl, iteN (by decide +kernel) ?_⟩
    refine ⟨_, rfl, rfl, _, rfl, iteN (by decide +kernel) ?_⟩
    refine ⟨_, rfl, rfl, _, rfl, iteN (by decide +kernel) ?_⟩
    refine ⟨_, rfl, rfl, _, rfl, iteN (by decide +kernel) ?_⟩
    refine ⟨_, rfl, rfl, _, rfl, iteN (by decide +kernel) ?_⟩
    refine ⟨_, rfl, rfl, _, rfl, iteN (by decide +kernel) ?_⟩
    refine ⟨_, rfl, rfl, _, rfl, iteN (by decide +kernel) ?_⟩
    refine ⟨_, rfl, rfl, _, rfl, iteY (by decide +kernel) ⟨_, rfl, ?_⟩⟩
    refine ⟨_, rfl, e, _, _, y0, rfl, er1, ec, T0.no.2 _ (by simp), (by rfl), (by show 1 ≤ sizeLine; decide), fun p2 hp2 => ?_⟩
    refine ⟨_, _, _, _, rfl, rfl, (upd_ne (ne_of_none hp1 hp2)).trans hp1, upd_same, (by show 2 ≤ sizeLine; decide), fun p3 hp3 => ?_⟩
    exact q p3 _ ((s1.trans (same_new hp2 _)).trans (same_new hp3 _)) ((s1.trans (same_new hp2 _)).free hp3) upd_same
  · match ys, hl with
    | [y0], _ =>
    refine ⟨_, rfl, rfl, _, rfl, iteN (by decide +kernel) ?_⟩
    refine ⟨_, rfl, rfl, _, rfl, iteN (by decide +kernel) ?_⟩
    refine ⟨_, rfl, rfl, _, rfl, iteN (by decide +kernel) ?_⟩
    refine ⟨_, rfl, rfl, _, rfl, iteN (by decide +kernel) ?_⟩
    refine ⟨_, rfl, rfl, _, rfl, iteN (by decide +kernel) ?_⟩
    refine ⟨_, rfl, rfl, _, rfl, iteN (by decide +kernel) ?_⟩
    refine ⟨_, rfl, rfl, _, rfl, iteN (by decide +kernel) ?_⟩
    refine ⟨_, rfl, rfl, _, rfl, iteN (by decide +kernel) ?_⟩
    refine ⟨_, rfl, rfl, _, rfl, iteY (by decide +kernel) ⟨_, rfl, ?_⟩⟩
    refine ⟨_, rfl, e, _, _, y0, rfl, er1, ec, T0.no.2 _ (by simp), (by rfl), (by show 1 ≤ sizeLine; decide), fun p2 hp2 => ?_⟩
    refine ⟨_, _, _, _, rfl, rfl, (upd_ne (ne_of_none hp1 hp2)).trans hp1, upd_same, (by show 2 ≤ sizeLine; decide), fun p3 hp3 => ?_⟩
    exact q p3 _ ((s1.trans (same_new hp2 _)).trans (same_new hp3 _)) ((s1.trans (same_new hp2 _)).free hp3) upd_same
  · match ys, hl with
    | [y0], _ =>
    refine ⟨_, rfl, rfl, _, rfl, iteN (by decide +kernel) ?_⟩
    refine ⟨_, rfl, rfl, _, rfl, iteN (by decide +kernel) ?_⟩
    refine ⟨_, rfl, rfl, _, rfl, iteN (by decide +kernel) ?_⟩
    refine ⟨_, rfl, rfl, _, rfl, iteN (by decide +kernel) ?_⟩
    refine ⟨_, rfl, rfl, _, rfl, iteN (by decide +kernel) ?_⟩
    refine ⟨_, rfl, rfl, _, rfl, iteN (by decide +kernel) ?_⟩
    refine ⟨_, rfl, rfl, _, rfl, iteN (by decide +kernel) ?_⟩
    refine ⟨_, rfl, rfl, _, rfl, iteN (by decide +kernel) ?_⟩
    refine ⟨_, rfl, rfl, _, rfl, iteN (by decide +kernel) ?_⟩
    refine ⟨_, rfl, rfl, _, rfl, iteY (by decide +kernel) ⟨_, rfl, ?_⟩⟩
    refine ⟨_, rfl, e, _, _, y0, rfl, er1, ec, T0.no.2 _ (by simp), (by rfl), (by show 1 ≤ sizeLine; decide), fun p2 hp2 => ?_⟩
    refine ⟨_, _, _, _, rfl, rfl, (upd_ne (ne_of_none hp1 hp2)).trans hp1, upd_same, (by show 2 ≤ sizeLine; decide), fun p3 hp3 => ?_⟩
    exact q p3 _ ((s1.trans (same_new hp2 _)).trans (same_new hp3 _)) ((s1.trans (same_new hp2 _)).free hp3) upd_same
  · match ys, hl with
    | [y0], _ =>
    refine ⟨_, rfl, rfl, _, rfl, iteN (by decide +kernel) ?_⟩
    refine ⟨_, rfl, rfl, _, rfl, iteN (by decide +kernel) ?_⟩
    refine ⟨_, rfl, rfl, _, rfl, iteN (by decide +kernel) ?_⟩
    refine ⟨_, rfl, rfl, _, rfl, iteN (by decide +kernel) ?_⟩
    refine ⟨_, rfl, rfl, _, rfl, iteN (by decide +kernel) ?_⟩
    refine ⟨_, rfl, rfl, _, rfl, iteN (by decide +kernel) ?_⟩
    refine ⟨_, rfl, rfl, _, rfl, iteN (by decide +kernel) ?_⟩
    refine ⟨_, rfl, rfl, _, rfl, iteN (by decide +kernel) ?_⟩
    refine ⟨_, rfl, rfl, _, rfl, iteN (by decide +kernel) ?_⟩
    refine ⟨_, rfl, rfl, _, rfl, iteN (by decide +kernel) ?_⟩
    refine ⟨_, rfl, rfl, _, rfl, iteY (by decide +kernel) ⟨_, rfl, ?_⟩⟩
    refine ⟨_, rfl, e, _, _, y0, rfl, er1, ec, T0.no.2 _ (by simp), (by rfl), (by show 1 ≤ sizeLine; decide), fun p2 hp2 => ?_⟩
    refine ⟨_, _, _, _, rfl, rfl, (upd_ne (ne_of_none hp1 hp2)).trans hp1, upd_same, (by show 2 ≤ sizeLine; decide), fun p3 hp3 => ?_⟩
    exact q p3 _ ((s1.trans (same_new hp2 _)).trans (same_new hp3 _)) ((s1.trans (same_new hp2 _)).free hp3) upd_same
  · match ys, hl with
    | [y0], _ =>
    refine ⟨_, rfl, rfl, _, rfl, iteN (by decide +kernel) ?_⟩
    refine ⟨_, rfl, rfl, _, rfl, iteN (by decide +kernel) ?_⟩
    refine ⟨_, rfl, rfl, _, rfl, iteN (by decide +kernel) ?_⟩
    refine ⟨_, rfl, rfl, _, rfl, iteN (by decide +kernel) ?_⟩
    refine ⟨_, rfl, rfl, _, rfl, iteN (by decide +kernel) ?_⟩
    refine ⟨_, rfl, rfl, _, rfl, iteN (by decide +kernel) ?_⟩
    refine ⟨_, rfl, rfl, _, rfl, iteN (by decide +kernel) ?_⟩
    refine ⟨_, rfl, rfl, _, rfl, iteN (by decide +kernel) ?_⟩
    refine ⟨_, rfl, rfl, _, rfl, iteN (by decide +kernel) ?_⟩
    refine ⟨_, rfl, rfl, _, rfl, iteN (by decide +kernel) ?_⟩
    refine ⟨_, rfl, rfl, _, rfl, iteN (by decide +kernel) ?_⟩
    refine ⟨_, rfl, rfl, _, rfl, iteY (by decide +kernel) ⟨_, rfl, ?_⟩⟩
    refine ⟨_, rfl, e, _, _, y0, rfl, er1, ec, T0.no.2 _ (by simp), (by rfl), (by show 1 ≤ sizeLine; decide), fun p2 hp2 => ?_⟩
    refine ⟨_, _, _, _, rfl, rfl, (upd_ne (ne_of_none hp1 hp2)).trans hp1, upd_same, (by show 2 ≤ sizeLine; decide), fun p3 hp3 => ?_⟩
    exact q p3 _ ((s1.trans (same_new hp2 _)).trans (same_new hp3 _)) ((s1.trans (same_new hp2 _)).free hp3) upd_same
  · match ys, hl with
    | [y0], _ =>
    refine ⟨_, rfl, rfl, _, rfl, iteN (by decide +kernel) ?_⟩
    refine ⟨_, rfl, rfl, _, rfl, iteN (by decide +kernel) ?_⟩
    refine ⟨_, rfl, rfl, _, rfl, iteN (by decide +kernel) ?_⟩
    refine ⟨_, rfl, rfl, _, rfl, iteN (by decide +kernel) ?_⟩
    refine ⟨_, rfl, rfl, _, rfl, iteN (by decide +kernel) ?_⟩
    refine ⟨_, rfl, rfl, _, rfl, iteN (by decide +kernel) ?_⟩
    refine ⟨_, rfl, rfl, _, rfl, iteN (by decide +kernel) ?_⟩
    refine ⟨_, rfl, rfl, _, rfl, iteN (by decide +kernel) ?_⟩
    refine ⟨_, rfl, rfl, _, rfl, iteN (by decide +kernel) ?_⟩
    refine ⟨_, rfl, rfl, _, rfl, iteN (by decide +kernel) ?_⟩
    refine ⟨_, rfl, rfl, _, rfl, iteN (by decide +kernel) ?_⟩
    refine ⟨_, rfl, rfl, _, rfl, iteN (by decide +kernel) ?_⟩
    refine ⟨_, rfl, rfl, _, rfl, iteY (by decide +kernel) ⟨_, rfl, ?_⟩⟩
    refine ⟨_, rfl, e, _, _, y0, rfl, er1, ec, T0.no.2 _ (by simp), (by rfl), (by show 1 ≤ sizeLine; decide), fun p2 hp2 => ?_⟩
    refine ⟨_, _, _, _, rfl, rfl, (upd_ne (ne_of_none hp1 hp2)).trans hp1, upd_same, (by show 2 ≤ sizeLine; decide), fun p3 hp3 => ?_⟩
    exact q p3 _ ((s1.trans (same_new hp2 _)).trans (same_new hp3 _)) ((s1.trans (same_new hp2 _)).free hp3) upd_same
  · match ys, hl with
    | [y0], _ =>
    refine ⟨_, rfl, rfl, _, rfl, iteN (by decide +kernel) ?_⟩
    refine ⟨_, rfl, rfl, _, rfl, iteN (by decide +kernel) ?_⟩
    refine ⟨_, rfl, rfl, _, rfl, iteN (by decide +kernel) ?_⟩
    refine ⟨_, rfl, rfl, _, rfl, iteN (by decide +kernel) ?_⟩
    refine ⟨_, rfl, rfl, _, rfl, iteN (by decide +kernel) ?_⟩
    refine ⟨_, rfl, rfl, _, rfl, iteN (by decide +kernel) ?_⟩
    refine ⟨_, rfl, rfl, _, rfl, iteN (by decide +kernel) ?_⟩
    refine ⟨_, rfl, rfl, _, rfl, iteN (by decide +kernel) ?_⟩
    refine ⟨_, rfl, rfl, _, rfl, iteN (by decide +kernel) ?_⟩
    refine ⟨_, rfl, rfl, _, rfl, iteN (by decide +kernel) ?_⟩
    refine ⟨_, rfl, rfl, _, rfl, iteN (by decide +kernel) ?_⟩
    refine ⟨_, rfl, rfl, _, rfl, iteN (by decide +kernel) ?_⟩
    refine ⟨_, rfl, rfl, _, rfl, iteN (by decide +kernel) ?_⟩
    refine ⟨_, rfl, rfl, _, rfl, iteY (by decide +kernel) ⟨_, rfl, ?_⟩⟩
    refine ⟨_, rfl, e, _, _, y0, rfl, er1, ec, T0.no.2 _ (by simp), (by rfl), (by show 1 ≤ sizeLine; decide), fun p2 hp2 => ?_⟩
    refine ⟨_, _, _, _, rfl, rfl, (upd_ne (ne_of_none hp1 hp2)).trans hp1, upd_same, (by show 2 ≤ sizeLine; decide), fun p3 hp3 => ?_⟩
    exact q p3 _ ((s1.trans (same_new hp2 _)).trans (same_new hp3 _)) ((s1.trans (same_new hp2 _)).free hp3) upd_same
  · match ys, hl with
    | [y0], _ =>
    refine ⟨_, rfl, rfl, _, rfl, iteN (by decide +kernel) ?_⟩
    refine ⟨_, rfl, rfl, _, rfl, iteN (by decide +kernel) ?_⟩
    refine ⟨_, rfl, rfl, _, rfl, iteN (by decide +kernel) ?_⟩
    refine ⟨_, rfl, rfl, _, rfl, iteN (by decide +kernel) ?_⟩
    refine ⟨_, rfl, rfl, _, rfl, iteN (by decide +kernel) ?_⟩
    refine ⟨_, rfl, rfl, _, rfl, iteN (by decide +kernel) ?_⟩
    refine ⟨_, rfl, rfl, _, rfl, iteN (by decide +kernel) ?_⟩
    refine ⟨_, rfl, rfl, _, rfl, iteN (by decide +kernel) ?_⟩
    refine ⟨_, rfl, rfl, _, rfl, iteN (by decide +kernel) ?_⟩
    refine ⟨_, rfl, rfl, _, rfl, iteN (by decide +kernel) ?_⟩
    refine ⟨_, rfl, rfl, _, rfl, iteN (by decide +kernel) ?_⟩
    refine ⟨_, rfl, rfl, _, rfl, iteN (by decide +kernel) ?_⟩
    refine ⟨_, rfl, rfl, _, rfl, iteN (by decide +kernel) ?_⟩
    refine ⟨_, rfl, rfl, _, rfl, iteN (by decide +kernel) ?_⟩
    refine ⟨_, rfl, rfl, _, rfl, iteY (by decide +kernel) ⟨_, rfl, ?_⟩⟩
    refine ⟨_, rfl, e, _, _, y0, rfl, er1, ec, T0.no.2 _ (by simp), (by rfl), (by show 1 ≤ sizeLine; decide), fun p2 hp2 => ?_⟩
    refine ⟨_, _, _, _, rfl, rfl, (upd_ne (ne_of_none hp1 hp2)).trans hp1, upd_same, (by show 2 ≤ sizeLine; decide), fun p3 hp3 => ?_⟩
    exact q p3 _ ((s1.trans (same_new hp2 _)).trans (same_new hp3 _)) ((s1.trans (same_new hp2 _)).free hp3) upd_same
  · match ys, hl with
    | [y0], _ =>
    refine ⟨_, rfl, rfl, _, rfl, iteN (by decide +kernel) ?_⟩
    refine ⟨_, rfl, rfl, _, rfl, iteN (by decide +kernel) ?_⟩
    refine ⟨_, rfl, rfl, _, rfl, iteN (by decide +kernel) ?_⟩
    refine ⟨_, rfl, rfl, _, rfl, iteN (by decide +kernel) ?_⟩
    refine ⟨_, rfl, rfl, _, rfl, iteN (by decide +kernel) ?_⟩
    refine ⟨_, rfl, rfl, _, rfl, iteN (by decide +kernel) ?_⟩
    refine ⟨_, rfl, rfl, _, rfl, iteN (by decide +kernel) ?_⟩
    refine ⟨_, rfl, rfl, _, rfl, iteN (by decide +kernel) ?_⟩
    refine ⟨_, rfl, rfl, _, rfl, iteN (by decide +kernel) ?_⟩
    refine ⟨_, rfl, rfl, _, rfl, iteN (by decide +kernel) ?_⟩
    refine ⟨_, rfl, rfl, _, rfl, iteN (by decide +kernel) ?_⟩
    refine ⟨_, rfl, rfl, _, rfl, iteN (by decide +kernel) ?_⟩
    refine ⟨_, rfl, rfl, _, rfl, iteN (by decide +kernel) ?_⟩
    refine ⟨_, rfl, rfl, _, rfl, iteN (by decide +kernel) ?_⟩
    refine ⟨_, rfl, rfl, _, rfl, iteN (by decide +kernel) ?_⟩
    refine ⟨_, rfl, rfl, _, rfl, iteY (by decide +kernel) ⟨_, rfl, ?_⟩⟩
    refine ⟨_, rfl, e, _, _, y0, rfl, er1, ec, T0.no.2 _ (by simp), (by rfl), (by show 1 ≤ sizeLine; decide), fun p2 hp2 => ?_⟩
    refine ⟨_, _, _, _, rfl, rfl, (upd_ne (ne_of_none hp1 hp2)).trans hp1, upd_same, (by show 2 ≤ sizeLine; decide), fun p3 hp3 => ?_⟩
    exact q p3 _ ((s1.trans (same_new hp2 _)).trans (same_new hp3 _)) ((s1.trans (same_new hp2 _)).free hp3) upd_same
  · match ys, hl with
    | [y0], _ =>
    refine ⟨_, rfl, rfl, _, rfl, iteN (by decide +kernel) ?_⟩
    refine ⟨_, rfl, rfl, _, rfl, iteN (by decide +kernel) ?_⟩
    refine ⟨_, rfl, rfl, _, rfl, iteN (by decide +kernel) ?_⟩
    refine ⟨_, rfl, rfl, _, rfl, iteN (by decide +kernel) ?_⟩
    refine ⟨_, rfl, rfl, _, rfl, iteN (by decide +kernel) ?_⟩
    refine ⟨_, rfl, rfl, _, rfl, iteN (by decide +kernel) ?_⟩
    refine ⟨_, rfl, rfl, _, rfl, iteN (by decide +kernel) ?_⟩
    refine ⟨_, rfl, rfl, _, rfl, iteN (by decide +kernel) ?_⟩
    refine ⟨_, rfl, rfl, _, rfl, iteN (by decide +kernel) ?_⟩
    refine ⟨_, rfl, rfl, _, rfl, iteN (by decide +kernel) ?_⟩
    refine ⟨_, rfl, rfl, _, rfl, iteN (by decide +kernel) ?_⟩
    refine ⟨_, rfl, rfl, _, rfl, iteN (by decide +kernel) ?_⟩
    refine ⟨_, rfl, rfl, _, rfl, iteN (by decide +kernel) ?_⟩
    refine ⟨_, rfl, rfl, _, rfl, iteN (by decide +kernel) ?_⟩
    refine ⟨_, rfl, rfl, _, rfl, iteN (by decide +kernel) ?_⟩
    refine ⟨_, rfl, rfl, _, rfl, iteN (by decide +kernel) ?_⟩
    refine ⟨_, rfl, rfl, _, rfl, iteY (by decide +kernel) ⟨_, rfl, ?_⟩⟩
    refine ⟨_, rfl, e, _, _, y0, rfl, er1, ec, T0.no.2 _ (by simp), (by rfl), (by show 1 ≤ sizeLine; decide), fun p2 hp2 => ?_⟩
    refine ⟨_, _, _, _, rfl, rfl, (upd_ne (ne_of_none hp1 hp2)).trans hp1, upd_same, (by show 2 ≤ sizeLine; decide), fun p3 hp3 => ?_⟩
    exact q p3 _ ((s1.trans (same_new hp2 _)).trans (same_new hp3 _)) ((s1.trans (same_new hp2 _)).free hp3) upd_same
  · match ys, hl with
    | [y0], _ =>
    refine ⟨_, rfl, rfl, _, rfl, iteN (by decide +kernel) ?_⟩
    refine ⟨_, rfl, rfl, _, rfl, iteN (by decide +kernel) ?_⟩
    refine ⟨_, rfl, rfl, _, rfl, iteN (by decide +kernel) ?_⟩
    refine ⟨_, rfl, rfl, _, rfl, iteN (by decide +kernel) ?_⟩
    refine ⟨_, rfl, rfl, _, rfl, iteN (by decide +kernel) ?_⟩
    refine ⟨_, rfl, rfl, _, rfl, iteN (by decide +kernel) ?_⟩
    refine ⟨_, rfl, rfl, _, rfl, iteN (by decide +kernel) ?_⟩
    refine ⟨_, rfl, rfl, _, rfl, iteN (by decide +kernel) ?_⟩
    refine ⟨_, rfl, rfl, _, rfl, iteN (by decide +kernel) ?_⟩
    refine ⟨_, rfl, rfl, _, rfl, iteN (by decide +kernel) ?_⟩
    refine ⟨_, rfl, rfl, _, rfl, iteN (by decide +kernel) ?_⟩
    refine ⟨_, rfl, rfl, _, rfl, iteN (by decide +kernel) ?_⟩
    refine ⟨_, rfl, rfl, _, rfl, iteN (by decide +kernel) ?_⟩
    refine ⟨_, rfl, rfl, _, rfl, iteN (by decide +kernel) ?_⟩
    refine ⟨_, rfl, rfl, _, rfl, iteN (by decide +kernel) ?_⟩
    refine ⟨_, rfl, rfl, _, rfl, iteN (by decide +kernel) ?_⟩
    refine ⟨_, rfl, rfl, _, rfl, iteN (by decide +kernel) ?_⟩
    refine ⟨_, rfl, rfl, _, rfl, iteY (by decide +kernel) ⟨_, rfl, ?_⟩⟩
    refine ⟨_, rfl, e, _, _, y0, rfl, er1, ec, T0.no.2 _ (by simp), (by rfl), (by show 1 ≤ sizeLine; decide), fun p2 hp2 => ?_⟩
    refine ⟨_, _, _, _, rfl, rfl, (upd_ne (ne_of_none hp1 hp2)).trans hp1, upd_same, (by show 2 ≤ sizeLine; decide), fun p3 hp3 => ?_⟩
    exact q p3 _ ((s1.trans (same_new hp2 _)).trans (same_new hp3 _)) ((s1.trans (same_new hp2 _)).free hp3) upd_same
  · match ys, hl with
    | [y0], _ =>
    refine ⟨_, rfl, rfl, _, rfl, iteN (by decide +kernel) ?_⟩
    refine ⟨_, rfl, rfl, _, rfl, iteN (by decide +kernel) ?_⟩
    refine ⟨_, rfl, rfl, _, rfl, iteN (by decide +kernel) ?_⟩
    refine ⟨_, rfl, rfl, _, rfl, iteN (by decide +kernel) ?_⟩
    refine ⟨_, rfl, rfl, _, rfl, iteN (by decide +kernel) ?_⟩
    refine ⟨_, rfl, rfl, _, rfl, iteN (by decide +kernel) ?_⟩
    refine ⟨_, rfl, rfl, _, rfl, iteN (by decide +kernel) ?_⟩
    refine ⟨_, rfl, rfl, _, rfl, iteN (by decide +kernel) ?_⟩
    refine ⟨_, rfl, rfl, _, rfl, iteN (by decide +kernel) ?_⟩
    refine ⟨_, rfl, rfl, _, rfl, iteN (by decide +kernel) ?_⟩
    refine ⟨_, rfl, rfl, _, rfl, iteN (by decide +kernel) ?_⟩
    refine ⟨_, rfl, rfl, _, rfl, iteN (by decide +kernel) ?_⟩
    refine ⟨_, rfl, rfl, _, rfl, iteN (by decide +kernel) ?_⟩
    refine ⟨_, rfl, rfl, _, rfl, iteN (by decide +kernel) ?_⟩
    refine ⟨_, rfl, rfl, _, rfl, iteN (by decide +kernel) ?_⟩
    refine ⟨_, rfl, rfl, _, rfl, iteN (by decide +kernel) ?_⟩
    refine ⟨_, rfl, rfl, _, rfl, iteN (by decide +kernel) ?_⟩
    refine ⟨_, rfl, rfl, _, rfl, iteN (by decide +kernel) ?_⟩
    refine ⟨_, rfl, rfl, _, rfl, iteY (by decide +kernel) ⟨_, rfl, ?_⟩⟩
    refine ⟨_, rfl, e, _, _, y0, rfl, er1, ec, T0.no.2 _ (by simp), (by rfl), (by show 1 ≤ sizeLine; decide), fun p2 hp2 => ?_⟩
    refine ⟨_, _, _, _, rfl, rfl, (upd_ne (ne_of_none hp1 hp2)).trans hp1, upd_same, (by show 2 ≤ sizeLine; decide), fun p3 hp3 => ?_⟩
    exact q p3 _ ((s1.trans (same_new hp2 _)).trans (same_new hp3 _)) ((s1.trans (same_new hp2 _)).free hp3) upd_same
  · match ys, hl with
    | [y0], _ =>
    refine ⟨_, rfl, rfl, _, rfl, iteN (by decide +kernel) ?_⟩
    refine ⟨_, rfl, rfl, _, rfl, iteN (by decide +kernel) ?_⟩
    refine ⟨_, rfl, rfl, _, rfl, iteN (by decide +kernel) ?_⟩
    refine ⟨_, rfl, rfl, _, rfl, iteN (by decide +kernel) ?_⟩
    refine ⟨_, rfl, rfl, _, rfl, iteN (by decide +kernel) ?_⟩
    refine ⟨_, rfl, rfl, _, rfl, iteN (by decide +kernel) ?_⟩
    refine ⟨_, rfl, rfl, _, rfl, iteN (by decide +kernel) ?_⟩
    refine ⟨_, rfl, rfl, _, rfl, iteN (by decide +kernel) ?_⟩
    refine ⟨_, rfl, rfl, _, rfl, iteN (by decide +kernel) ?_⟩
    refine ⟨_, rfl, rfl, _, rfl, iteN (by decide +kernel) ?_⟩
    refine ⟨_, rfl, rfl, _, rfl, iteN (by decide +kernel) ?_⟩
    refine ⟨_, rfl, rfl, _, rfl, iteN (by decide +kernel) ?_⟩
    refine ⟨_, rfl, rfl, _, rfl, iteN (by decide +kernel) ?_⟩
    refine ⟨_, rfl, rfl, _, rfl, iteN (by decide +kernel) ?_⟩
    refine ⟨_, rfl, rfl, _, rfl, iteN (by decide +kernel) ?_⟩
    refine ⟨_, rfl, rfl, _, rfl, iteN (by decide +kernel) ?_⟩
    refine ⟨_, rfl, rfl, _, rfl, iteN (by decide +kernel) ?_⟩
    refine ⟨_, rfl, rfl, _, rfl, iteN (by decide +kernel) ?_⟩
    refine ⟨_, rfl, rfl, _, rfl, iteN (by decide +kernel) ?_⟩
    refine ⟨_, rfl, rfl, _, rfl, iteY (by decide +kernel) ⟨_, rfl, ?_⟩⟩
    refine ⟨_, rfl, e, _, _, y0, rfl, er1, ec, T0.no.2 _ (by simp), (by rfl), (by show 1 ≤ sizeLine; decide), fun p2 hp2 => ?_⟩
    refine ⟨_, _, _, _, rfl, rfl, (upd_ne (ne_of_none hp1 hp2)).trans hp1, upd_same, (by show 2 ≤ sizeLine; decide), fun p3 hp3 => ?_⟩
    exact q p3 _ ((s1.trans (same_new hp2 _)).trans (same_new hp3 _)) ((s1.trans (same_new hp2 _)).free hp3) upd_same
  · match ys, hl with
    | [], _ =>
    refine ⟨_, rfl, rfl, _, rfl, iteN (by decide +kernel) ?_⟩
    refine ⟨_, rfl, rfl, _, rfl, iteN (by decide +kernel) ?_⟩
    refine ⟨_, rfl, rfl, _, rfl, iteN (by decide +kernel) ?_⟩
    refine ⟨_, rfl, rfl, _, rfl, iteN (by decide +kernel) ?_⟩
    refine ⟨_, rfl, rfl, _, rfl, iteN (by decide +kernel) ?_⟩
    refine ⟨_, rfl, rfl, _, rfl, iteN (by decide +kernel) ?_⟩
    refine ⟨_, rfl, rfl, _, rfl, iteN (by decide +kernel) ?_⟩
    refine ⟨_, rfl, rfl, _, rfl, iteN (by decide +kernel) ?_⟩
    refine ⟨_, rfl, rfl, _, rfl, iteN (by decide +kernel) ?_⟩
    refine ⟨_, rfl, rfl, _, rfl, iteN (by decide +kernel) ?_⟩
    refine ⟨_, rfl, rfl, _, rfl, iteN (by decide +kernel) ?_⟩
    refine ⟨_, rfl, rfl, _, rfl, iteN (by decide +kernel) ?_⟩
    refine ⟨_, rfl, rfl, _, rfl, iteN (by decide +kernel) ?_⟩
    refine ⟨_, rfl, rfl, _, rfl, iteN (by decide +kernel) ?_⟩
    refine ⟨_, rfl, rfl, _, rfl, iteN (by decide +kernel) ?_⟩
    refine ⟨_, rfl, rfl, _, rfl, iteN (by decide +kernel) ?_⟩
    refine ⟨_, rfl, rfl, _, rfl, iteN (by decide +kernel) ?_⟩
    refine ⟨_, rfl, rfl, _, rfl, iteN (by decide +kernel) ?_⟩
    refine ⟨_, rfl, rfl, _, rfl, iteN (by decide +kernel) ?_⟩
    refine ⟨_, rfl, rfl, _, rfl, iteN (by decide +kernel) ?_⟩
    exact ⟨_, rfl, q p _ s1 hp hp1⟩
  · match ys, hl with
    | [], _ =>
    refine ⟨_, rfl, rfl, _, rfl, iteN (by decide +kernel) ?_⟩
    refine ⟨_, rfl, rfl, _, rfl, iteN (by decide +kernel) ?_⟩
    refine ⟨_, rfl, rfl, _, rfl, iteN (by decide +kernel) ?_⟩
    refine ⟨_, rfl, rfl, _, rfl, iteN (by decide +kernel) ?_⟩
    refine ⟨_, rfl, rfl, _, rfl, iteN (by decide +kernel) ?_⟩
    refine ⟨_, rfl, rfl, _, rfl, iteN (by decide +kernel) ?_⟩
    refine ⟨_, rfl, rfl, _, rfl, iteN (by decide +kernel) ?_⟩
    refine ⟨_, rfl, rfl, _, rfl, iteN (by decide +kernel) ?_⟩
    refine ⟨_, rfl, rfl, _, rfl, iteN (by decide +kernel) ?_⟩
    refine ⟨_, rfl, rfl, _, rfl, iteN (by decide +kernel) ?_⟩
    refine ⟨_, rfl, rfl, _, rfl, iteN (by decide +kernel) ?_⟩
    refine ⟨_, rfl, rfl, _, rfl, iteN (by decide +kernel) ?_⟩
    refine ⟨_, rfl, rfl, _, rfl, iteN (by decide +kernel) ?_⟩
    refine ⟨_, rfl, rfl, _, rfl, iteN (by decide +kernel) ?_⟩
    refine ⟨_, rfl, rfl, _, rfl, iteN (by decide +kernel) ?_⟩
    refine ⟨_, rfl, rfl, _, rfl, iteN (by decide +kernel) ?_⟩
    refine ⟨_, rfl, rfl, _, rfl, iteN (by decide +kernel) ?_⟩
    refine ⟨_, rfl, rfl, _, rfl, iteN (by decide +kernel) ?_⟩
    refine ⟨_, rfl, rfl, _, rfl, iteN (by decide +kernel) ?_⟩
    refine ⟨_, rfl, rfl, _, rfl, iteN (by decide +kernel) ?_⟩
    exact ⟨_, rfl, q p _ s1 hp hp1⟩
  · match ys, hl with
    | [], _ =>
    refine ⟨_, rfl, rfl, _, rfl, iteN (by decide +kernel) ?_⟩
    refine ⟨_, rfl, rfl, _, rfl, iteN (by decide +kernel) ?_⟩
    refine ⟨_, rfl, rfl, _, rfl, iteN (by decide +kernel) ?_⟩
    refine ⟨_, rfl, rfl, _, rfl, iteN (by decide +kernel) ?_⟩
    refine ⟨_, rfl, rfl, _, rfl, iteN (by decide +kernel) ?_⟩
    refine ⟨_, rfl, rfl, _, rfl, iteN (by decide +kernel) ?_⟩
    refine ⟨_, rfl, rfl, _, rfl, iteN (by decide +kernel) ?_⟩
    refine ⟨_, rfl, rfl, _, rfl, iteN (by decide +kernel) ?_⟩
    refine ⟨_, rfl, rfl, _, rfl, iteN (by decide +kernel) ?_⟩
    refine ⟨_, rfl, rfl, _, rfl, iteN (by decide +kernel) ?_⟩
    refine ⟨_, rfl, rfl, _, rfl, iteN (by decide +kernel) ?_⟩
    refine ⟨_, rfl, rfl, _, rfl, iteN (by decide +kernel) ?_⟩
    refine ⟨_, rfl, rfl, _, rfl, iteN (by decide +kernel) ?_⟩
    refine ⟨_, rfl, rfl, _, rfl, iteN (by decide +kernel) ?_⟩
    refine ⟨_, rfl, rfl, _, rfl, iteN (by decide +kernel) ?_⟩
    refine ⟨_, rfl, rfl, _, rfl, iteN (by decide +kernel) ?_⟩
    refine ⟨_, rfl, rfl, _, rfl, iteN (by decide +kernel) ?_⟩
    refine ⟨_, rfl, rfl, _, rfl, iteN (by decide +kernel) ?_⟩
    refine ⟨_, rfl, rfl, _, rfl, iteN (by decide +kernel) ?_⟩
    refine ⟨_, rfl, rfl, _, rfl, iteN (by decide +kernel) ?_⟩
    exact ⟨_, rfl, q p _ s1 hp hp1⟩
  · match ys, hl with
    | [], _ =>
    refine ⟨_, rfl, rfl, _, rfl, iteN (by decide +kernel) ?_⟩
    refine ⟨_, rfl, rfl, _, rfl, iteN (by decide +kernel) ?_⟩
    refine ⟨_, rfl, rfl, _, rfl, iteN (by decide +kernel) ?_⟩
    refine ⟨_, rfl, rfl, _, rfl, iteN (by decide +kernel) ?_⟩
    refine ⟨_, rfl, rfl, _, rfl, iteN (by decide +kernel) ?_⟩
    refine ⟨_, rfl, rfl, _, rfl, iteN (by decide +kernel) ?_⟩
    refine ⟨_, rfl, rfl, _, rfl, iteN (by decide +kernel) ?_⟩
    refine ⟨_, rfl, rfl, _, rfl, iteN (by decide +kernel) ?_⟩
    refine ⟨_, rfl, rfl, _, rfl, iteN (by decide +kernel) ?_⟩
    refine ⟨_, rfl, rfl, _, rfl, iteN (by decide +kernel) ?_⟩
    refine ⟨_, rfl, rfl, _, rfl, iteN (by decide +kernel) ?_⟩
    refine ⟨_, rfl, rfl, _, rfl, iteN (by decide +kernel) ?_⟩
    refine ⟨_, rfl, rfl, _, rfl, iteN (by decide +kernel) ?_⟩
    refine ⟨_, rfl, rfl, _, rfl, iteN (by decide +kernel) ?_⟩
    refine ⟨_, rfl, rfl, _, rfl, iteN (by decide +kernel) ?_⟩
    refine ⟨_, rfl, rfl, _, rfl, iteN (by decide +kernel) ?_⟩
    refine ⟨_, rfl, rfl, _, rfl, iteN (by decide +kernel) ?_⟩
    refine ⟨_, rfl, rfl, _, rfl, iteN (by decide +kernel) ?_⟩
    refine ⟨_, rfl, rfl, _, rfl, iteN (by decide +kernel) ?_⟩
    refine ⟨_, rfl, rfl, _, rfl, iteN (by decide +kernel) ?_⟩
    exact ⟨_, rfl, q p _ s1 hp hp1⟩
end
end K0

set_option Elab.async false
set_option linter.all false
set_option maxRecDepth 100000
set_option maxHeartbeats 4000000
namespace Fb
open PySem PySem.Spec PyProof.Rows L2
/-- a list of pairs (a name, a truth) in the making, at l -/
def Pairs (H : Hp) : List Addr → List (Str × Bool) → Prop
  | [], [] => True
  | t :: ts, p :: ps => H t = some (.tup [.str p.1, .bl p.2]) ∧ Pairs H ts ps
  | _, _ => False
theorem Pairs.same {H H' : Hp} : ∀ {ts : List Addr} {ps : List (Str × Bool)}, Pairs H ts ps → (∀ t ∈ ts, ∀ xs, H t = some (.tup xs) → H' t = some (.tup xs)) → Pairs H' ts ps
  | [], [], _, _ => trivial
  | t :: ts, p :: ps, h, s => ⟨s t List.mem_cons_self _ h.1, h.2.same fun u hu => s u (List.mem_cons_of_mem _ hu)⟩
theorem Pairs.snoc {H : Hp} {t : Addr} {p : Str × Bool} (ht : H t = some (.tup [.str p.1, .bl p.2])) : ∀ {ts : List Addr} {ps : List (Str × Bool)}, Pairs H ts ps → Pairs H (ts ++ [t]) (ps ++ [p])
  | [], [], _ => ⟨ht, trivial⟩
  | _ :: _, _ :: _, h => ⟨h.1, Pairs.snoc ht h.2⟩
theorem Pairs.len {H : Hp} : ∀ {ts : List Addr} {ps : List (Str × Bool)}, Pairs H ts ps → ts.length = ps.length
  | [], [], _ => rfl
  | _ :: _, _ :: _, h => congrArg Nat.succ h.2.len
theorem Pairs.get {H : Hp} : ∀ {ts : List Addr} {ps : List (Str × Bool)} {i : Nat} {t : Addr}, Pairs H ts ps → ts[i]? = some t → ∃ p, ps[i]? = some p ∧ H t = some (.tup [.str p.1, .bl p.2])
  | t :: ts, p :: ps, 0, u, h, e => by
    cases e
    exact ⟨p, rfl, h.1⟩
  | _ :: ts, _ :: ps, i + 1, u, h, e => Pairs.get (i := i) h.2 e
structure KP (H0 : Hp) (l : Addr) (ps : List (Str × Bool)) (H : Hp) : Prop where
  s : Same H0 H
  n : H0 l = none
  at_ : ∃ ts : List Addr, H l = some (.lst (ts.map V.ref)) ∧ Pairs H ts ps
theorem KP.step {H0 H : Hp} {l t : Addr} {ps : List (Str × Bool)} {ts : List Addr} {n : Str} {b : Bool} (s : Same H0 H) (h0 : H0 l = none) (hl : H l = some (.lst (ts.map V.ref))) (hp : Pairs H ts ps) (ht : H t = none) :
    KP H0 l (ps ++ [(n, b)]) (upd (upd H t (.tup [.str n, .bl b])) l (.lst (ts.map V.ref ++ [.ref t]))) := by
  have htl : t ≠ l := fun z => by
    rw [z, hl] at ht
    cases ht
  refine ⟨fun c o e => (upd_ne (ne_of_none e h0)).trans ((same_new ht _) _ _ (s _ _ e)), h0, ts ++ [t], ?_, Pairs.snoc ?_ (hp.same ?_)⟩
  · rw [List.map_append]
    exact upd_same
  · exact (upd_ne htl).trans upd_same
  · intro u hu xs e
    have hul : u ≠ l := fun z => by
      rw [z, hl] at e
      cases e
    exact (upd_ne hul).trans ((upd_ne (ne_of_none e ht)).trans e)
theorem PS.imp {X : Cx} {st : Stmt} {t t' : TS} (h : PS X st t) (k : ∀ D σ H, t' D σ H → t D σ H) : PS X st t' := ⟨fun pins s σ H D I q => h.run pins s σ H D I (k D σ H q)⟩
/-- some.append((n, isinstance(error, c))) -/
def tKind (K : PySem.W.Frag) (n : Str) (c : V) : TS := fun D σ H => ∃ (l e C : Addr) (fs : List (Str × V)) (cv : Value) (b : Bool) (ps : List (Str × Bool)) (H0 : Hp), σ[0]? = some (some (.ref e)) ∧ σ[1]? = some (some (.ref l)) ∧ Err H0 e C fs ∧ EC K C ∧ EIs K C ∧
  (∀ u, RelV c u → u = cv) ∧ PySem.W.kitOne K (.ref C) cv = some b ∧ KP H0 l ps H ∧ ps.length ≤ 100 ∧ ∀ H', KP H0 l (ps ++ [(n, b)]) H' → D.nx σ H'
section
variable {X : Cx} {c : V} {n x y z : Str} {j m : Nat} {p1 p2 p3 p4 p5 p6 p7 p8 p9 p10 : Pos}
theorem ps_kind (hl : PE X (.Name x p1) (tVar 1)) (he : PE X (.Name y p2) (tVar 0)) (hc : PE X (.Name z p3) (tC c)) (hg : Gl X "isinstance") (hm : X.mg "isinstance" = none)
    (q1 : (p4.endLine == p7.line) = true := by rfl) : PS X (.Expr (.Call (.Attribute (.Name x p1) "append" p4) [.Tuple [.Constant (.str n) j p5, .Call (.Name "isinstance" p8) [.Name y p2, .Name z p3] [] p9] m p6] [] p7) p10) (tKind X.K n c) := by
  refine PS.imp (ps_expr (pe_bm PySem.F.plainAttrs_list PySem.F.slot_list_append PySem.F.type_list_append mt_append hl (pa_cons (pe_tup (pa_cons pe_str (pa_cons (pe_callB call_isx hg hm (by decide +kernel) (pa_cons he (pa_cons hc pa_nil))) pa_nil))) pa_nil) (hline := q1))) fun D σ H h => ?_
  obtain ⟨l, e, C, fs, cv, b, ps, H0, h0, h1, er, ec, is, hcv, kit, k, hz, q⟩ := h
  obtain ⟨s, n0, ts, hl, hp⟩ := k
  have hlen := hp.len
  refine ⟨_, h1, .inl ⟨rfl, _, SqL.of hl⟩, _, h0, e, C, fs, c, cv, b, rfl, er.same s, ec, is, hcv, kit, (by show 2 ≤ sizeLine; decide), fun t ht => ⟨l, _, _, rfl, rfl, (upd_ne (ne_of_none hl ht)).trans hl, ?_, q _ (KP.step s n0 hl hp ht)⟩⟩
  rw [List.length_map]
  have hz2 : sizeLine = 16777216 := sizeLine_eq
  omega
end
end Fb

set_option Elab.async false
set_option linter.all false
set_option maxRecDepth 100000
set_option maxHeartbeats 4000000
namespace K0
open PySem PySem.Spec PyProof.Rows L2 Fb
abbrev sKinds : Stmt := top 36
abbrev sDue : Stmt := top 37
def own : List Str := ["BadText", "UnlikeParts", "UnlikeTapes", "TooMany", "CantAnswer", "BadName", "BadLetters", "BadRun", "BadColumn", "BadNumber", "BadTable", "HeldTwice", "BreaksBeside", "NotSo", "NotEnough", "EndedRun", "UnknownPart", "UnknownName", "UnknownRun", "NotHeld", "BadDeed", "NoDraft", "InDraft", "NothingLeft", "RuleError", "Missing"]
def bui : List String := ["ValueError", "LookupError", "IndexError", "KeyError"]
def miss : List Str := ["UnknownPart", "UnknownName", "UnknownRun", "NotHeld"]
/-- the names that are due -/
def due (x : Str) : List Str := if x = "NothingLeft" then [x, "LookupError", "IndexError"] else if x ∈ miss then [x, "Missing", "LookupError"] else [x, "RuleError", "ValueError"]
structure Kf (K : PySem.W.Frag) (mg : Str → Option Value) (C : Str → Addr) : Prop where
  gR : mg "RuleError" = some (.ref (C "RuleError"))
  gM : mg "Missing" = some (.ref (C "Missing"))
  is : mg "isinstance" = none
  bu : ∀ n ∈ bui, mg (n : Str) = none
  ow : ∀ x fl, (x, fl) ∈ tbl → ∀ n ∈ own, PySem.W.kitOne K (.ref (C x)) (.ref (C n)) = some (decide (n ∈ due x))
  ob : ∀ x fl, (x, fl) ∈ tbl → ∀ n ∈ bui, PySem.W.kitOne K (.ref (C x)) (.type n) = some (decide ((n : Str) ∈ due x))
def spKinds (C : Str → Addr) : Sp := fun vs H Q _ => ∃ (x : Str) (fl : List Str) (e : Addr) (fs : List (Str × V)), vs = [.ref e] ∧ (x, fl) ∈ tbl ∧ Err H e (C x) fs ∧ ∀ (l : Addr) (H' : Hp), Same H H' → H l = none → H' l = some (.lst ((due x).map V.str)) → Q (.ref l) H'
def spDue : Sp := fun vs H Q _ => ∃ (x : Str), vs = [.str x] ∧ x ∈ tbl.map (·.1) ∧ ∀ (l : Addr) (H' : Hp), Same H H' → H l = none → H' l = some (.lst ((due x).map V.str)) → Q (.ref l) H'
/-- the pairs of _law_kinds -/
def pairsOf (x : Str) : List (Str × Bool) := (own ++ bui.map Str.ofString).map fun n => (n, decide (n ∈ due x))
def PvKinds (H0 : Hp) (l D : Addr) (ts : List Addr) (ps : List (Str × Bool)) (i : Nat) (Hi : Hp) : Prop := Same H0 Hi ∧ Hi l = some (.lst (ts.map V.ref)) ∧ Pairs Hi ts ps ∧ Hi D = some (.lst (((ps.take i).filterMap fun p => if p.2 = true then some p.1 else none).map V.str))
section
variable {P : Program} {w : World} {K : PySem.W.Frag} {mg : Str → Option Value} {base : Heap} {C : Str → Addr}
theorem due_of : ∀ x fl, (x, fl) ∈ tbl → ((pairsOf x).filterMap fun p => if p.2 = true then some p.1 else none) = due x := by
  intro x fl h
  simp only [tbl, two, one, zero, List.cons_append, List.nil_append, List.mem_cons, List.not_mem_nil, or_false, Prod.mk.injEq] at h
  rcases h with ⟨rfl, rfl⟩ | ⟨rfl, rfl⟩ | ⟨rfl, rfl⟩ | ⟨rfl, rfl⟩ | ⟨rfl, rfl⟩ | ⟨rfl, rfl⟩ | ⟨rfl, rfl⟩ | ⟨rfl, rfl⟩ | ⟨rfl, rfl⟩ | ⟨rfl, rfl⟩ | ⟨rfl, rfl⟩ | ⟨rfl, rfl⟩ | ⟨rfl, rfl⟩ | ⟨rfl, rfl⟩ | ⟨rfl, rfl⟩ | ⟨rfl, rfl⟩ | ⟨rfl, rfl⟩ | ⟨rfl, rfl⟩ | ⟨rfl, rfl⟩ | ⟨rfl, rfl⟩ | ⟨rfl, rfl⟩ | ⟨rfl, rfl⟩ | ⟨rfl, rfl⟩ | ⟨rfl, rfl⟩ <;> decide +kernel
theorem scKinds : FnScope ["error", "some", "pair"] ["error"] (defScope sKinds) := ⟨rfl, rfl, rfl, by decide +kernel, rfl, by decide +kernel, by decide +kernel⟩
theorem ok_kinds {f : Addr} {fd : FuncData} (F : Fun K "_law_kinds" "_law_kinds" sKinds f fd) (T : Tab P w K mg base C) (M : Kf K mg C) : FnOk P w K mg base CX0 1 f fd ["error"] (spKinds C) := by
  refine F.ok scKinds (fun vs H Q E h => ?_) (fun cdv A outer s H vs Q E hr h => ?_)
  · obtain ⟨x, fl, e, fs, rfl, _⟩ := h
    rfl
  obtain ⟨x, fl, e, fs, rfl, hm, er, q⟩ := h
  have T0 := T.all x fl hm
  refine ⟨_, (pss_cons (ps_set (i := 1) scKinds.nd rfl (Or.inl rfl) (pe_lst pa_nil))
    (pss_cons (ps_kind (pv 1) (pv 0) (pe_glob (v := .ref (C "BadText")) rfl T.cBadText.gC rfl) rfl M.is)
    (pss_cons (ps_kind (pv 1) (pv 0) (pe_glob (v := .ref (C "UnlikeParts")) rfl T.cUnlikeParts.gC rfl) rfl M.is)
    (pss_cons (ps_kind (pv 1) (pv 0) (pe_glob (v := .ref (C "UnlikeTapes")) rfl T.cUnlikeTapes.gC rfl) rfl M.is)
    (pss_cons (ps_kind (pv 1) (pv 0) (pe_glob (v := .ref (C "TooMany")) rfl T.cTooMany.gC rfl) rfl M.is)
    (pss_cons (ps_kind (pv 1) (pv 0) (pe_glob (v := .ref (C "CantAnswer")) rfl T.cCantAnswer.gC rfl) rfl M.is)
    (pss_cons (ps_kind (pv 1) (pv 0) (pe_glob (v := .ref (C "BadName")) rfl T.cBadName.gC rfl) rfl M.is)
    (pss_cons (ps_kind (pv 1) (pv 0) (pe_glob (v := .ref (C "BadLetters")) rfl T.cBadLetters.gC rfl) rfl M.is)
    (pss_cons (ps_kind (pv 1) (pv 0) (pe_glob (v := .ref (C "BadRun")) rfl T.cBadRun.gC rfl) rfl M.is)
    (pss_cons (ps_kind (pv 1) (pv 0) (pe_glob (v := .ref (C "BadColumn")) rfl T.cBadColumn.gC rfl) rfl M.is)
    (pss_cons (ps_kind (pv 1) (pv 0) (pe_glob (v := .ref (C "BadNumber")) rfl T.cBadNumber.gC rfl) rfl M.is)
    (pss_cons (ps_kind (pv 1) (pv 0) (pe_glob (v := .ref (C "BadTable")) rfl T.cBadTable.gC rfl) rfl M.is)
    (pss_cons (ps_kind (pv 1) (pv 0) (pe_glob (v := .ref (C "HeldTwice")) rfl T.cHeldTwice.gC rfl) rfl M.is)
    (pss_cons (ps_kind (pv 1) (pv 0) (pe_glob (v := .ref (C "BreaksBeside")) rfl T.cBreaksBeside.gC rfl) rfl M.is)
    (pss_cons (ps_kind (pv 1) (pv 0) (pe_glob (v := .ref (C "NotSo")) rfl T.cNotSo.gC rfl) rfl M.is)
    (pss_cons (ps_kind (pv 1) (pv 0) (pe_glob (v := .ref (C "NotEnough")) rfl T.cNotEnough.gC rfl) rfl M.is)
    (pss_cons (ps_kind (pv 1) (pv 0) (pe_glob (v := .ref (C "EndedRun")) rfl T.cEndedRun.gC rfl) rfl M.is)
    (pss_cons (ps_kind (pv 1) (pv 0) (pe_glob (v := .ref (C "UnknownPart")) rfl T.cUnknownPart.gC rfl) rfl M.is)
    (pss_cons (ps_kind (pv 1) (pv 0) (pe_glob (v := .ref (C "UnknownName")) rfl T.cUnknownName.gC rfl) rfl M.is)
    (pss_cons (ps_kind (pv 1) (pv 0) (pe_glob (v := .ref (C "UnknownRun")) rfl T.cUnknownRun.gC rfl) rfl M.is)
    (pss_cons (ps_kind (pv 1) (pv 0) (pe_glob (v := .ref (C "NotHeld")) rfl T.cNotHeld.gC rfl) rfl M.is)
    (pss_cons (ps_kind (pv 1) (pv 0) (pe_glob (v := .ref (C "BadDeed")) rfl T.cBadDeed.gC rfl) rfl M.is)
    (pss_cons (ps_kind (pv 1) (pv 0) (pe_glob (v := .ref (C "NoDraft")) rfl T.cNoDraft.gC rfl) rfl M.is)
    (pss_cons (ps_kind (pv 1) (pv 0) (pe_glob (v := .ref (C "InDraft")) rfl T.cInDraft.gC rfl) rfl M.is)
    (pss_cons (ps_kind (pv 1) (pv 0) (pe_glob (v := .ref (C "NothingLeft")) rfl T.cNothingLeft.gC rfl) rfl M.is)
    (pss_cons (ps_kind (pv 1) (pv 0) (pe_glob (v := .ref (C "RuleError")) rfl M.gR rfl) rfl M.is)
    (pss_cons (ps_kind (pv 1) (pv 0) (pe_glob (v := .ref (C "Missing")) rfl M.gM rfl) rfl M.is)
    (pss_cons (ps_kind (pv 1) (pv 0) (pe_bltn (v := .ty "ValueError") rfl (M.bu "ValueError" (by simp [bui])) (by decide +kernel) rfl) rfl M.is)
    (pss_cons (ps_kind (pv 1) (pv 0) (pe_bltn (v := .ty "LookupError") rfl (M.bu "LookupError" (by simp [bui])) (by decide +kernel) rfl) rfl M.is)
    (pss_cons (ps_kind (pv 1) (pv 0) (pe_bltn (v := .ty "IndexError") rfl (M.bu "IndexError" (by simp [bui])) (by decide +kernel) rfl) rfl M.is)
    (pss_cons (ps_kind (pv 1) (pv 0) (pe_bltn (v := .ty "KeyError") rfl (M.bu "KeyError" (by simp [bui])) (by decide +kernel) rfl) rfl M.is)
    (pss_one (ps_ret (pe_lc (own := [("pair", 2)]) (g := gName 2) (tt := tB (tOp (rIxT K) (tVar 2) (tC (.int 1)))) (te := tOp (rIxT K) (tVar 2) (tC (.int 0))) rfl scKinds.nd (pi_list (pv 1)) (blkOk_by (N := ["error", "some", "pair"]) (sc := defScope sKinds) (by decide +kernel))
            (fun _ _ _ _ _ => pg_name (i := 2) scKinds.nd rfl (Or.inl rfl)) (fun _ _ _ _ _ => pts_one (pt_val (pe_ix ix_tup (pv 2) pe_int (fun _ _ => rfl)))) (fun _ _ _ _ _ => pe_ix ix_tup (pv 2) pe_int (fun _ _ => rfl)))))))))))))))))))))))))))))))))))), ?_⟩
  refine ⟨by show 0 ≤ sizeLine; decide, fun l hl => ?_⟩
  have k0 : KP H l [] (upd H l (.lst [])) := ⟨same_new hl _, hl, [], upd_same, trivial⟩
  have ow := M.ow x fl hm
  have ob := M.ob x fl hm
  refine ⟨l, e, C x, fs, .ref (C "BadText"), _, _, H, rfl, rfl, er, T0.ec, T0.is, (fun _ r => r), ow "BadText" (by simp [own]), k0, (by simp), fun H1 k1 => ?_⟩
  refine ⟨l, e, C x, fs, .ref (C "UnlikeParts"), _, _, H, rfl, rfl, er, T0.ec, T0.is, (fun _ r => r), ow "UnlikeParts" (by simp [own]), k1, (by simp), fun H2 k2 => ?_⟩
  refine ⟨l, e, C x, fs, .ref (C "UnlikeTapes"), _, _, H, rfl, rfl, er, T0.ec, T0.is, (fun _ r => r), ow "UnlikeTapes" (by simp [own]), k2, (by simp), fun H3 k3 => ?_⟩
  refine ⟨l, e, C x, fs, .ref (C "TooMany"), _, _, H, rfl, rfl, er, T0.ec, T0.is, (fun _ r => r), ow "TooMany" (by simp [own]), k3, (by simp), fun H4 k4 => ?_⟩
  refine ⟨l, e, C x, fs, .ref (C "CantAnswer"), _, _, H, rfl, rfl, er, T0.ec, T0.is, (fun _ r => r), ow "CantAnswer" (by simp [own]), k4, (by simp), fun H5 k5 => ?_⟩
  refine ⟨l, e, C x, fs, .ref (C "BadName"), _, _, H, rfl, rfl, er, T0.ec, T0.is, (fun _ r => r), ow "BadName" (by simp [own]), k5, (by simp), fun H6 k6 => ?_⟩
  refine ⟨l, e, C x, fs, .ref (C "BadLetters"), _, _, H, rfl, rfl, er, T0.ec, T0.is, (fun _ r => r), ow "BadLetters" (by simp [own]), k6, (by simp), fun H7 k7 => ?_⟩
  refine ⟨l, e, C x, fs, .ref (C "BadRun"), _, _, H, rfl, rfl, er, T0.ec, T0.is, (fun _ r => r), ow "BadRun" (by simp [own]), k7, (by simp), fun H8 k8 => ?_⟩
  refine ⟨l, e, C x, fs, .ref (C "BadColumn"), _, _, H, rfl, rfl, er, T0.ec, T0.is, (fun _ r => r), ow "BadColumn" (by simp [own]), k8, (by simp), fun H9 k9 => ?_⟩
  refine ⟨l, e, C x, fs, .ref (C "BadNumber"), _, _, H, rfl, rfl, er, T0.ec, T0.is, (fun _ r => r), ow "BadNumber" (by simp [own]), k9, (by simp), fun H10 k10 => ?_⟩
  refine ⟨l, e, C x, fs, .ref (C "BadTable"), _, _, H, rfl, rfl, er, T0.ec, T0.is, (fun _ r => r), ow "BadTable" (by simp [own]), k10, (by simp), fun H11 k11 => ?_⟩
  refine ⟨l, e, C x, fs, .ref (C "HeldTwice"), _, _, H, rfl, rfl, er, T0.ec, T0.is, (fun _ r => r), ow "HeldTwice" (by simp [own]), k11, (by simp), fun H12 k12 => ?_⟩
  refine ⟨l, e, C x, fs, .ref (C "BreaksBeside"), _, _, H, rfl, rfl, er, T0.ec, T0.is, (fun _ r => r), ow "BreaksBeside" (by simp [own]), k12, (by simp), fun H13 k13 => ?_⟩
  refine ⟨l, e, C x, fs, .ref (C "NotSo"), _, _, H, rfl, rfl, er, T0.ec, T0.is, (fun _ r => r), ow "NotSo" (by simp [own]), k13, (by simp), fun H14 k14 => ?_⟩
  refine ⟨l, e, C x, fs, .ref (C "NotEnough"), _, _, H, rfl, rfl, er, T0.ec, T0.is, (fun _ r => r), ow "NotEnough" (by simp [own]), k14, (by simp), fun H15 k15 => ?_⟩
  refine ⟨l, e, C x, fs, .ref (C "EndedRun"), _, _, H, rfl, rfl, er, T0.ec, T0.is, (fun _ r => r), ow "EndedRun" (by simp [own]), k15, (by simp), fun H16 k16 => ?_⟩
  refine ⟨l, e, C x, fs, .ref (C "UnknownPart"), _, _, H, rfl, rfl, er, T0.ec, T0.is, (fun _ r => r), ow "UnknownPart" (by simp [own]), k16, (by simp), fun H17 k17 => ?_⟩
  refine ⟨l, e, C x, fs, .ref (C "UnknownName"), _, _, H, rfl, rfl, er, T0.ec, T0.is, (fun _ r => r), ow "UnknownName" (by simp [own]), k17, (by simp), fun H18 k18 => ?_⟩
  refine ⟨l, e, C x, fs, .ref (C "UnknownRun"), _, _, H, rfl, rfl, er, T0.ec, T0.is, (fun _ r => r), ow "UnknownRun" (by simp [own]), k18, (by simp), fun H19 k19 => ?_⟩
  refine ⟨l, e, C x, fs, .ref (C "NotHeld"), _, _, H, rfl, rfl, er, T0.ec, T0.is, (fun _ r => r), ow "NotHeld" (by simp [own]), k19, (by simp), fun H20 k20 => ?_⟩
  refine ⟨l, e, C x, fs, .ref (C "BadDeed"), _, _, H, rfl, rfl, er, T0.ec, T0.is, (fun _ r => r), ow "BadDeed" (by simp [own]), k20, (by simp), fun H21 k21 => ?_⟩
  refine ⟨l, e, C x, fs, .ref (C "NoDraft"), _, _, H, rfl, rfl, er, T0.ec, T0.is, (fun _ r => r), ow "NoDraft" (by simp [own]), k21, (by simp), fun H22 k22 => ?_⟩
  refine ⟨l, e, C x, fs, .ref (C "InDraft"), _, _, H, rfl, rfl, er, T0.ec, T0.is, (fun _ r => r), ow "InDraft" (by simp [own]), k22, (by simp), fun H23 k23 => ?_⟩
  refine ⟨l, e, C x, fs, .ref (C "NothingLeft"), _, _, H, rfl, rfl, er, T0.ec, T0.is, (fun _ r => r), ow "NothingLeft" (by simp [own]), k23, (by simp), fun H24 k24 => ?_⟩
  refine ⟨l, e, C x, fs, .ref (C "RuleError"), _, _, H, rfl, rfl, er, T0.ec, T0.is, (fun _ r => r), ow "RuleError" (by simp [own]), k24, (by simp), fun H25 k25 => ?_⟩
  refine ⟨l, e, C x, fs, .ref (C "Missing"), _, _, H, rfl, rfl, er, T0.ec, T0.is, (fun _ r => r), ow "Missing" (by simp [own]), k25, (by simp), fun H26 k26 => ?_⟩
  refine ⟨l, e, C x, fs, .type "ValueError", _, _, H, rfl, rfl, er, T0.ec, T0.is, (fun _ r => r), ob "ValueError" (by simp [bui]), k26, (by simp), fun H27 k27 => ?_⟩
  refine ⟨l, e, C x, fs, .type "LookupError", _, _, H, rfl, rfl, er, T0.ec, T0.is, (fun _ r => r), ob "LookupError" (by simp [bui]), k27, (by simp), fun H28 k28 => ?_⟩
  refine ⟨l, e, C x, fs, .type "IndexError", _, _, H, rfl, rfl, er, T0.ec, T0.is, (fun _ r => r), ob "IndexError" (by simp [bui]), k28, (by simp), fun H29 k29 => ?_⟩
  refine ⟨l, e, C x, fs, .type "KeyError", _, _, H, rfl, rfl, er, T0.ec, T0.is, (fun _ r => r), ob "KeyError" (by simp [bui]), k29, (by simp), fun H30 k30 => ?_⟩
  have hz : sizeLine = 16777216 := sizeLine_eq
  have kk : KP H l (pairsOf x) H30 := by
    simp only [List.nil_append, List.cons_append] at k30
    simp only [pairsOf, own, bui, List.map_cons, List.map_nil, List.cons_append, List.nil_append]
    exact k30
  clear k0 k1 k2 k3 k4 k5 k6 k7 k8 k9 k10 k11 k12 k13 k14 k15 k16 k17 k18 k19 k20 k21 k22 k23 k24 k25 k26 k27 k28 k29 k30
  obtain ⟨s0, n0, ts, hts, hps⟩ := kk
  have hlen := hps.len
  generalize H30 = Hn at s0 hts hps
  refine ⟨_, rfl, l, rfl, ⟨_, SqL.of hts⟩, fun D hD => ?_⟩
  have hDl : l ≠ D := ne_of_none hts hD
  have hD0 : H D = none := s0.free hD
  have hDt : ∀ {Hi : Hp} {t : Addr} {xs vs : List V}, Hi D = some (.lst vs) → Hi t = some (.tup xs) → t ≠ D := fun h1 h2 z => by
    rw [z, h1] at h2
    cases h2
  refine lc_list (xs := ts.map V.ref) (PvKinds H l D ts (pairsOf x)) ⟨s0.trans (same_new hD _), (upd_ne hDl).trans hts, hps.same fun t _ xs e => (upd_ne (ne_of_none e hD)).trans e, upd_same⟩ (fun i Hi _ p => SqL.of p.2.1) ?_ ?_
  · rintro i y Hi hi ⟨s1, h1, h2, h3⟩
    obtain ⟨t, ht, rfl⟩ : ∃ t, ts[i]? = some t ∧ V.ref t = y := by
      rw [List.getElem?_map] at hi
      exact Option.map_eq_some_iff.mp hi
    obtain ⟨p, hp, hpt⟩ := h2.get ht
    have hi2 : i < (pairsOf x).length := (List.getElem?_eq_some_iff.mp hp).1
    have e : (pairsOf x).take (i + 1) = (pairsOf x).take i ++ [p] := by rw [List.take_succ, hp]; rfl
    refine ⟨rfl, _, rfl, t, _, _, .bl p.2, rfl, rfl, SqT.of hpt, rfl, _, rfl, ?_⟩
    refine ite2 (fun c => ?_) (fun c => ?_)
    · refine ⟨_, rfl, t, _, _, .str p.1, rfl, rfl, SqT.of hpt, rfl, _, h3, ?_, ?_⟩
      · rw [List.length_map]
        have : ((pairsOf x).take i).length ≤ 30 := by
          rw [List.length_take]
          have : (pairsOf x).length = 30 := rfl
          omega
        have := List.length_filterMap_le (fun p : Str × Bool => if p.2 = true then some p.1 else none) ((pairsOf x).take i)
        omega
      · refine ⟨fun a o e => (upd_ne (ne_of_none e hD0)).trans (s1 _ _ e), (upd_ne hDl).trans h1, h2.same fun t _ xs e => (upd_ne (hDt h3 e)).trans e, ?_⟩
        rw [e, List.filterMap_append, List.map_append]
        have e2 : ([p].filterMap fun p : Str × Bool => if p.2 = true then some p.1 else none) = [p.1] := by
          simp [c]
        rw [e2]
        exact upd_same
    · refine ⟨s1, h1, h2, ?_⟩
      rw [e, List.filterMap_append]
      have e2 : ([p].filterMap fun p : Str × Bool => if p.2 = true then some p.1 else none) = [] := by
        simp [c]
      rw [e2, List.append_nil]
      exact h3
  · rintro Hi ⟨s1, h1, h2, h3⟩
    have e : (pairsOf x).take (ts.map V.ref).length = pairsOf x := List.take_of_length_le (by rw [List.length_map]; omega)
    rw [e, due_of x fl hm] at h3
    exact q D Hi s1 hD0 h3
theorem scDue : FnScope ["pick"] ["pick"] (defScope sDue) := ⟨rfl, rfl, rfl, by decide +kernel, rfl, by decide +kernel, by decide +kernel⟩
theorem ok_due {f : Addr} {fd : FuncData} (F : Fun K "_law_due_kinds" "_law_due_kinds" sDue f fd) : FnOk P w K mg base CX0 1 f fd ["pick"] spDue := by
  refine F.ok scDue (fun vs H Q E h => ?_) (fun cdv A outer s H vs Q E hr h => ?_)
  · obtain ⟨x, rfl, _⟩ := h
    rfl
  obtain ⟨x, rfl, hm, q⟩ := h
  refine ⟨_, pss_cons (ps_if (pt_cmpR op_eq (pv 0) pe_str (nomark _)) (pss_one (ps_ret (pe_lst (pa_cons (pv 0) (pa_cons pe_str (pa_cons pe_str pa_nil)))))) pss_nil)
    (pss_cons (ps_if (pt_cmpR op_in_seq (pv 0) (pe_tup (pa_cons pe_str (pa_cons pe_str (pa_cons pe_str (pa_cons pe_str pa_nil))))) rfl) (pss_one (ps_ret (pe_lst (pa_cons (pv 0) (pa_cons pe_str (pa_cons pe_str pa_nil)))))) pss_nil)
    (pss_one (ps_ret (pe_lst (pa_cons (pv 0) (pa_cons pe_str (pa_cons pe_str pa_nil))))))), ?_⟩
  have hd : (decide (V.str x = V.str "NothingLeft") = true ∧ due x = [x, "LookupError", "IndexError"]) ∨ (decide (V.str x = V.str "NothingLeft") = false ∧ inV (.str x) [.str "UnknownPart", .str "UnknownName", .str "UnknownRun", .str "NotHeld"] = true ∧ due x = [x, "Missing", "LookupError"]) ∨
      (decide (V.str x = V.str "NothingLeft") = false ∧ inV (.str x) [.str "UnknownPart", .str "UnknownName", .str "UnknownRun", .str "NotHeld"] = false ∧ due x = [x, "RuleError", "ValueError"]) := by
    have hm2 : x ∈ (["BadText", "UnlikeParts", "UnlikeTapes", "TooMany", "CantAnswer", "BadName", "BadLetters", "BadRun", "BadColumn", "BadNumber", "BadTable", "HeldTwice", "BreaksBeside", "NotSo", "NotEnough", "EndedRun", "UnknownPart", "UnknownName", "UnknownRun", "NotHeld", "BadDeed", "NoDraft", "InDraft", "NothingLeft"] : List Str) := hm
    clear hm q
    revert x
    decide +kernel
  rcases hd with ⟨c, e⟩ | ⟨c, c2, e⟩ | ⟨c, c2, e⟩
  · refine ⟨_, rfl, rfl, _, rfl, iteY c ⟨_, rfl, (by show 3 ≤ sizeLine; decide), fun l hl => q l _ (same_new hl _) hl ?_⟩⟩
    rw [e]
    exact upd_same
  · refine ⟨_, rfl, rfl, _, rfl, iteN c ⟨_, rfl, (by show 4 ≤ sizeLine; decide), fun t ht => ⟨t, _, rfl, .inr (SqT.of upd_same), rfl, (by decide), _, rfl, iteY c2 ⟨_, rfl, (by show 3 ≤ sizeLine; decide), fun l hl => q l _ ((same_new ht _).trans (same_new hl _)) ((same_new ht _).free hl) ?_⟩⟩⟩⟩
    rw [e]
    exact upd_same
  · refine ⟨_, rfl, rfl, _, rfl, iteN c ⟨_, rfl, (by show 4 ≤ sizeLine; decide), fun t ht => ⟨t, _, rfl, .inr (SqT.of upd_same), rfl, (by decide), _, rfl, iteN c2 ⟨_, rfl, (by show 3 ≤ sizeLine; decide), fun l hl => q l _ ((same_new ht _).trans (same_new hl _)) ((same_new ht _).free hl) ?_⟩⟩⟩⟩
    rw [e]
    exact upd_same
end
end K0

set_option Elab.async false
set_option linter.all false
set_option maxRecDepth 100000
set_option maxHeartbeats 4000000
namespace Fb
open PySem PySem.Spec PyProof.Rows L2
/-- what is left when an error is raised -/
def tRai (K : PySem.W.Frag) (C : Addr) (x : Str) (fl : List Str) (ys : List V) (H : Hp) (E : XK) : Prop := ys.length = fl.length ∧ (∀ y ∈ ys, Fm K H y) ∧ ∀ (d : Addr) (H' : Hp), Same H H' → H d = none → H' d = some (.xd (flds x fl ys)) → E (.ref C) (some d) H'
theorem tRai.same {K : PySem.W.Frag} {C : Addr} {x : Str} {fl : List Str} {ys : List V} {H H' : Hp} {E : XK} (h : tRai K C x fl ys H E) (s : Same H H') : tRai K C x fl ys H' E :=
  ⟨h.1, fun y hy => (h.2.1 y hy).same s, fun d H2 s2 hd er => h.2.2 d H2 (s.trans s2) (s.free hd) er⟩
theorem rai_sp {K : PySem.W.Frag} {C : Addr} {x : Str} {fl : List Str} {ys : List V} {H : Hp} {E : XK} (h : tRai K C x fl ys H E) (a : Addr) (ha : H a = none) :
    spI K C x fl (.ref a :: ys) (upd H a (exo a C none)) (fun v H2 => v = .non ∧ ∃ (d : Addr) (fs : List (Str × V)), H2 a = some (exo a C (some d)) ∧ H2 d = some (exd d fs) ∧ H d = none ∧ E (.ref C) (some d) (upd (L2.del H2 a) d (.xd fs))) E0 := by
  obtain ⟨hl, hf, q⟩ := h
  refine ⟨a, ys, rfl, hl, upd_same, fun y hy => (hf y hy).same (same_new ha _), fun d H' hd hne hs h1 h2 => ?_⟩
  rw [upd_ne hne] at hd
  refine ⟨rfl, d, _, h1, h2, hd, q d _ (fun b o e => ?_) hd upd_same⟩
  have hba := ne_of_none e ha
  exact (upd_ne (ne_of_none e hd)).trans ((L2.del_ne hba).trans (hs b o hba ((upd_ne hba).trans e)))
section
variable {X : Cx} {C : Addr} {x f1 f2 : Str} {p pos : Pos} {a b : Expr} {t : TA}
theorem pmk_cl0 (T : Cl X.prog X.w X.K X.mg X.base x [] C) (hr : Room 2 X.A) (hg : Gl X x) (hx : Passes CX0 X E0) (hdb : (x == ("__debug__" : Str)) = false := by decide) : PMk X (.Call (.Name x p) [] [] pos) (tMkr C 0 (spI X.K C x []) tNil) := by
  obtain ⟨fI, fd, T1, F, b, k⟩ := T.mkr
  exact pmk_x0 T1 F hr hg T.gC b rfl hx hdb
theorem pmk_cl1 (T : Cl X.prog X.w X.K X.mg X.base x [f1] C) (hr : Room 2 X.A) (hg : Gl X x) (hx : Passes CX0 X E0) (ha : PA X [a] t) (hdb : (x == ("__debug__" : Str)) = false := by decide) (he : starEach [a] X.env = (false, eval a X.env) :: starEach [] X.env := by rfl) (hpl : (backTo pos (starEach [] X.env)).any (·.1) = false := by rfl) :
    PMk X (.Call (.Name x p) [a] [] pos) (tMkr C 1 (spI X.K C x [f1]) t) := by
  obtain ⟨fI, fd, T1, F, b, k⟩ := T.mkr
  exact pmk_x T1 F hr hg T.gC b rfl hx (by decide) ha hdb he hpl
theorem pmk_cl2 (T : Cl X.prog X.w X.K X.mg X.base x [f1, f2] C) (hr : Room 2 X.A) (hg : Gl X x) (hx : Passes CX0 X E0) (ha : PA X [a, b] t) (hdb : (x == ("__debug__" : Str)) = false := by decide) (he : starEach [a, b] X.env = (false, eval a X.env) :: starEach [b] X.env := by rfl) (hpl : (backTo pos (starEach [b] X.env)).any (·.1) = false := by rfl) :
    PMk X (.Call (.Name x p) [a, b] [] pos) (tMkr C 2 (spI X.K C x [f1, f2]) t) := by
  obtain ⟨fI, fd, T1, F, bi, k⟩ := T.mkr
  exact pmk_x T1 F hr hg T.gC bi rfl hx (by decide) ha hdb he hpl
end
section
variable {X : Cx} {k : Nat} {ps : List Str} {sp : Sp} {E : L2.St → XK} {x : Str} {q pos : Pos} {e : Expr} {es : List Expr} {t : TA} {CX : CXT}
theorem pe_rdS (R : Rd X.prog X.w X.K X.mg X.base CX k x ps sp) (hr : Room k X.A) (hg : Gl X x) (hx : ∀ σ, PassesAt CX X σ (E σ)) (ha : PA X (e :: es) t) (hdb : (x == ("__debug__" : Str)) = false := by decide)
    (he : starEach (e :: es) X.env = (false, eval e X.env) :: starEach es X.env := by rfl) (hpl : (backTo pos (starEach es X.env)).any (·.1) = false := by rfl) : PE X (.Call (.Name x q) (e :: es) [] pos) (tCallS sp E t) := by
  obtain ⟨f, fd, F, hm, hk, hb⟩ := R.ex
  exact pe_callS F hr hg hm hk hb hx ha hdb he hpl
end
end Fb

set_option Elab.async false
set_option linter.all false
set_option maxRecDepth 100000
set_option maxHeartbeats 4000000
namespace K0
open PySem PySem.Spec PyProof.Rows L2 Fb
abbrev sRaise1 : Stmt := top 38
abbrev sRaise : Stmt := top 39
abbrev sCaught : Stmt := top 40
def spRaise1 (K : PySem.W.Frag) (C : Str → Addr) : Sp := fun vs H Q E => ∃ (x : Str) (fl : List Str) (a : V), vs = [.str x, a] ∧ (x, fl) ∈ one ∧ tRai K (C x) x fl [a] H E
def spRaise (K : PySem.W.Frag) (C : Str → Addr) : Sp := fun vs H Q E => ∃ (x : Str) (fl : List Str) (a b : V), vs = [.str x, a, b] ∧ (x, fl) ∈ tbl ∧ tRai K (C x) x fl ([a, b].take fl.length) H E
section
variable {P : Program} {w : World} {K : PySem.W.Frag} {mg : Str → Option Value} {base : Heap} {C : Str → Addr}
theorem scRaise1 : FnScope ["pick", "a"] ["pick", "a"] (defScope sRaise1) := ⟨rfl, rfl, rfl, by decide +kernel, rfl, by decide +kernel, by decide +kernel⟩
theorem ok_raise1 {f : Addr} {fd : FuncData} (F : Fun K "_law_raise_one" "_law_raise_one" sRaise1 f fd) (T : Tab P w K mg base C) : FnOk P w K mg base (L2.CX P w) 3 f fd ["pick", "a"] (spRaise1 K C) := by
  refine F.okX scRaise1 (fun vs H Q E h => ?_) (fun cdv A outer s H vs Q E hr h => ?_)
  · obtain ⟨x, fl, a, rfl, _⟩ := h
    rfl
  obtain ⟨x, fl, a, rfl, hm, q⟩ := h
  refine ⟨_, (pss_cons (ps_if (pt_cmpR op_eq (pv 0) pe_str (nomark _)) (pss_one (ps_raise rfl (takes_of rfl rfl rfl rfl) (pmk_cl1 T.cBadName hr rfl pass0 (pa_cons (pv 1) pa_nil)))) pss_nil)
    (pss_cons (ps_if (pt_cmpR op_eq (pv 0) pe_str (nomark _)) (pss_one (ps_raise rfl (takes_of rfl rfl rfl rfl) (pmk_cl1 T.cBadLetters hr rfl pass0 (pa_cons (pv 1) pa_nil)))) pss_nil)
    (pss_cons (ps_if (pt_cmpR op_eq (pv 0) pe_str (nomark _)) (pss_one (ps_raise rfl (takes_of rfl rfl rfl rfl) (pmk_cl1 T.cBadRun hr rfl pass0 (pa_cons (pv 1) pa_nil)))) pss_nil)
    (pss_cons (ps_if (pt_cmpR op_eq (pv 0) pe_str (nomark _)) (pss_one (ps_raise rfl (takes_of rfl rfl rfl rfl) (pmk_cl1 T.cBadColumn hr rfl pass0 (pa_cons (pv 1) pa_nil)))) pss_nil)
    (pss_cons (ps_if (pt_cmpR op_eq (pv 0) pe_str (nomark _)) (pss_one (ps_raise rfl (takes_of rfl rfl rfl rfl) (pmk_cl1 T.cBadNumber hr rfl pass0 (pa_cons (pv 1) pa_nil)))) pss_nil)
    (pss_cons (ps_if (pt_cmpR op_eq (pv 0) pe_str (nomark _)) (pss_one (ps_raise rfl (takes_of rfl rfl rfl rfl) (pmk_cl1 T.cBadTable hr rfl pass0 (pa_cons (pv 1) pa_nil)))) pss_nil)
    (pss_cons (ps_if (pt_cmpR op_eq (pv 0) pe_str (nomark _)) (pss_one (ps_raise rfl (takes_of rfl rfl rfl rfl) (pmk_cl1 T.cHeldTwice hr rfl pass0 (pa_cons (pv 1) pa_nil)))) pss_nil)
    (pss_cons (ps_if (pt_cmpR op_eq (pv 0) pe_str (nomark _)) (pss_one (ps_raise rfl (takes_of rfl rfl rfl rfl) (pmk_cl1 T.cBreaksBeside hr rfl pass0 (pa_cons (pv 1) pa_nil)))) pss_nil)
    (pss_cons (ps_if (pt_cmpR op_eq (pv 0) pe_str (nomark _)) (pss_one (ps_raise rfl (takes_of rfl rfl rfl rfl) (pmk_cl1 T.cNotSo hr rfl pass0 (pa_cons (pv 1) pa_nil)))) pss_nil)
    (pss_cons (ps_if (pt_cmpR op_eq (pv 0) pe_str (nomark _)) (pss_one (ps_raise rfl (takes_of rfl rfl rfl rfl) (pmk_cl1 T.cNotEnough hr rfl pass0 (pa_cons (pv 1) pa_nil)))) pss_nil)
    (pss_cons (ps_if (pt_cmpR op_eq (pv 0) pe_str (nomark _)) (pss_one (ps_raise rfl (takes_of rfl rfl rfl rfl) (pmk_cl1 T.cEndedRun hr rfl pass0 (pa_cons (pv 1) pa_nil)))) pss_nil)
    (pss_cons (ps_if (pt_cmpR op_eq (pv 0) pe_str (nomark _)) (pss_one (ps_raise rfl (takes_of rfl rfl rfl rfl) (pmk_cl1 T.cUnknownPart hr rfl pass0 (pa_cons (pv 1) pa_nil)))) pss_nil)
    (pss_cons (ps_if (pt_cmpR op_eq (pv 0) pe_str (nomark _)) (pss_one (ps_raise rfl (takes_of rfl rfl rfl rfl) (pmk_cl1 T.cUnknownName hr rfl pass0 (pa_cons (pv 1) pa_nil)))) pss_nil)
    (pss_cons (ps_if (pt_cmpR op_eq (pv 0) pe_str (nomark _)) (pss_one (ps_raise rfl (takes_of rfl rfl rfl rfl) (pmk_cl1 T.cUnknownRun hr rfl pass0 (pa_cons (pv 1) pa_nil)))) pss_nil)
    (pss_cons (ps_if (pt_cmpR op_eq (pv 0) pe_str (nomark _)) (pss_one (ps_raise rfl (takes_of rfl rfl rfl rfl) (pmk_cl1 T.cNotHeld hr rfl pass0 (pa_cons (pv 1) pa_nil)))) pss_nil)
    (pss_one (ps_ret pe_non))))))))))))))))), ?_⟩
  simp only [one, List.mem_cons, List.not_mem_nil, or_false, Prod.mk.injEq] at hm
  rcases hm with ⟨rfl, rfl⟩ | ⟨rfl, rfl⟩ | ⟨rfl, rfl⟩ | ⟨rfl, rfl⟩ | ⟨rfl, rfl⟩ | ⟨rfl, rfl⟩ | ⟨rfl, rfl⟩ | ⟨rfl, rfl⟩ | ⟨rfl, rfl⟩ | ⟨rfl, rfl⟩ | ⟨rfl, rfl⟩ | ⟨rfl, rfl⟩ | ⟨rfl, rfl⟩ | ⟨rfl, rfl⟩ | ⟨rfl, rfl⟩
  · exact ⟨_, rfl, rfl, _, rfl, iteY (by decide +kernel) ⟨_, rfl, rfl, rai_sp q⟩⟩
  · refine ⟨_, rfl, rfl, _, rfl, iteN (by decide +kernel) ?_⟩
    exact ⟨_, rfl, rfl, _, rfl, iteY (by decide +kernel) ⟨_, rfl, rfl, rai_sp q⟩⟩
  · refine ⟨_, rfl, rfl, _, rfl, iteN (by decide +kernel) ?_⟩
    refine ⟨_, rfl, rfl, _, rfl, iteN (by decide +kernel) ?_⟩
    exact ⟨_, rfl, rfl, _, rfl, iteY (by decide +kernel) ⟨_, rfl, rfl, rai_sp q⟩⟩
  · refine ⟨_, rfl, rfl, _, rfl, iteN (by decide +kernel) ?_⟩
    refine ⟨_, rfl, rfl, _, rfl, iteN (by decide +kernel) ?_⟩
    refine ⟨_, rfl, rfl, _, rfl, iteN (by decide +kernel) ?_⟩
    exact ⟨_, rfl, rfl, _, rfl, iteY (by decide +kernel) ⟨_, rfl, rfl, rai_sp q⟩⟩
  · refine ⟨_, rfl, rfl, _, rfl, iteN (by decide +kernel) ?_⟩
    refine ⟨_, rfl, rfl, _, rfl, iteN (by decide +kernel) ?_⟩
    refine ⟨_, rfl, rfl, _, rfl, iteN (by decide +kernel) ?_⟩
    refine ⟨_, rfl, rfl, _, rfl, iteN (by decide +kernel) ?_⟩
    exact ⟨_, rfl, rfl, _, rfl, iteY (by decide +kernel) ⟨_, rfl, rfl, rai_sp q⟩⟩
  · refine ⟨_, rfl, rfl, _, rfl, iteN (by decide +kernel) ?_⟩
    refine ⟨_, rfl, rfl, _, rfl, iteN (by decide +kernel) ?_⟩
    refine ⟨_, rfl, rfl, _, rfl, iteN (by decide +kernel) ?_⟩
    refine ⟨_, rfl, rfl, _, rfl, iteN (by decide +kernel) ?_⟩
    refine ⟨_, rfl, rfl, _, rfl, iteN (by decide +kernel) ?_⟩
    exact ⟨_, rfl, rfl, _, rfl, iteY (by decide +kernel) ⟨_, rfl, rfl, rai_sp q⟩⟩
  · refine ⟨_, rfl, rfl, _, rfl, iteN (by decide +kernel) ?_⟩
    refine ⟨_, rfl, rfl, _, rfl, iteN (by decide +kernel) ?_⟩
    refine ⟨_, rfl, rfl, _, rfl, iteN (by decide +kernel) ?_⟩
    refine ⟨_, rfl, rfl, _, rfl, iteN (by decide +kernel) ?_⟩
    refine ⟨_, rfl, rfl, _, rfl, iteN (by decide +kernel) ?_⟩
    refine ⟨_, rfl, rfl, _, rfl, iteN (by decide +kernel) ?_⟩
    exact ⟨_, rfl, rfl, _, rfl, iteY (by decide +kernel) ⟨_, rfl, rfl, rai_sp q⟩⟩
  · refine ⟨_, rfl, rfl, _, rfl, iteN (by decide +kernel) ?_⟩
    refine ⟨_, rfl, rfl, _, rfl, iteN (by decide +kernel) ?_⟩
    refine ⟨_, rfl, rfl, _, rfl, iteN (by decide +kernel) ?_⟩
    refine ⟨_, rfl, rfl, _, rfl, iteN (by decide +kernel) ?_⟩
    refine ⟨_, rfl, rfl, _, rfl, iteN (by decide +kernel) ?_⟩
    refine ⟨_, rfl, rfl, _, rfl, iteN (by decide +kernel) ?_⟩
    refine ⟨_, rfl, rfl, _, rfl, iteN (by decide +kernel) ?_⟩
    exact ⟨_, rfl, rfl, _, rfl, iteY (by decide +kernel) ⟨_, rfl, rfl, rai_sp q⟩⟩
  · refine ⟨_, rfl, rfl, _, rfl, iteN (by decide +kernel) ?_⟩
    refine ⟨_, rfl, rfl, _, rfl, iteN (by decide +kernel) ?_⟩
    refine ⟨_, rfl, rfl, _, rfl, iteN (by decide +kernel) ?_⟩
    refine ⟨_, rfl, rfl, _, rfl, iteN (by decide +kernel) ?_⟩
    refine ⟨_, rfl, rfl, _, rfl, iteN (by decide +kernel) ?_⟩
    refine ⟨_, rfl, rfl, _, rfl, iteN (by decide +kernel) ?_⟩
    refine ⟨_, rfl, rfl, _, rfl, iteN (by decide +kernel) ?_⟩
    refine ⟨_, rfl, rfl, _, rfl, iteN (by decide +kernel) ?_⟩
    exact ⟨_, rfl, rfl, _, rfl, iteY (by decide +kernel) ⟨_, rfl, rfl, rai_sp q⟩⟩
  · refine ⟨_, rfl, rfl, _, rfl, iteN (by decide +kernel) ?_⟩
    refine ⟨_, rfl, rfl, _, rfl, iteN (by decide +kernel) ?_⟩
    refine ⟨_, rfl, rfl, _, rfl, iteN (by decide +kernel) ?_⟩
    refine ⟨_, rfl, rfl, _, rfl, iteN (by decide +kernel) ?_⟩
    refine ⟨_, rfl, rfl, _, rfl, iteN (by decide +kernel) ?_⟩
    refine ⟨_, rfl, rfl, _, rfl, iteN (by decide +kernel) ?_⟩
    refine ⟨_, rfl, rfl, _, rfl, iteN (by decide +kernel) ?_⟩
    refine ⟨_, rfl, rfl, _, rfl, iteN (by decide +kernel) ?_⟩
    refine ⟨_, rfl, rfl, _, rfl, iteN (by decide +kernel) ?_⟩
    exact ⟨_, rfl, rfl, _, rfl, iteY (by decide +kernel) ⟨_, rfl, rfl, rai_sp q⟩⟩
  · refine ⟨_, rfl, rfl, _, rfl, iteN (by decide +kernel) ?_⟩
    refine ⟨_, rfl, rfl, _, rfl, iteN (by decide +kernel) ?_⟩
    refine ⟨_, rfl, rfl, _, rfl, iteN (by decide +kernel) ?_⟩
    refine ⟨_, rfl, rfl, _, rfl, iteN (by decide +kernel) ?_⟩
    refine ⟨_, rfl, rfl, _, rfl, iteN (by decide +kernel) ?_⟩
    refine ⟨_, rfl, rfl, _, rfl, iteN (by decide +kernel) ?_⟩
    refine ⟨_, rfl, rfl, _, rfl, iteN (by decide +kernel) ?_⟩
    refine ⟨_, rfl, rfl, _, rfl, iteN (by decide +kernel) ?_⟩
    refine ⟨_, rfl, rfl, _, rfl, iteN (by decide +kernel) ?_⟩
    refine ⟨_, rfl, rfl, _, rfl, iteN (by decide +kernel) ?_⟩
    exact ⟨_, rfl, rfl, _, rfl, iteY (by decide +kernel) ⟨_, rfl, rfl, rai_sp q⟩⟩
  · refine ⟨_, rfl, rfl, _, rfl, iteN (by decide +kernel) ?_⟩
    refine ⟨_, rfl, rfl, _, rfl, iteN (by decide +kernel) ?_⟩
    refine ⟨_, rfl, rfl, _, rfl, iteN (by decide +kernel) ?_⟩
    refine ⟨_, rfl, rfl, _, rfl, iteN (by decide +kernel) ?_⟩
    refine ⟨_, rfl, rfl, _, rfl, iteN (by decide +kernel) ?_⟩
    refine ⟨_, rfl, rfl, _, rfl, iteN (by decide +kernel) ?_⟩
    refine ⟨_, rfl, rfl, _, rfl, iteN (by decide +kernel) ?_⟩
    refine ⟨_, rfl, rfl, _, rfl, iteN (by decide +kernel) ?_⟩
    refine ⟨_, rfl, rfl, _, rfl, iteN (by decide +kernel) ?_⟩
    refine ⟨_, rfl, rfl, _, rfl, iteN (by decide +kernel) ?_⟩
    refine ⟨_, rfl, rfl, _, rfl, iteN (by decide +kernel) ?_⟩
    exact ⟨_, rfl, rfl, _, rfl, iteY (by decide +kernel) ⟨_, rfl, rfl, rai_sp q⟩⟩
  · refine ⟨_, rfl, rfl, _, rfl, iteN (by decide +kernel) ?_⟩
    refine ⟨_, rfl, rfl, _, rfl, iteN (by decide +kernel) ?_⟩
    refine ⟨_, rfl, rfl, _, rfl, iteN (by decide +kernel) ?_⟩
    refine ⟨_, rfl, rfl, _, rfl, iteN (by decide +kernel) ?_⟩
    refine ⟨_, rfl, rfl, _, rfl, iteN (by decide +kernel) ?_⟩
    refine ⟨_, rfl, rfl, _, rfl, iteN (by decide +kernel) ?_⟩
    refine ⟨_, rfl, rfl, _, rfl, iteN (by decide +kernel) ?_⟩
    refine ⟨_, rfl, rfl, _, rfl, iteN (by decide +kernel) ?_⟩
    refine ⟨_, rfl, rfl, _, rfl, iteN (by decide +kernel) ?_⟩
    refine ⟨_, rfl, rfl, _, rfl, iteN (by decide +kernel) ?_⟩
    refine ⟨_, rfl, rfl, _, rfl, iteN (by decide +kernel) ?_⟩
    refine ⟨_, rfl, rfl, _, rfl, iteN (by decide +kernel) ?_⟩
    exact ⟨_, rfl, rfl, _, rfl, iteY (by decide +kernel) ⟨_, rfl, rfl, rai_sp q⟩⟩
  · refine ⟨_, rfl, rfl, _, rfl, iteN (by decide +kernel) ?_⟩
    refine ⟨_, rfl, rfl, _, rfl, iteN (by decide +kernel) ?_⟩
    refine ⟨_, rfl, rfl, _, rfl, iteN (by decide +kernel) ?_⟩
    refine ⟨_, rfl, rfl, _, rfl, iteN (by decide +kernel) ?_⟩
    refine ⟨_, rfl, rfl, _, rfl, iteN (by decide +kernel) ?_⟩
    refine ⟨_, rfl, rfl, _, rfl, iteN (by decide +kernel) ?_⟩
    refine ⟨_, rfl, rfl, _, rfl, iteN (by decide +kernel) ?_⟩
    refine ⟨_, rfl, rfl, _, rfl, iteN (by decide +kernel) ?_⟩
    refine ⟨_, rfl, rfl, _, rfl, iteN (by decide +kernel) ?_⟩
    refine ⟨_, rfl, rfl, _, rfl, iteN (by decide +kernel) ?_⟩
    refine ⟨_, rfl, rfl, _, rfl, iteN (by decide +kernel) ?_⟩
    refine ⟨_, rfl, rfl, _, rfl, iteN (by decide +kernel) ?_⟩
    refine ⟨_, rfl, rfl, _, rfl, iteN (by decide +kernel) ?_⟩
    exact ⟨_, rfl, rfl, _, rfl, iteY (by decide +kernel) ⟨_, rfl, rfl, rai_sp q⟩⟩
  · refine ⟨_, rfl, rfl, _, rfl, iteN (by decide +kernel) ?_⟩
    refine ⟨_, rfl, rfl, _, rfl, iteN (by decide +kernel) ?_⟩
    refine ⟨_, rfl, rfl, _, rfl, iteN (by decide +kernel) ?_⟩
    refine ⟨_, rfl, rfl, _, rfl, iteN (by decide +kernel) ?_⟩
    refine ⟨_, rfl, rfl, _, rfl, iteN (by decide +kernel) ?_⟩
    refine ⟨_, rfl, rfl, _, rfl, iteN (by decide +kernel) ?_⟩
    refine ⟨_, rfl, rfl, _, rfl, iteN (by decide +kernel) ?_⟩
    refine ⟨_, rfl, rfl, _, rfl, iteN (by decide +kernel) ?_⟩
    refine ⟨_, rfl, rfl, _, rfl, iteN (by decide +kernel) ?_⟩
    refine ⟨_, rfl, rfl, _, rfl, iteN (by decide +kernel) ?_⟩
    refine ⟨_, rfl, rfl, _, rfl, iteN (by decide +kernel) ?_⟩
    refine ⟨_, rfl, rfl, _, rfl, iteN (by decide +kernel) ?_⟩
    refine ⟨_, rfl, rfl, _, rfl, iteN (by decide +kernel) ?_⟩
    refine ⟨_, rfl, rfl, _, rfl, iteN (by decide +kernel) ?_⟩
    exact ⟨_, rfl, rfl, _, rfl, iteY (by decide +kernel) ⟨_, rfl, rfl, rai_sp q⟩⟩
theorem scRaise : FnScope ["pick", "a", "b"] ["pick", "a", "b"] (defScope sRaise) := ⟨rfl, rfl, rfl, by decide +kernel, rfl, by decide +kernel, by decide +kernel⟩
theorem ok_raise {f : Addr} {fd : FuncData} (F : Fun K "_law_raise" "_law_raise" sRaise f fd) (T : Tab P w K mg base C) (R1 : Rd P w K mg base (L2.CX P w) 3 "_law_raise_one" ["pick", "a"] (spRaise1 K C)) : FnOk P w K mg base (L2.CX P w) 4 f fd ["pick", "a", "b"] (spRaise K C) := by
  refine F.okX scRaise (fun vs H Q E h => ?_) (fun cdv A outer s H vs Q E hr h => ?_)
  · obtain ⟨x, fl, a, b, rfl, _⟩ := h
    rfl
  obtain ⟨x, fl, a, b, rfl, hm, q⟩ := h
  have hr2 := hr.mono (by decide : 2 ≤ 3)
  refine ⟨_, (pss_cons (ps_if (pt_cmpR op_eq (pv 0) pe_str (nomark _)) (pss_one (ps_raise rfl (takes_of rfl rfl rfl rfl) (pmk_cl2 T.cBadText hr2 rfl pass0 (pa_cons (pv 1) (pa_cons (pv 2) pa_nil))))) pss_nil)
    (pss_cons (ps_if (pt_cmpR op_eq (pv 0) pe_str (nomark _)) (pss_one (ps_raise rfl (takes_of rfl rfl rfl rfl) (pmk_cl2 T.cUnlikeParts hr2 rfl pass0 (pa_cons (pv 1) (pa_cons (pv 2) pa_nil))))) pss_nil)
    (pss_cons (ps_if (pt_cmpR op_eq (pv 0) pe_str (nomark _)) (pss_one (ps_raise rfl (takes_of rfl rfl rfl rfl) (pmk_cl2 T.cUnlikeTapes hr2 rfl pass0 (pa_cons (pv 1) (pa_cons (pv 2) pa_nil))))) pss_nil)
    (pss_cons (ps_if (pt_cmpR op_eq (pv 0) pe_str (nomark _)) (pss_one (ps_raise rfl (takes_of rfl rfl rfl rfl) (pmk_cl2 T.cTooMany hr2 rfl pass0 (pa_cons (pv 1) (pa_cons (pv 2) pa_nil))))) pss_nil)
    (pss_cons (ps_if (pt_cmpR op_eq (pv 0) pe_str (nomark _)) (pss_one (ps_raise rfl (takes_of rfl rfl rfl rfl) (pmk_cl2 T.cCantAnswer hr2 rfl pass0 (pa_cons (pv 1) (pa_cons (pv 2) pa_nil))))) pss_nil)
    (pss_cons (ps_if (pt_cmpR op_eq (pv 0) pe_str (nomark _)) (pss_one (ps_raise rfl (takes_of rfl rfl rfl rfl) (pmk_cl0 T.cBadDeed hr2 rfl pass0))) pss_nil)
    (pss_cons (ps_if (pt_cmpR op_eq (pv 0) pe_str (nomark _)) (pss_one (ps_raise rfl (takes_of rfl rfl rfl rfl) (pmk_cl0 T.cNoDraft hr2 rfl pass0))) pss_nil)
    (pss_cons (ps_if (pt_cmpR op_eq (pv 0) pe_str (nomark _)) (pss_one (ps_raise rfl (takes_of rfl rfl rfl rfl) (pmk_cl0 T.cInDraft hr2 rfl pass0))) pss_nil)
    (pss_cons (ps_if (pt_cmpR op_eq (pv 0) pe_str (nomark _)) (pss_one (ps_raise rfl (takes_of rfl rfl rfl rfl) (pmk_cl0 T.cNothingLeft hr2 rfl pass0))) pss_nil)
    (pss_one (ps_expr (pe_rdS R1 hr rfl (fun σ => passAt (takes_of rfl rfl rfl rfl) σ) (pa_cons (pv 0) (pa_cons (pv 1) pa_nil)))))))))))))), ?_⟩
  by_cases h1 : (x, fl) ∈ one
  · have hl : fl.length = 1 ∧ decide (V.str x = V.str "BadText") = false ∧ decide (V.str x = V.str "UnlikeParts") = false ∧ decide (V.str x = V.str "UnlikeTapes") = false ∧ decide (V.str x = V.str "TooMany") = false ∧ decide (V.str x = V.str "CantAnswer") = false ∧ decide (V.str x = V.str "BadDeed") = false ∧ decide (V.str x = V.str "NoDraft") = false ∧ decide (V.str x = V.str "InDraft") = false ∧ decide (V.str x = V.str "NothingLeft") = false := by
      simp only [one, List.mem_cons, List.not_mem_nil, or_false, Prod.mk.injEq] at h1
      rcases h1 with ⟨rfl, rfl⟩ | ⟨rfl, rfl⟩ | ⟨rfl, rfl⟩ | ⟨rfl, rfl⟩ | ⟨rfl, rfl⟩ | ⟨rfl, rfl⟩ | ⟨rfl, rfl⟩ | ⟨rfl, rfl⟩ | ⟨rfl, rfl⟩ | ⟨rfl, rfl⟩ | ⟨rfl, rfl⟩ | ⟨rfl, rfl⟩ | ⟨rfl, rfl⟩ | ⟨rfl, rfl⟩ | ⟨rfl, rfl⟩ <;> exact ⟨rfl, by decide +kernel, by decide +kernel, by decide +kernel, by decide +kernel, by decide +kernel, by decide +kernel, by decide +kernel, by decide +kernel, by decide +kernel⟩
    obtain ⟨l1, e0, e1, e2, e3, e4, e5, e6, e7, e8⟩ := hl
    rw [l1] at q
    refine ⟨_, rfl, rfl, _, rfl, iteN e0 ?_⟩
    refine ⟨_, rfl, rfl, _, rfl, iteN e1 ?_⟩
    refine ⟨_, rfl, rfl, _, rfl, iteN e2 ?_⟩
    refine ⟨_, rfl, rfl, _, rfl, iteN e3 ?_⟩
    refine ⟨_, rfl, rfl, _, rfl, iteN e4 ?_⟩
    refine ⟨_, rfl, rfl, _, rfl, iteN e5 ?_⟩
    refine ⟨_, rfl, rfl, _, rfl, iteN e6 ?_⟩
    refine ⟨_, rfl, rfl, _, rfl, iteN e7 ?_⟩
    refine ⟨_, rfl, rfl, _, rfl, iteN e8 ?_⟩
    exact ⟨_, rfl, _, rfl, x, fl, a, rfl, h1, q⟩
  · have h2 : (x, fl) ∈ two ++ zero := by
      rcases List.mem_append.mp hm with z | z
      · exact List.mem_append.mpr (.inl z)
      · rcases List.mem_append.mp z with z | z
        · exact absurd z h1
        · exact List.mem_append.mpr (.inr z)
    clear h1 hm
    simp only [two, zero, List.cons_append, List.nil_append, List.mem_cons, List.not_mem_nil, or_false, Prod.mk.injEq] at h2
    rcases h2 with ⟨rfl, rfl⟩ | ⟨rfl, rfl⟩ | ⟨rfl, rfl⟩ | ⟨rfl, rfl⟩ | ⟨rfl, rfl⟩ | ⟨rfl, rfl⟩ | ⟨rfl, rfl⟩ | ⟨rfl, rfl⟩ | ⟨rfl, rfl⟩
    · exact ⟨_, rfl, rfl, _, rfl, iteY (by decide +kernel) ⟨_, rfl, _, rfl, rfl, rai_sp q⟩⟩
    · refine ⟨_, rfl, rfl, _, rfl, iteN (by decide +kernel) ?_⟩
      exact ⟨_, rfl, rfl, _, rfl, iteY (by decide +kernel) ⟨_, rfl, _, rfl, rfl, rai_sp q⟩⟩
    · refine ⟨_, rfl, rfl, _, rfl, iteN (by decide +kernel) ?_⟩
      refine ⟨_, rfl, rfl, _, rfl, iteN (by decide +kernel) ?_⟩
      exact ⟨_, rfl, rfl, _, rfl, iteY (by decide +kernel) ⟨_, rfl, _, rfl, rfl, rai_sp q⟩⟩
    · refine ⟨_, rfl, rfl, _, rfl, iteN (by decide +kernel) ?_⟩
      refine ⟨_, rfl, rfl, _, rfl, iteN (by decide +kernel) ?_⟩
      refine ⟨_, rfl, rfl, _, rfl, iteN (by decide +kernel) ?_⟩
      exact ⟨_, rfl, rfl, _, rfl, iteY (by decide +kernel) ⟨_, rfl, _, rfl, rfl, rai_sp q⟩⟩
    · refine ⟨_, rfl, rfl, _, rfl, iteN (by decide +kernel) ?_⟩
      refine ⟨_, rfl, rfl, _, rfl, iteN (by decide +kernel) ?_⟩
      refine ⟨_, rfl, rfl, _, rfl, iteN (by decide +kernel) ?_⟩
      refine ⟨_, rfl, rfl, _, rfl, iteN (by decide +kernel) ?_⟩
      exact ⟨_, rfl, rfl, _, rfl, iteY (by decide +kernel) ⟨_, rfl, _, rfl, rfl, rai_sp q⟩⟩
    · refine ⟨_, rfl, rfl, _, rfl, iteN (by decide +kernel) ?_⟩
      refine ⟨_, rfl, rfl, _, rfl, iteN (by decide +kernel) ?_⟩
      refine ⟨_, rfl, rfl, _, rfl, iteN (by decide +kernel) ?_⟩
      refine ⟨_, rfl, rfl, _, rfl, iteN (by decide +kernel) ?_⟩
      refine ⟨_, rfl, rfl, _, rfl, iteN (by decide +kernel) ?_⟩
      exact ⟨_, rfl, rfl, _, rfl, iteY (by decide +kernel) ⟨rfl, rai_sp q⟩⟩
    · refine ⟨_, rfl, rfl, _, rfl, iteN (by decide +kernel) ?_⟩
      refine ⟨_, rfl, rfl, _, rfl, iteN (by decide +kernel) ?_⟩
      refine ⟨_, rfl, rfl, _, rfl, iteN (by decide +kernel) ?_⟩
      refine ⟨_, rfl, rfl, _, rfl, iteN (by decide +kernel) ?_⟩
      refine ⟨_, rfl, rfl, _, rfl, iteN (by decide +kernel) ?_⟩
      refine ⟨_, rfl, rfl, _, rfl, iteN (by decide +kernel) ?_⟩
      exact ⟨_, rfl, rfl, _, rfl, iteY (by decide +kernel) ⟨rfl, rai_sp q⟩⟩
    · refine ⟨_, rfl, rfl, _, rfl, iteN (by decide +kernel) ?_⟩
      refine ⟨_, rfl, rfl, _, rfl, iteN (by decide +kernel) ?_⟩
      refine ⟨_, rfl, rfl, _, rfl, iteN (by decide +kernel) ?_⟩
      refine ⟨_, rfl, rfl, _, rfl, iteN (by decide +kernel) ?_⟩
      refine ⟨_, rfl, rfl, _, rfl, iteN (by decide +kernel) ?_⟩
      refine ⟨_, rfl, rfl, _, rfl, iteN (by decide +kernel) ?_⟩
      refine ⟨_, rfl, rfl, _, rfl, iteN (by decide +kernel) ?_⟩
      exact ⟨_, rfl, rfl, _, rfl, iteY (by decide +kernel) ⟨rfl, rai_sp q⟩⟩
    · refine ⟨_, rfl, rfl, _, rfl, iteN (by decide +kernel) ?_⟩
      refine ⟨_, rfl, rfl, _, rfl, iteN (by decide +kernel) ?_⟩
      refine ⟨_, rfl, rfl, _, rfl, iteN (by decide +kernel) ?_⟩
      refine ⟨_, rfl, rfl, _, rfl, iteN (by decide +kernel) ?_⟩
      refine ⟨_, rfl, rfl, _, rfl, iteN (by decide +kernel) ?_⟩
      refine ⟨_, rfl, rfl, _, rfl, iteN (by decide +kernel) ?_⟩
      refine ⟨_, rfl, rfl, _, rfl, iteN (by decide +kernel) ?_⟩
      refine ⟨_, rfl, rfl, _, rfl, iteN (by decide +kernel) ?_⟩
      exact ⟨_, rfl, rfl, _, rfl, iteY (by decide +kernel) ⟨rfl, rai_sp q⟩⟩
end
end K0

set_option Elab.async false
set_option linter.all false
set_option maxRecDepth 100000
set_option maxHeartbeats 4000000
namespace K0
open PySem PySem.Spec PyProof.Rows L2 Fb
/-- by what it is caught -/
def baseOf (x : Str) : Str := if x = "NothingLeft" then x else if x ∈ miss then "Missing" else "RuleError"
def hand : List Str := ["RuleError", "Missing", "NothingLeft"]
structure Ex (K : PySem.W.Frag) (mg : Str → Option Value) (C : Str → Addr) : Prop where
  ex : ∀ x fl, (x, fl) ∈ tbl → ∀ n ∈ hand, PySem.W.exmOne K (.ref (C x)) (.ref (C n)) = some (decide (n = baseOf x))
def spCaught (K : PySem.W.Frag) : Sp := fun vs H Q _ => ∃ (x : Str) (fl : List Str) (a b : V), vs = [.str x, a, b] ∧ (x, fl) ∈ tbl ∧ Fm K H a ∧ Fm K H b ∧ ∀ (l : Addr) (H' : Hp), Same H H' → H l = none → H' l = some (.lst (.str (baseOf x) :: .str x :: [a, b].take fl.length)) → Q (.ref l) H'
section
variable {P : Program} {w : World} {K : PySem.W.Frag} {mg : Str → Option Value} {base : Heap} {C : Str → Addr}
theorem scCaught : FnScope ["pick", "a", "b", "error"] ["pick", "a", "b"] (defScope sCaught) := ⟨rfl, rfl, rfl, by decide +kernel, rfl, by decide +kernel, by decide +kernel⟩
theorem ok_caught {f : Addr} {fd : FuncData} (F : Fun K "_law_caught" "_law_caught" sCaught f fd) (T : Tab P w K mg base C) (M : Kf K mg C) (MX : Ex K mg C) (R : Rd P w K mg base (L2.CX P w) 4 "_law_raise" ["pick", "a", "b"] (spRaise K C)) (V : RdW P w K mg base CX0 1 "_law_values" ["pick", "error"] (spValues K C)) :
    FnOk P w K mg base CX0 5 f fd ["pick", "a", "b"] (spCaught K) := by
  refine F.ok scCaught (fun vs H Q E h => ?_) (fun cdv A outer s H vs Q E hr h => ?_)
  · obtain ⟨x, fl, a, b, rfl, _⟩ := h
    rfl
  obtain ⟨x, fl, a, b, rfl, hm, fa, fb, q⟩ := h
  have hrH : RoomH 1 (A.deeper (envOfC "_law_caught" (defScope sCaught) s.heap.objs.size f cdv)) := RoomH.of (hr.mono (by decide : 1 ≤ 4))
  refine ⟨_, pss_cons (ps_tryN rfl rfl scCaught.nd rfl takes0 (fun W pn xe tk _ => pss_one (ps_expr (pe_rdS R hr rfl (fun σ => passAt tk σ) (pa_cons (pv 0) (pa_cons (pv 1) (pa_cons (pv 2) pa_nil))))))
      (.cons (i := 3) rfl rfl ⟨rfl, by decide, .inl M.gR⟩ (fun a pn => pss_one (ps_ret (pe_op op_cat (pe_lst (pa_cons pe_str pa_nil)) (pe_rdW V hrH.marked rfl pass0 (pa_cons (pv 0) (pa_cons (pv 3) pa_nil))))))
      (.cons (i := 3) rfl rfl ⟨rfl, by decide, .inl M.gM⟩ (fun a pn => pss_one (ps_ret (pe_op op_cat (pe_lst (pa_cons pe_str pa_nil)) (pe_rdW V hrH.marked rfl pass0 (pa_cons (pv 0) (pa_cons (pv 3) pa_nil))))))
      (.cons (i := 3) rfl rfl ⟨rfl, by decide, .inl T.cNothingLeft.gC⟩ (fun a pn => pss_one (ps_ret (pe_op op_cat (pe_lst (pa_cons pe_str pa_nil)) (pe_rdW V hrH.marked rfl pass0 (pa_cons (pv 0) (pa_cons (pv 3) pa_nil)))))) .nil))))
    (pss_one (ps_ret (pe_lst (pa_cons pe_str pa_nil)))), ?_⟩
  refine ⟨_, rfl, _, rfl, _, rfl, x, fl, a, b, rfl, hm, ?_⟩
  have hle : fl.length ≤ 2 ∧ baseOf x ∈ hand := by
    have e : ∀ p ∈ tbl, p.2.length ≤ 2 ∧ baseOf p.1 ∈ hand := by decide +kernel
    exact e _ hm
  obtain ⟨hle, hbx⟩ := hle
  have hlen : ([a, b].take fl.length).length = fl.length := by
    rw [List.length_take]
    exact Nat.min_eq_left hle
  refine ⟨hlen, fun y hy => ?_, fun d H1 s1 hd hx => ⟨_, MX.ex x fl hm "RuleError" (by simp [hand]), fun hb a' oe vs na c1 c2 c3 => ?_, fun hb1 => ⟨_, MX.ex x fl hm "Missing" (by simp [hand]), fun hb a' oe vs na c1 c2 c3 => ?_, fun hb2 => ⟨_, MX.ex x fl hm "NothingLeft" (by simp [hand]), fun hb a' oe vs na c1 c2 c3 => ?_, fun hb3 => ?_⟩⟩⟩⟩
  · have hy2 := List.mem_of_mem_take hy
    simp at hy2
    rcases hy2 with rfl | rfl
    · exact fa
    · exact fb
  · have hn : ("RuleError" : Str) = baseOf x := of_decide_eq_true hb
    rw [← hn] at q
    have hda : d ≠ a' := ne_of_none hx na
    have s2 : Same H (upd H1 a' (exk a' oe)) := s1.trans (same_new na _)
    have er : Err (upd H1 a' (exk a' oe)) a' (C x) (flds x fl ([a, b].take fl.length)) := ⟨d, .inr ⟨oe, vs, upd_same, c1, c2, c3⟩, .inl ((upd_ne hda).trans hx)⟩
    refine ⟨(by show 1 ≤ sizeLine; decide), fun p hp => ⟨_, rfl, _, rfl, x, fl, a', _, rfl, hm, hlen, er.same (same_new hp _), fun l H3 s3 hl hat => ?_⟩⟩
    refine ⟨_, _, _, _, rfl, rfl, s3 _ _ upd_same, hat, ?_, fun r hr => ?_⟩
    · rw [List.length_cons, List.length_cons, hlen]
      show 0 + 1 + (fl.length + 1) ≤ sizeLine
      have hz : sizeLine = 16777216 := sizeLine_eq
      omega
    · exact q r _ ((s2.trans (same_new hp _)).trans (s3.trans (same_new hr _))) ((s2.trans (same_new hp _)).trans s3 |>.free hr) upd_same
  · have hn : ("Missing" : Str) = baseOf x := of_decide_eq_true hb
    rw [← hn] at q
    have hda : d ≠ a' := ne_of_none hx na
    have s2 : Same H (upd H1 a' (exk a' oe)) := s1.trans (same_new na _)
    have er : Err (upd H1 a' (exk a' oe)) a' (C x) (flds x fl ([a, b].take fl.length)) := ⟨d, .inr ⟨oe, vs, upd_same, c1, c2, c3⟩, .inl ((upd_ne hda).trans hx)⟩
    refine ⟨(by show 1 ≤ sizeLine; decide), fun p hp => ⟨_, rfl, _, rfl, x, fl, a', _, rfl, hm, hlen, er.same (same_new hp _), fun l H3 s3 hl hat => ?_⟩⟩
    refine ⟨_, _, _, _, rfl, rfl, s3 _ _ upd_same, hat, ?_, fun r hr => ?_⟩
    · rw [List.length_cons, List.length_cons, hlen]
      show 0 + 1 + (fl.length + 1) ≤ sizeLine
      have hz : sizeLine = 16777216 := sizeLine_eq
      omega
    · exact q r _ ((s2.trans (same_new hp _)).trans (s3.trans (same_new hr _))) ((s2.trans (same_new hp _)).trans s3 |>.free hr) upd_same
  · have hn : ("NothingLeft" : Str) = baseOf x := of_decide_eq_true hb
    rw [← hn] at q
    have hda : d ≠ a' := ne_of_none hx na
    have s2 : Same H (upd H1 a' (exk a' oe)) := s1.trans (same_new na _)
    have er : Err (upd H1 a' (exk a' oe)) a' (C x) (flds x fl ([a, b].take fl.length)) := ⟨d, .inr ⟨oe, vs, upd_same, c1, c2, c3⟩, .inl ((upd_ne hda).trans hx)⟩
    refine ⟨(by show 1 ≤ sizeLine; decide), fun p hp => ⟨_, rfl, _, rfl, x, fl, a', _, rfl, hm, hlen, er.same (same_new hp _), fun l H3 s3 hl hat => ?_⟩⟩
    refine ⟨_, _, _, _, rfl, rfl, s3 _ _ upd_same, hat, ?_, fun r hr => ?_⟩
    · rw [List.length_cons, List.length_cons, hlen]
      show 0 + 1 + (fl.length + 1) ≤ sizeLine
      have hz : sizeLine = 16777216 := sizeLine_eq
      omega
    · exact q r _ ((s2.trans (same_new hp _)).trans (s3.trans (same_new hr _))) ((s2.trans (same_new hp _)).trans s3 |>.free hr) upd_same
  · simp only [hand, List.mem_cons, List.not_mem_nil, or_false] at hbx
    have g1 := of_decide_eq_false hb1
    have g2 := of_decide_eq_false hb2
    have g3 := of_decide_eq_false hb3
    rcases hbx with z | z | z
    · exact g1 z.symm
    · exact g2 z.symm
    · exact g3 z.symm
end
end K0

set_option Elab.async false
set_option linter.all false
set_option maxRecDepth 100000
set_option maxHeartbeats 4000000
namespace Fb
open PySem PySem.Spec PyProof.Rows L2
theorem Err.del {H : Hp} {e C b : Addr} {fs : List (Str × V)} {xs : List V} (h : Err H e C fs) (hb : H b = some (.lst xs)) : Err (L2.del H b) e C fs := by
  obtain ⟨d, h1, h2⟩ := h
  have ne : ∀ {a : Addr} {o : HO}, H a = some o → (∀ ys, o ≠ .lst ys) → L2.del H b a = some o := fun {a o} e k => by
    rw [L2.del_ne (fun z => ?_)]
    · exact e
    · rw [z, hb] at e
      exact k xs (Option.some.inj e).symm
  refine ⟨d, ?_, ?_⟩
  · rcases h1 with z | ⟨oe, vs, z, r⟩
    · exact .inl (ne z fun ys q => nomatch q)
    · exact .inr ⟨oe, vs, ne z (fun ys q => nomatch q), r⟩
  · rcases h2 with z | z
    · exact .inl (ne z fun ys q => nomatch q)
    · exact .inr (ne z fun ys q => nomatch q)
theorem same_del {G H : Hp} {b : Addr} (s : Same G H) : Same (L2.del G b) (L2.del H b) := fun a o e => by
  by_cases h : a = b
  · rw [h, L2.del_same] at e
    cases e
  · rw [L2.del_ne h] at e ⊢
    exact s a o e
theorem del2_upd {H : Hp} {b D : Addr} {o : HO} : L2.del (L2.del (upd H D o) b) D = L2.del (L2.del H b) D := by
  funext a
  by_cases h : a = D
  · rw [h, L2.del_same, L2.del_same]
  · rw [L2.del_ne h, L2.del_ne h]
    by_cases h2 : a = b
    · rw [h2, L2.del_same, L2.del_same]
    · rw [L2.del_ne h2, L2.del_ne h2, upd_ne h]
theorem but_in {b : Addr} {H H' : Hp} (x : But b H H') : Same (L2.del H b) H' := L2.Same.trans x Same.undel
theorem bag_lst {l b : Addr} {H : Hp} (B : BagAt l H b) : ∃ xs, H b = some (HO.lst xs) := by
  obtain ⟨ns, i, big, seed, cnt, h, _⟩ := B.at_
  exact ⟨_, h⟩
theorem two_at {α : Type} {f : Nat → α} {k : Nat} (h : k < 2) : atI [f 0, f 1] (k : Int) = some (f k) := by
  have e : k = 0 ∨ k = 1 := by omega
  rcases e with rfl | rfl
  · rfl
  · rfl
theorem cut_take {a b : V} {n : Nat} (h : n ≤ 2) : cutV [a, b] none (some (n : Int)) = [a, b].take n := by
  have e : n = 0 ∨ n = 1 ∨ n = 2 := by omega
  rcases e with rfl | rfl | rfl <;> rfl
theorem strs_dp {K : PySem.W.Frag} {H : Hp} : ∀ ss : List Str, DpAll K H (ss.map V.str) (ss.map PyData.str)
  | [] => .nil
  | s :: r => .cons (.str s) (strs_dp r)
theorem dps_take {K : PySem.W.Frag} {H : Hp} : ∀ {vs : List V} {ds : List PyData} (n : Nat), DpAll K H vs ds → DpAll K H (vs.take n) (ds.take n)
  | [], _, 0, .nil => .nil
  | [], _, _ + 1, .nil => .nil
  | _ :: _, _, 0, .cons _ _ => .nil
  | _ :: _, _, n + 1, .cons h t => .cons h (dps_take n t)
end Fb
namespace K0
open PySem PySem.Spec PyProof.Rows L2 Fb
abbrev sSo : Stmt := top 43
structure Pr (K : PySem.W.Frag) (G : Hp) (t : Addr) (u v : V) (du dv : PyData) : Prop where
  sq : SqT K G t [u, v]
  pu : Dp K G u du
  pv : Dp K G v dv
  ku : DK 2 du
  kv : DK 2 dv
theorem Pr.same {K : PySem.W.Frag} {G G' : Hp} {t : Addr} {u v : V} {du dv : PyData} (p : Pr K G t u v du dv) (s : Same G G') : Pr K G' t u v du dv := ⟨Same.seqT s p.sq, dpSame s p.pu, dpSame s p.pv, p.ku, p.kv⟩
theorem Fm.of {K : PySem.W.Frag} {H : Hp} {y : V} {d : PyData} (h : Dp K H y d) (k : DK 2 d) : Fm K H y := ⟨d, 10, 50, 2, h, k, by decide, by decide +kernel, by decide⟩
abbrev five : List V := [.str "BadText", .str "UnlikeParts", .str "UnlikeTapes", .str "TooMany", .str "CantAnswer"]
abbrev four : List V := [.str "BadDeed", .str "NoDraft", .str "InDraft", .str "NothingLeft"]
def d1 (x : Str) : Str := (due x).getD 1 ""
theorem f_len : ∀ p ∈ tbl, p.2.length ≤ 2 := by decide +kernel
theorem f_w : ∀ p ∈ tbl, (inV (.str p.1) five = true ∧ p.2.length = 2) ∨ (inV (.str p.1) five = false ∧ inV (.str p.1) four = false ∧ p.2.length = 1) ∨ (inV (.str p.1) five = false ∧ inV (.str p.1) four = true ∧ p.2.length = 0) := by decide +kernel
theorem f_d1 : ∀ p ∈ tbl, (due p.1)[1]? = some (d1 p.1) := by decide +kernel
theorem f_b : ∀ p ∈ tbl, (d1 p.1 ≠ "LookupError" ∧ baseOf p.1 = d1 p.1) ∨ (d1 p.1 = "LookupError" ∧ baseOf p.1 = p.1) := by decide +kernel
theorem f_sh : ∀ p ∈ tbl, SeqAt.shaped (.list ((due p.1).map PyData.str)) = true ∧ PyData.eqv (.list ((due p.1).map PyData.str)) (.list ((due p.1).map PyData.str)) = true := by decide +kernel
theorem f_str : ∀ p ∈ tbl, (p.1.length ≤ 50 ∧ (reprText p.1).length ≤ 50) ∧ (baseOf p.1).length ≤ 50 ∧ (reprText (baseOf p.1)).length ≤ 50 := by decide +kernel
def spSo (K : PySem.W.Frag) : Sp := fun vs H Q _ => ∃ (x : Str) (fl : List Str) (b l p : Addr) (t : Nat → Addr) (u v : Nat → V) (du dv : Nat → PyData), vs = [.ref b, .str x, .ref p] ∧ (x, fl) ∈ tbl ∧ BagAt l H b ∧ SqL K (L2.del H b) p [.ref (t 0), .ref (t 1)] ∧
  (∀ i < 2, Pr K (L2.del H b) (t i) (u i) (v i) (du i) (dv i)) ∧ ∀ H', BagAt l H' b → But b H H' → Q (.bl true) H'
def PvErr (C : Addr) (x : Str) (fl : List Str) (b l D : Addr) (u v : Nat → V) (H : Hp) (i : Nat) (Hi : Hp) : Prop := BagAt l Hi b ∧ But b H Hi ∧ ∃ e : Nat → Addr, Hi D = some (.lst ((List.range i).map fun j => .ref (e j))) ∧ ∀ j < i, Err (L2.del (L2.del Hi b) D) (e j) C (flds x fl ([u j, v j].take fl.length))
section
variable {P : Program} {w : World} {K : PySem.W.Frag} {mg : Str → Option Value} {base : Heap} {C : Str → Addr}
abbrev NSo : List Str := ["bag", "pick", "pairs", "width", "errors", "k", "due", "base", "told", "pair"]
theorem scSo : FnScope NSo ["bag", "pick", "pairs"] (defScope sSo) := ⟨rfl, rfl, rfl, by decide +kernel, rfl, by decide +kernel, by decide +kernel⟩
structure Rds (P : Program) (w : World) (K : PySem.W.Frag) (mg : Str → Option Value) (base : Heap) (C : Str → Addr) : Prop where
  D : RD P w K mg base 1 "_law_draw" ["bag", "size"] spDraw
  M : RD P w K mg base 4 "_law_made" ["pick", "a", "b", "way"] (spMade K C)
  CC : RD P w K mg base 4 "_law_copied" ["value"] (spCopied K 3)
  L : RD P w K mg base 4 "_law_like" ["told", "due"] (spLike K 3)
  V : RdW P w K mg base CX0 1 "_law_values" ["pick", "error"] (spValues K C)
  KK : RD P w K mg base 1 "_law_kinds" ["error"] (spKinds C)
  U : RD P w K mg base 1 "_law_due_kinds" ["pick"] spDue
  T : RD P w K mg base 5 "_law_caught" ["pick", "a", "b"] (spCaught K)
theorem ok_so {f : Addr} {fd : FuncData} (F : Fun K "_law_so" "_law_so" sSo f fd) (R : Rds P w K mg base C) (ml : mg "list" = none) : FnOk P w K mg base CX0 6 f fd ["bag", "pick", "pairs"] (spSo K) := by
  refine F.ok scSo (fun vs H Q E h => ?_) (fun cdv A outer s H vs Q E hr h => ?_)
  · obtain ⟨x, fl, b, l, p, t, u, v, du, dv, rfl, _⟩ := h
    rfl
  obtain ⟨x, fl, b, l, p, t, u, v, du, dv, rfl, hm, B, hp, hpr, q⟩ := h
  have hr1 := hr.mono (by decide : 1 ≤ 5)
  have hr4 := hr.mono (by decide : 4 ≤ 5)
  have hrH := RoomH.of hr1
  refine ⟨_, pss_cons (ps_set (i := 3) scSo.nd rfl (Or.inl rfl) pe_int)
    (pss_cut (ps_if (pt_cmpR op_in_seq (pv 1) (pe_tup (pa_cons pe_str (pa_cons pe_str (pa_cons pe_str (pa_cons pe_str (pa_cons pe_str pa_nil)))))) rfl) (pss_one (ps_set (i := 3) scSo.nd rfl (Or.inl rfl) pe_int))
      (pss_one (ps_if (pt_cmpR op_notIn_seq (pv 1) (pe_tup (pa_cons pe_str (pa_cons pe_str (pa_cons pe_str (pa_cons pe_str pa_nil))))) rfl) (pss_one (ps_set (i := 3) scSo.nd rfl (Or.inl rfl) pe_int)) pss_nil)))
    (pss_cons (ps_setLc (i := 4) (own := [("pair", 9)]) (g := gName 9) (tt := tYes) (te := tCall (spMade K C) [] E0 (tCons (tVar 1) (tCons (tOp (rIxT K) (tVar 9) (tC (.int 0))) (tCons (tOp (rIxT K) (tVar 9) (tC (.int 1))) (tCons (tCall spDraw [] E0 (tCons (tVar 0) (tCons (tC (.int 4)) tNil))) tNil)))))
        rfl scSo.nd rfl rfl (sw_true rfl rfl rfl (by decide +kernel)) (pi_list (pv 2)) (blkOk_by (N := NSo) (sc := defScope sSo) (by decide +kernel))
            (fun _ _ _ _ _ => pg_name (i := 9) scSo.nd rfl (Or.inl rfl)) (fun _ _ _ _ _ => pts_nil) (fun _ _ _ _ _ => pe_rd R.M hr4 rfl pass0 (pa_cons (pv 1) (pa_cons (pe_ix ix_tup (pv 9) pe_int (fun _ _ => rfl)) (pa_cons (pe_ix ix_tup (pv 9) pe_int (fun _ _ => rfl)) (pa_cons (pe_rd R.D hr1 rfl pass0 (pa_cons (pv 0) (pa_cons pe_int pa_nil))) pa_nil))))))
    (pss_cons (ps_for PassesOwn.never rfl (pi_tup (pe_tup (pa_cons pe_int (pa_cons pe_int pa_nil)))) (pg_name (i := 5) scSo.nd rfl (Or.inl rfl))
      (pss_cons (ps_set (i := 6) scSo.nd rfl (Or.inl rfl) (pe_op op_cat (pe_lst (pa_cons (pv 1) pa_nil)) (pe_slice sl_list (pe_callTy call_list_of rfl ml (by decide +kernel) (pa_cons (pe_rd R.CC hr4 rfl pass0 (pa_cons (pe_ix ix_list (pv 2) (pv 5) (fun _ _ => rfl)) pa_nil)) pa_nil)) po_none (po_some (pv 3)))))
      (pss_cons (ps_if (pt_not (pt_val (pe_rd R.L hr4 rfl pass0 (pa_cons (pe_rdW R.V hrH rfl pass0 (pa_cons (pv 1) (pa_cons (pe_ix ix_list (pv 4) (pv 5) (fun _ _ => rfl)) pa_nil))) (pa_cons (pv 6) pa_nil))))) (pss_one (ps_ret pe_bl)) pss_nil)
      (pss_cons (ps_if (pt_cmpR (op_neD hr.units) (pe_rd R.KK hr1 rfl pass0 (pa_cons (pe_ix ix_list (pv 4) (pv 5) (fun _ _ => rfl)) pa_nil)) (pe_rd R.U hr1 rfl pass0 (pa_cons (pv 1) pa_nil)) (nomark _)) (pss_one (ps_ret pe_bl)) pss_nil)
      (pss_cons (ps_set (i := 7) scSo.nd rfl (Or.inl rfl) (pe_ix ix_list (pe_rd R.U hr1 rfl pass0 (pa_cons (pv 1) pa_nil)) pe_int (fun _ _ => rfl)))
      (pss_cons (ps_set (i := 8) scSo.nd rfl (Or.inl rfl) (pe_rd R.T hr rfl pass0 (pa_cons (pv 1) (pa_cons (pe_ix ix_tup (pe_ix ix_list (pv 2) (pv 5) (fun _ _ => rfl)) pe_int (fun _ _ => rfl)) (pa_cons (pe_ix ix_tup (pe_ix ix_list (pv 2) (pv 5) (fun _ _ => rfl)) pe_int (fun _ _ => rfl)) pa_nil)))))
      (pss_one (ps_if (pt_not (pt_val (pe_rd R.L hr4 rfl pass0 (pa_cons (pv 8) (pa_cons (pe_op op_cat (pe_lst (pa_cons (pe_ifExp (pt_cmpR op_ne (pv 7) pe_str (nomark _)) (pv 7) (pv 1)) pa_nil)) (pv 6)) pa_nil))))) (pss_one (ps_ret pe_bl)) pss_nil))))))))
    (pss_one (ps_ret (pe_rd R.L hr4 rfl pass0 (pa_cons (pe_rdW R.V hrH rfl pass0 (pa_cons (pv 1) (pa_cons (pe_ix ix_list (pv 4) pe_int (fun _ _ => rfl)) pa_nil)))
        (pa_cons (pe_op op_cat (pe_lst (pa_cons (pv 1) pa_nil)) (pe_slice sl_list (pe_callTy call_list_of rfl ml (by decide +kernel) (pa_cons (pe_ix ix_list (pv 2) pe_int (fun _ _ => rfl)) pa_nil)) po_none (po_some (pv 3)))) pa_nil)))))))), ?_⟩
  have hle := f_len _ hm
  have hlen : ∀ j, ([u j, v j].take fl.length).length = fl.length := fun j => by
    rw [List.length_take]
    exact Nat.min_eq_left hle
  refine ⟨fun σ' H' => σ' = [some (.ref b), some (.str x), some (.ref p), some (.int fl.length), none, none, none, none, none, none] ∧ Same H H', ?_, ?_⟩
  · rcases f_w _ hm with ⟨h1, h2⟩ | ⟨h1, h2, h3⟩ | ⟨h1, h2, h3⟩
    · refine ⟨_, rfl, (by show 5 ≤ sizeLine; decide), fun tt htt => ⟨tt, _, rfl, .inr (SqT.of upd_same), rfl, (by decide), _, rfl, iteY h1 ⟨?_, same_new htt _⟩⟩⟩
      have e : fl.length = 2 := h2
      rw [e]
      rfl
    · refine ⟨_, rfl, (by show 5 ≤ sizeLine; decide), fun tt htt => ⟨tt, _, rfl, .inr (SqT.of upd_same), rfl, (by decide), _, rfl, iteN h1 ?_⟩⟩
      refine ⟨_, rfl, (by show 4 ≤ sizeLine; decide), fun t2 ht2 => ⟨t2, _, rfl, .inr (SqT.of upd_same), rfl, (by decide), _, rfl, iteY ?_ ⟨?_, (same_new htt _).trans (same_new ht2 _)⟩⟩⟩
      · show (!inV (.str x) four) = true
        rw [h2]
        rfl
      · have e : fl.length = 1 := h3
        rw [e]
        rfl
    · refine ⟨_, rfl, (by show 5 ≤ sizeLine; decide), fun tt htt => ⟨tt, _, rfl, .inr (SqT.of upd_same), rfl, (by decide), _, rfl, iteN h1 ?_⟩⟩
      refine ⟨_, rfl, (by show 4 ≤ sizeLine; decide), fun t2 ht2 => ⟨t2, _, rfl, .inr (SqT.of upd_same), rfl, (by decide), _, rfl, iteN ?_ ⟨?_, (same_new htt _).trans (same_new ht2 _)⟩⟩⟩
      · show (!inV (.str x) four) = false
        rw [h2]
        rfl
      · have e : fl.length = 0 := h3
        rw [e]
        rfl
  rintro _ H2 ⟨rfl, s0⟩
  have bt0 : But b H H2 := But.of s0
  have B2 : BagAt l H2 b := B.same s0
  refine ⟨_, rfl, p, rfl, ⟨_, (but_in bt0).seq hp⟩, fun D hD => lc_list (xs := [.ref (t 0), .ref (t 1)]) (PvErr (C x) x fl b l D u v H) ⟨B2.new hD _, but_new bt0 (s0.free hD), fun _ => 0, upd_same, fun j hj => absurd hj (Nat.not_lt_zero j)⟩ (fun i Hi _ p => (but_in p.2.1).seq hp) ?_ ?_⟩
  · rintro i y Hi hi ⟨Bi, bi, e, hyD, her⟩
    obtain ⟨hi2, rfl⟩ : i < 2 ∧ V.ref (t i) = y := by
      have h2 : i < 2 := (List.getElem?_eq_some_iff.mp hi).1
      refine ⟨h2, ?_⟩
      have e : i = 0 ∨ i = 1 := by omega
      rcases e with rfl | rfl
      · exact Option.some.inj hi
      · exact Option.some.inj hi
    have pr := (hpr i hi2).same (but_in bi)
    refine ⟨rfl, _, rfl, _, rfl, t i, [u i, v i], 0, u i, rfl, rfl, pr.sq, rfl, _, rfl, t i, [u i, v i], 1, v i, rfl, rfl, pr.sq, rfl, _, rfl, b, l, 4, rfl, Bi, by decide, by decide, fun r Hj r0 r1 Bj bj => ?_⟩
    have prj := (hpr i hi2).same (but_in (bi.trans bj))
    refine ⟨x, fl, u i, v i, r, rfl, hm, hlen i, fun z hz => ?_, fun en H3 s3 hen er => ?_⟩
    · have hz2 := List.mem_of_mem_take hz
      simp at hz2
      rcases hz2 with rfl | rfl
      · exact Fm.of prj.pu prj.ku
      · exact Fm.of prj.pv prj.kv
    · have hDb : D ≠ b := B2.ne hD
      have hDl : D ≠ l := B2.cell hD
      have h3D : H3 D = some (.lst ((List.range i).map fun j => .ref (e j))) := s3 _ _ (bj.at hDb hyD)
      have B3 : BagAt l H3 b := Bj.same s3
      have b3 : But b Hi H3 := bj.trans (But.of s3)
      obtain ⟨bs, hbs⟩ := bag_lst B3
      refine ⟨_, h3D, ?_, B3.skip hDb hDl _, but_new (bi.trans b3) (s0.free hD), fun j => if j = i then en else e j, ?_, ?_⟩
      · rw [List.length_map, List.length_range]
        have hz : sizeLine = 16777216 := sizeLine_eq
        omega
      · rw [List.range_succ, List.map_append]
        have e1 : ((List.range i).map fun j => V.ref (if j = i then en else e j)) = (List.range i).map fun j => V.ref (e j) := by
          refine List.map_congr_left fun j hj => ?_
          have : j < i := List.mem_range.mp hj
          rw [if_neg (by omega)]
        rw [e1]
        have e2 : ([i].map fun j => V.ref (if j = i then en else e j)) = [V.ref en] := by simp
        rw [e2]
        exact upd_same
      · intro j hj
        rw [del2_upd]
        show Err _ (if j = i then en else e j) _ _
        by_cases hji : j = i
        · rw [if_pos hji, hji]
          exact (er.del hbs).del ((L2.del_ne hDb).trans h3D)
        · rw [if_neg hji]
          exact (her j (by omega)).same (same_del b3)
  rintro Ha ⟨Ba, ba, e, haD, her⟩
  have hpa : SqL K Ha p [.ref (t 0), .ref (t 1)] := (but_in ba).seq hp
  have hpra : ∀ i < 2, Pr K Ha (t i) (u i) (v i) (du i) (dv i) := fun i hi => (hpr i hi).same (but_in ba)
  have hera : ∀ j < 2, Err Ha (e j) (C x) (flds x fl ([u j, v j].take fl.length)) := fun j hj => ((her j hj).same Same.undel).same Same.undel
  have hDa : SqL K Ha D [.ref (e 0), .ref (e 1)] := SqL.of haD
  have qa : ∀ H', Same Ha H' → Q (.bl true) H' := fun H' s => q H' (Ba.same s) (ba.trans (But.of s))
  clear hp hpr her q haD
  have dkx : DK 2 (.str x) := .str _ (f_str _ hm).1.1 (f_str _ hm).1.2
  have dkb : DK 2 (.str (baseOf x)) := .str _ (f_str _ hm).2.1 (f_str _ hm).2.2
  have hz : sizeLine = 16777216 := sizeLine_eq
  -- the values that are due
  have due1 : ∀ {H' : Hp} {c : Addr} {k : Nat} {y z : V}, Dp K H' y (du k) → Dp K H' z (dv k) → H' c = some (.lst (.str x :: [y, z].take fl.length)) → Dp K H' (.ref c) (.list (.str x :: [du k, dv k].take fl.length)) := fun h1 h2 h3 =>
    .lst (SqL.of h3) (.cons (.str x) (dps_take _ (.cons h1 (.cons h2 .nil))))
  have dk1 : ∀ k < 2, DK 3 (.list (.str x :: [du k, dv k].take fl.length)) := fun k hk => by
    have pr := hpra k hk
    refine .lst ?_ fun d hd => ?_
    · rw [List.length_cons, List.length_take]
      show min fl.length 2 + 1 ≤ 10
      omega
    · rcases List.mem_cons.mp hd with rfl | hd
      · exact dkx
      · have h2 := List.mem_of_mem_take hd
        simp at h2
        rcases h2 with rfl | rfl
        · exact pr.ku
        · exact pr.kv
  refine ⟨(by show 2 ≤ sizeLine; decide), fun tk htk => ⟨tk, rfl, ⟨_, SqT.of upd_same⟩, for_tup (K := K) (a := tk) (xs := [.int 1, .int 0])
    (fun i σ H' => Same (upd Ha tk (.tup [.int 1, .int 0])) H' ∧ ∃ v5 v6 v7 v8 : Option V, σ = [some (.ref b), some (.str x), some (.ref p), some (.int fl.length), some (.ref D), v5, v6, v7, v8, none]) ⟨Same.refl _, none, none, none, none, rfl⟩ (fun i σ H' _ h => SqT.of (h.1 _ _ upd_same)) ?_ ?_⟩⟩
  · rintro i y _ H0 hi ⟨sa, v5, v6, v7, v8, rfl⟩
    obtain ⟨k, hk, rfl⟩ : ∃ k : Nat, k < 2 ∧ V.int (k : Int) = y := by
      have h2 : i < 2 := (List.getElem?_eq_some_iff.mp hi).1
      have e : i = 0 ∨ i = 1 := by omega
      rcases e with rfl | rfl
      · exact ⟨1, by decide, Option.some.inj hi⟩
      · exact ⟨0, by decide, Option.some.inj hi⟩
    have tk0 : Same Ha (upd Ha tk (.tup [.int 1, .int 0])) := same_new htk _
    replace hpa := tk0.seq hpa
    replace hpra : ∀ i < 2, Pr K (upd Ha tk (.tup [.int 1, .int 0])) (t i) (u i) (v i) (du i) (dv i) := fun i hi => (hpra i hi).same tk0
    replace hera : ∀ j < 2, Err (upd Ha tk (.tup [.int 1, .int 0])) (e j) (C x) (flds x fl ([u j, v j].take fl.length)) := fun j hj => (hera j hj).same tk0
    replace hDa := tk0.seq hDa
    clear qa tk0 htk Ba ba
    generalize upd Ha tk (.tup [.int 1, .int 0]) = Hb at sa hpa hpra hera hDa
    have s1 : Same Hb H0 := sa
    have pr0 := (hpra k hk).same s1
    refine ⟨_, rfl, (by show 1 ≤ sizeLine; decide), fun p1 hp1 => ?_⟩
    have s2 : Same Hb (upd H0 p1 (.lst [.str x])) := s1.trans (same_new hp1 _)
    have pr2 := (hpra k hk).same s2
    refine ⟨_, rfl, _, rfl, p, _, _, _, rfl, rfl, s2.seq hpa, two_at (f := fun j => V.ref (t j)) hk, ?_⟩
    refine ⟨.ref (t k), .tuple [du k, dv k], _, rfl, Same.refl _, .tup pr2.sq (.cons pr2.pu (.cons pr2.pv .nil)), .tup (by show 2 ≤ 10; decide) ?_, fun y' G' H3 s3 gr dy => ?_⟩
    · intro d hd
      simp at hd
      rcases hd with rfl | rfl
      · exact pr2.ku
      · exact pr2.kv
    cases dy with
    | tup sq da =>
    cases da with
    | cons h1 da =>
    cases da with
    | cons h2 da =>
    cases da
    rename_i a' u' v'
    have sq3 := Same.seqT gr.sub sq
    refine ⟨_, _, rfl, .inr sq3, fun p2 hp2 => ?_⟩
    refine ⟨_, rfl, fl.length, rfl, p2, _, rfl, SqL.of upd_same, fun p3 hp3 => ?_⟩
    have sp1 : upd (upd H3 p2 (.lst [u', v'])) p3 (.lst (cutV [u', v'] none (some (fl.length : Int)))) p1 = some (.lst [.str x]) := by
      have e0 : H3 p1 = some (.lst [.str x]) := s3 _ _ upd_same
      have e1 := (same_new hp2 (.lst [u', v'])) _ _ e0
      exact (same_new hp3 _) _ _ e1
    refine ⟨p1, p3, _, _, rfl, rfl, sp1, upd_same, ?_, fun p4 hp4 => ?_⟩
    · have := cutV_length [u', v'] none (some (fl.length : Int))
      show 0 + 1 + _ ≤ sizeLine
      have e : [u', v'].length = 2 := rfl
      omega
    rw [cut_take hle] at hp4 ⊢
    have s4 : Same H3 (upd (upd (upd H3 p2 (.lst [u', v'])) p3 (.lst ([u', v'].take fl.length))) p4 (.lst ([.str x] ++ [u', v'].take fl.length))) := ((same_new hp2 _).trans (same_new hp3 _)).trans (same_new hp4 _)
    have d4 : Dp K (upd (upd (upd H3 p2 (.lst [u', v'])) p3 (.lst ([u', v'].take fl.length))) p4 (.lst ([.str x] ++ [u', v'].take fl.length))) (.ref p4) (.list (.str x :: [du k, dv k].take fl.length)) :=
      due1 (dpSame (gr.sub.trans s4) h1) (dpSame (gr.sub.trans s4) h2) upd_same
    have da4 : DpAll K (upd (upd (upd H3 p2 (.lst [u', v'])) p3 (.lst ([u', v'].take fl.length))) p4 (.lst ([.str x] ++ [u', v'].take fl.length))) ([u', v'].take fl.length) ([du k, dv k].take fl.length) :=
      dps_take _ (.cons (dpSame (gr.sub.trans s4) h1) (.cons (dpSame (gr.sub.trans s4) h2) .nil))
    have at4 : ∀ {o : HO}, upd (upd (upd H3 p2 (.lst [u', v'])) p3 (.lst ([u', v'].take fl.length))) p4 o p4 = some o := upd_same
    have at5 := at4 (o := .lst ([.str x] ++ [u', v'].take fl.length))
    have s5 := (s2.trans s3).trans s4
    generalize upd (upd (upd H3 p2 (.lst [u', v'])) p3 (.lst ([u', v'].take fl.length))) p4 (.lst ([.str x] ++ [u', v'].take fl.length)) = H5 at d4 da4 s5 at5
    have hcut : ([u', v'].take fl.length).length ≤ 2 := by
      rw [List.length_take]
      exact Nat.min_le_right _ _
    clear sp1 s4 at4 hp2 hp3 hp4 sq3 h1 h2 sq gr s3 hp1 pr2 s2
    -- the values
    have pr5 := (hpra k hk).same s5
    refine ⟨_, rfl, _, rfl, _, rfl, D, _, _, _, rfl, rfl, s5.seq hDa, two_at (f := fun j => V.ref (e j)) hk, ?_⟩
    refine ⟨x, fl, e k, _, rfl, hm, hlen k, (hera k hk).same s5, fun lv Hv sv hlv hat => ?_⟩
    have s6 := s5.trans sv
    have pr6 := (hpra k hk).same s6
    refine ⟨_, rfl, .ref lv, .ref p4, _, rfl, due1 pr6.pu pr6.pv hat, dpSame sv d4, dk1 k hk, fun H7 s7 => ⟨true, rfl, iteF ?_⟩⟩
    have s8 := s6.trans s7
    have d8 := dpsSame (sv.trans s7) da4
    have at8 := s7 _ _ (sv _ _ at5)
    -- the kinds
    refine ⟨_, rfl, _, rfl, D, _, _, _, rfl, rfl, s8.seq hDa, two_at (f := fun j => V.ref (e j)) hk, ?_⟩
    refine ⟨x, fl, e k, _, rfl, hm, (hera k hk).same s8, fun lk Hk sk hlk hat2 => ?_⟩
    have hxm : x ∈ tbl.map (·.1) := List.mem_map.mpr ⟨_, hm, rfl⟩
    refine ⟨_, rfl, x, rfl, hxm, fun lu Hu su hlu hat3 => ?_⟩
    have fs := f_sh _ hm
    refine ⟨_, _, .lst (SqL.of (su _ _ hat2)) (strs_dp _), .lst (SqL.of hat3) (strs_dp _), fs.1, fs.1, _, rfl, iteN ?_ ?_⟩
    · rw [fs.2]
      rfl
    have s9 := s8.trans (sk.trans su)
    have d9 := dpsSame (sk.trans su) d8
    have at9 := su _ _ (sk _ _ at8)
    -- the base
    refine ⟨_, rfl, x, rfl, hxm, fun lw Hw sw hlw hat4 => ⟨lw, _, 1, .str (d1 x), rfl, rfl, SqL.of hat4, atI_nat (j := 1) ?_, ?_⟩⟩
    · rw [List.getElem?_map]
      have e1 : (due x)[1]? = some (d1 x) := f_d1 _ hm
      rw [e1]
      rfl
    have s10 := s9.trans sw
    have pr10 := (hpra k hk).same s10
    refine ⟨_, rfl, _, rfl, _, rfl, p, _, _, _, rfl, rfl, s10.seq hpa, two_at (f := fun j => V.ref (t j)) hk, t k, _, _, _, rfl, rfl, pr10.sq, rfl, _, rfl, _, rfl, p, _, _, _, rfl, rfl, s10.seq hpa, two_at (f := fun j => V.ref (t j)) hk, t k, _, 1, v k, rfl, rfl, pr10.sq, rfl, ?_⟩
    refine ⟨x, fl, u k, v k, rfl, hm, Fm.of pr10.pu pr10.ku, Fm.of pr10.pv pr10.kv, fun lt Ht st hlt hat5 => ?_⟩
    have s11 := s10.trans st
    have d11 := dpsSame (sw.trans st) d9
    have at11 := st _ _ (sw _ _ at9)
    have pr11 := (hpra k hk).same s11
    have dk11 : DK 3 (.list (.str (baseOf x) :: .str x :: [du k, dv k].take fl.length)) := by
      refine .lst ?_ fun d hd => ?_
      · rw [List.length_cons, List.length_cons, List.length_take]
        show min fl.length 2 + 1 + 1 ≤ 10
        omega
      · rcases List.mem_cons.mp hd with rfl | hd
        · exact dkb
        · rcases List.mem_cons.mp hd with rfl | hd
          · exact dkx
          · have h2 := List.mem_of_mem_take hd
            simp at h2
            rcases h2 with rfl | rfl
            · exact (hpra k hk).ku
            · exact (hpra k hk).kv
    have dl : Dp K Ht (.ref lt) (.list (.str (baseOf x) :: .str x :: [du k, dv k].take fl.length)) := .lst (SqL.of hat5) (.cons (.str _) (.cons (.str _) (dps_take _ (.cons pr11.pu (.cons pr11.pv .nil)))))
    have dd : ∃ vs, DpAll K Ht vs ([du k, dv k].take fl.length) ∧ Ht p4 = some (.lst (.str x :: vs)) ∧ vs.length ≤ 2 := by
      exact ⟨_, d11, at11, hcut⟩
    obtain ⟨vs, ddv, atv, hvl⟩ := dd
    have fin : ∀ (y : V), y = .str (baseOf x) → ∀ pl, Ht pl = none → ∀ pm, upd Ht pl (.lst [y]) pm = none → Dp K (upd (upd Ht pl (.lst [y])) pm (.lst ([y] ++ .str x :: vs))) (.ref pm) (.list (.str (baseOf x) :: .str x :: [du k, dv k].take fl.length)) := by
      rintro _ rfl pl hpl pm hpm
      exact .lst (SqL.of upd_same) (.cons (.str _) (.cons (.str _) (dpsSame ((same_new hpl _).trans (same_new hpm _)) ddv)))
    rcases f_b _ hm with ⟨hb1, hb2⟩ | ⟨hb1, hb2⟩
    · refine ⟨_, rfl, _, rfl, rfl, _, rfl, iteY ?_ ⟨_, rfl, (by show 1 ≤ sizeLine; decide), fun pl hpl => ⟨_, rfl, pl, p4, _, _, rfl, rfl, upd_same, (same_new hpl _) _ _ atv, ?_, fun pm hpm => ?_⟩⟩⟩
      · rw [decide_eq_false fun z => hb1 (V.str.inj z)]
        rfl
      · show 0 + 1 + (vs.length + 1) ≤ sizeLine
        omega
      · exact ⟨.ref lt, .ref pm, _, rfl, dpSame ((same_new hpl _).trans (same_new hpm _)) dl, fin _ (congrArg V.str hb2.symm) pl hpl pm hpm, dk11, fun H' s' => ⟨true, rfl, iteF ⟨s11.trans (((same_new hpl _).trans (same_new hpm _)).trans s'), _, _, _, _, rfl⟩⟩⟩
    · refine ⟨_, rfl, _, rfl, rfl, _, rfl, iteN ?_ ⟨_, rfl, (by show 1 ≤ sizeLine; decide), fun pl hpl => ⟨_, rfl, pl, p4, _, _, rfl, rfl, upd_same, (same_new hpl _) _ _ atv, ?_, fun pm hpm => ?_⟩⟩⟩
      · rw [decide_eq_true (congrArg V.str hb1)]
        rfl
      · show 0 + 1 + (vs.length + 1) ≤ sizeLine
        omega
      · exact ⟨.ref lt, .ref pm, _, rfl, dpSame ((same_new hpl _).trans (same_new hpm _)) dl, fin _ (congrArg V.str hb2.symm) pl hpl pm hpm, dk11, fun H' s' => ⟨true, rfl, iteF ⟨s11.trans (((same_new hpl _).trans (same_new hpm _)).trans s'), _, _, _, _, rfl⟩⟩⟩
  · rintro _ H0 ⟨sa, v5, v6, v7, v8, rfl⟩
    have s1 : Same Ha H0 := (same_new htk _).trans sa
    refine ⟨_, rfl, _, rfl, D, _, 0, _, rfl, rfl, s1.seq hDa, two_at (f := fun j => V.ref (e j)) (k := 0) (by decide), ?_⟩
    refine ⟨x, fl, e 0, _, rfl, hm, hlen 0, (hera 0 (by decide)).same s1, fun lv Hv sv hlv hat => ?_⟩
    have s2 := s1.trans sv
    refine ⟨_, rfl, (by show 1 ≤ sizeLine; decide), fun p1 hp1 => ?_⟩
    have s3 : Same Ha (upd Hv p1 (.lst [.str x])) := s2.trans (same_new hp1 _)
    refine ⟨_, rfl, p, _, 0, _, rfl, rfl, s3.seq hpa, two_at (f := fun j => V.ref (t j)) (k := 0) (by decide), ?_⟩
    have pr3 := (hpra 0 (by decide)).same s3
    refine ⟨_, _, rfl, .inr pr3.sq, fun p2 hp2 => ?_⟩
    refine ⟨_, rfl, fl.length, rfl, p2, _, rfl, SqL.of upd_same, fun p3 hp3 => ?_⟩
    have s4 : Same Hv (upd (upd Hv p1 (.lst [.str x])) p2 (.lst [u 0, v 0])) := (same_new hp1 _).trans (same_new hp2 _)
    have s5 := s4.trans (same_new hp3 (.lst (cutV [u 0, v 0] none (some (fl.length : Int)))))
    refine ⟨p1, p3, _, _, rfl, rfl, (same_new hp3 _) _ _ ((same_new hp2 _) _ _ upd_same), upd_same, ?_, fun p4 hp4 => ?_⟩
    · have := cutV_length [u 0, v 0] none (some (fl.length : Int))
      show 0 + 1 + _ ≤ sizeLine
      have e : [u 0, v 0].length = 2 := rfl
      omega
    have s6 := s5.trans (same_new hp4 (.lst ([.str x] ++ cutV [u 0, v 0] none (some (fl.length : Int)))))
    have pr6 := (hpra 0 (by decide)).same (s2.trans s6)
    have pr2 := (hpra 0 (by decide)).same s2
    refine ⟨.ref lv, .ref p4, _, rfl, dpSame s6 (due1 pr2.pu pr2.pv hat), due1 pr6.pu pr6.pv ?_, dk1 0 (by decide), fun H' s' => qa H' ((s2.trans s6).trans s')⟩
    rw [cut_take hle]
    exact upd_same
end
end K0

set_option Elab.async false
set_option linter.all false
set_option maxRecDepth 100000
set_option maxHeartbeats 4000000
namespace K0
open PySem PySem.Spec PyProof.Rows L2 Fb
abbrev sLaw : Stmt := top 44
def PvPairs (K : PySem.W.Frag) (b l D : Addr) (H : Hp) (i : Nat) (Hi : Hp) : Prop := BagAt l Hi b ∧ But b H Hi ∧ ∃ (t : Nat → Addr) (u v : Nat → V) (du dv : Nat → PyData), Hi D = some (.lst ((List.range i).map fun j => .ref (t j))) ∧ ∀ j < i, Pr K (L2.del (L2.del Hi b) D) (t j) (u j) (v j) (du j) (dv j)
theorem PvPairs.step {K : PySem.W.Frag} {b l D t : Addr} {H Hi Hj Hk : Hp} {i : Nat} {y1 y2 : V} {c1 c2 : PyData} (B0 : BagAt l H b) (hD : H D = none) (p : PvPairs K b l D H i Hi) (d1 : Dp K (Fb.fresh Hi Hj) y1 c1) (k1 : DK 2 c1) (Bj : BagAt l Hj b) (bj : But b Hi Hj)
    (d2 : Dp K (Fb.fresh Hj Hk) y2 c2) (k2 : DK 2 c2) (Bk : BagAt l Hk b) (bk : But b Hj Hk) (ht : Hk t = none) (hi : i < 2 := by assumption) : ∃ acc, upd Hk t (.tup [y1, y2]) D = some (.lst acc) ∧ acc.length < sizeLine ∧ PvPairs K b l D H (i + 1) (upd (upd Hk t (.tup [y1, y2])) D (.lst (acc ++ [.ref t]))) := by
  obtain ⟨Bi, bi, ta, u, v, du, dv, hiD, hpr⟩ := p
  have hDb : D ≠ b := B0.ne hD
  have hDl : D ≠ l := B0.cell hD
  have hjD := bj.at hDb hiD
  have hkD := bk.at hDb hjD
  have htD : t ≠ D := fun z => by
    rw [z, hkD] at ht
    cases ht
  have htb : t ≠ b := Bk.ne ht
  have f1 : ∀ {G G' : Hp}, (∃ o, G b = some o) → (∃ o, G D = some o) → Same (Fb.fresh G G') (L2.del (L2.del G' b) D) := fun hb hd a o e => by
    obtain ⟨e1, e2⟩ := fresh_some e
    have h1 : a ≠ b := fun z => by
      obtain ⟨w, hw⟩ := hb
      rw [z, hw] at e1
      cases e1
    have h2 : a ≠ D := fun z => by
      obtain ⟨w, hw⟩ := hd
      rw [z, hw] at e1
      cases e1
    exact (L2.del_ne h2).trans ((L2.del_ne h1).trans e2)
  have sk : Same (L2.del (L2.del Hk b) D) (L2.del (L2.del (upd (upd Hk t (.tup [y1, y2])) D (.lst (((List.range i).map fun j => V.ref (ta j)) ++ [.ref t]))) b) D) := by
    rw [del2_upd]
    exact same_del (same_del (same_new ht _))
  have sj := (same_del (b := D) bk).trans sk
  have si := (same_del (b := D) (bj.trans bk)).trans sk
  refine ⟨_, (upd_ne htD.symm).trans hkD, ?_, (Bk.new ht _).skip hDb hDl _, but_new (((bi.trans bj).trans bk).trans (But.of (same_new ht _))) hD, fun j => if j = i then t else ta j, fun j => if j = i then y1 else u j, fun j => if j = i then y2 else v j, fun j => if j = i then c1 else du j, fun j => if j = i then c2 else dv j, ?_, ?_⟩
  · rw [List.length_map, List.length_range]
    have hz : sizeLine = 16777216 := sizeLine_eq
    omega
  · rw [List.range_succ, List.map_append]
    have e1 : ((List.range i).map fun j => V.ref (if j = i then t else ta j)) = (List.range i).map fun j => V.ref (ta j) := by
      refine List.map_congr_left fun j hj => ?_
      have : j < i := List.mem_range.mp hj
      rw [if_neg (by omega)]
    rw [e1]
    have e2 : ([i].map fun j => V.ref (if j = i then t else ta j)) = [V.ref t] := by simp
    rw [e2]
    exact upd_same
  · intro j hj
    show Pr K _ (if j = i then t else ta j) (if j = i then y1 else u j) (if j = i then y2 else v j) (if j = i then c1 else du j) (if j = i then c2 else dv j)
    by_cases hji : j = i
    · rw [if_pos hji, if_pos hji, if_pos hji, if_pos hji, if_pos hji]
      refine ⟨SqT.of ?_, dpSame ((f1 Bi.some ⟨_, hiD⟩).trans sj) d1, dpSame ((f1 Bj.some ⟨_, hjD⟩).trans sk) d2, k1, k2⟩
      rw [del2_upd]
      exact (L2.del_ne htD).trans ((L2.del_ne htb).trans upd_same)
    · rw [if_neg hji, if_neg hji, if_neg hji, if_neg hji, if_neg hji]
      exact (hpr j (by omega)).same si
def spLaw (K : PySem.W.Frag) : Sp := fun vs H Q _ => ∃ (a : Addr) (ns : List Int), vs = [.ref a] ∧ SqL K H a (ns.map V.int) ∧ ns.length ≤ 63 ∧ ∀ H', Q (.bl true) H'
theorem in_tbl {ss : List Str} (e : ∀ x ∈ ss, x ∈ tbl.map (·.1)) : ∀ y ∈ ss.map V.str, ∃ x fl, y = .str x ∧ (x, fl) ∈ tbl := by
  intro y h
  obtain ⟨x, hx, rfl⟩ := List.mem_map.mp h
  obtain ⟨⟨x', fl⟩, hp, rfl⟩ := List.mem_map.mp (e x hx)
  exact ⟨_, fl, rfl, hp⟩
theorem inA : ∀ y ∈ ([.str "BadText", .str "UnlikeParts", .str "UnlikeTapes", .str "TooMany", .str "CantAnswer", .str "BadName", .str "BadLetters", .str "BadRun", .str "BadColumn", .str "BadNumber", .str "BadTable", .str "HeldTwice"] : List V), ∃ x fl, y = .str x ∧ (x, fl) ∈ tbl := in_tbl (ss := ["BadText", "UnlikeParts", "UnlikeTapes", "TooMany", "CantAnswer", "BadName", "BadLetters", "BadRun", "BadColumn", "BadNumber", "BadTable", "HeldTwice"]) (by decide +kernel)
theorem inB : ∀ y ∈ ([.str "BreaksBeside", .str "NotSo", .str "NotEnough", .str "EndedRun", .str "UnknownPart", .str "UnknownName", .str "UnknownRun", .str "NotHeld", .str "BadDeed", .str "NoDraft", .str "InDraft", .str "NothingLeft"] : List V), ∃ x fl, y = .str x ∧ (x, fl) ∈ tbl := in_tbl (ss := ["BreaksBeside", "NotSo", "NotEnough", "EndedRun", "UnknownPart", "UnknownName", "UnknownRun", "NotHeld", "BadDeed", "NoDraft", "InDraft", "NothingLeft"]) (by decide +kernel)
section
variable {P : Program} {w : World} {K : PySem.W.Frag} {mg : Str → Option Value} {base : Heap}
abbrev NLaw : List Str := ["script", "bag", "lap", "pick", "pairs", "k"]
theorem scLaw : FnScope NLaw ["script"] (defScope sLaw) := ⟨rfl, rfl, rfl, by decide +kernel, rfl, by decide +kernel, by decide +kernel⟩
theorem ok_law {f : Addr} {fd : FuncData} (F : Fun K "law" "law" sLaw f fd) (RB : RD P w K mg base 1 "_law_bag" ["script"] (spBag K)) (RV : RD P w K mg base 5 "_law_value" ["bag", "deep"] (spValue K 2)) (RS : RD P w K mg base 6 "_law_so" ["bag", "pick", "pairs"] (spSo K)) (mr : mg "range" = none) :
    FnOk P w K mg base CX0 7 f fd ["script"] (spLaw K) := by
  refine F.ok scLaw (fun vs H Q E h => ?_) (fun cdv A outer s H vs Q E hr h => ?_)
  · obtain ⟨a, ns, rfl, _⟩ := h
    rfl
  obtain ⟨a, ns, rfl, hS, hn, q⟩ := h
  have hr1 := hr.mono (by decide : 1 ≤ 6)
  have hr5 := hr.mono (by decide : 5 ≤ 6)
  refine ⟨_, pss_cons (ps_set (i := 1) scLaw.nd rfl (Or.inr rfl) (pe_rd RB hr1 rfl pass0 (pa_cons (pv 0) pa_nil)))
    (pss_cons (ps_for PassesOwn.never rfl (pi_range1 rfl mr (pa_cons pe_int pa_nil)) (pg_name (i := 2) scLaw.nd rfl (Or.inl rfl))
      (pss_cons (ps_for PassesOwn.never rfl (pi_tup (pe_tup (pa_cons pe_str (pa_cons pe_str (pa_cons pe_str (pa_cons pe_str (pa_cons pe_str (pa_cons pe_str (pa_cons pe_str (pa_cons pe_str (pa_cons pe_str (pa_cons pe_str (pa_cons pe_str (pa_cons pe_str pa_nil)))))))))))))) (pg_name (i := 3) scLaw.nd rfl (Or.inl rfl))
        (pss_cons (ps_setLc (i := 4) (own := [("k", 5)]) (g := gName 5) (tt := tYes) rfl scLaw.nd rfl rfl (sw_true rfl rfl rfl (by decide +kernel)) (pi_range1 rfl mr (pa_cons pe_int pa_nil)) (blkOk_by (N := NLaw) (sc := defScope sLaw) (by decide +kernel))
            (fun _ _ _ _ _ => pg_name (i := 5) scLaw.nd rfl (Or.inl rfl)) (fun _ _ _ _ _ => pts_nil) (fun _ _ _ _ _ => pe_tup (pa_cons (pe_rd RV hr5 rfl pass0 (pa_cons (pv 1) (pa_cons pe_int pa_nil))) (pa_cons (pe_rd RV hr5 rfl pass0 (pa_cons (pv 1) (pa_cons pe_int pa_nil))) pa_nil))))
        (pss_one (ps_if (pt_not (pt_val (pe_rd RS hr rfl pass0 (pa_cons (pv 1) (pa_cons (pv 3) (pa_cons (pv 4) pa_nil)))))) (pss_one (ps_ret pe_bl)) pss_nil))))
      (pss_one (ps_for PassesOwn.never rfl (pi_tup (pe_tup (pa_cons pe_str (pa_cons pe_str (pa_cons pe_str (pa_cons pe_str (pa_cons pe_str (pa_cons pe_str (pa_cons pe_str (pa_cons pe_str (pa_cons pe_str (pa_cons pe_str (pa_cons pe_str (pa_cons pe_str pa_nil)))))))))))))) (pg_name (i := 3) scLaw.nd rfl (Or.inl rfl))
        (pss_cons (ps_setLc (i := 4) (own := [("k", 5)]) (g := gName 5) (tt := tYes) rfl scLaw.nd rfl rfl (sw_true rfl rfl rfl (by decide +kernel)) (pi_range1 rfl mr (pa_cons pe_int pa_nil)) (blkOk_by (N := NLaw) (sc := defScope sLaw) (by decide +kernel))
            (fun _ _ _ _ _ => pg_name (i := 5) scLaw.nd rfl (Or.inl rfl)) (fun _ _ _ _ _ => pts_nil) (fun _ _ _ _ _ => pe_tup (pa_cons (pe_rd RV hr5 rfl pass0 (pa_cons (pv 1) (pa_cons pe_int pa_nil))) (pa_cons (pe_rd RV hr5 rfl pass0 (pa_cons (pv 1) (pa_cons pe_int pa_nil))) pa_nil))))
        (pss_one (ps_if (pt_not (pt_val (pe_rd RS hr rfl pass0 (pa_cons (pv 1) (pa_cons (pv 3) (pa_cons (pv 4) pa_nil)))))) (pss_one (ps_ret pe_bl)) pss_nil)))))))
    (pss_one (ps_ret pe_bl))), ?_⟩
  refine ⟨_, rfl, a, ns, rfl, hS, hn, fun b l H1 s1 hb hl B1 => ?_⟩
  refine ⟨2, rfl, by decide, by decide, for_range (n := 2) (fun i σ H' => BagAt l H' b ∧ ∃ v2 v3 v4 : Option V, σ = [some (.ref a), some (.ref b), v2, v3, v4, none]) ⟨B1, _, _, _, rfl⟩ ?_ ?_⟩
  · rintro i _ H0 hi ⟨B0, v2, v3, v4, rfl⟩
    refine ⟨(by show 12 ≤ sizeLine; decide), fun tk htk => ⟨tk, rfl, ⟨_, SqT.of upd_same⟩, for_tup (K := K) (a := tk) (xs := [.str "BadText", .str "UnlikeParts", .str "UnlikeTapes", .str "TooMany", .str "CantAnswer", .str "BadName", .str "BadLetters", .str "BadRun", .str "BadColumn", .str "BadNumber", .str "BadTable", .str "HeldTwice"])
      (fun j σ H' => BagAt l H' b ∧ But b (upd H0 tk (.tup [.str "BadText", .str "UnlikeParts", .str "UnlikeTapes", .str "TooMany", .str "CantAnswer", .str "BadName", .str "BadLetters", .str "BadRun", .str "BadColumn", .str "BadNumber", .str "BadTable", .str "HeldTwice"])) H' ∧ ∃ v2 v3 v4 : Option V, σ = [some (.ref a), some (.ref b), v2, v3, v4, none]) ⟨B0.new htk _, But.refl, _, _, _, rfl⟩ (fun j σ H' _ h => SqT.of (h.2.1.at (B0.ne htk) upd_same)) ?_ ?_⟩⟩
    · rintro j y _ H2 hj ⟨B2, bt, v2, v3, v4, rfl⟩
      obtain ⟨x, fl, rfl, hm⟩ := inA y (List.mem_of_getElem? hj)
      refine ⟨2, rfl, by decide, by decide, fun D hD => lc_range (lo := 0) (n := 2) (PvPairs K b l D H2) ⟨B2.new hD _, but_new But.refl hD, fun _ => 0, fun _ => .non, fun _ => .non, fun _ => .none, fun _ => .none, upd_same, fun j hj => absurd hj (Nat.not_lt_zero j)⟩ (fun i Hi hi p => ?_) (fun Hi p => ?_)⟩
      · have B3 := p.1
        refine ⟨rfl, _, rfl, b, l, rfl, B3, fun y1 c1 H3 dy1 k1 B4 b4 => ⟨_, rfl, b, l, rfl, B4, fun y2 c2 H4 dy2 k2 B5 b5 => ⟨(by show 2 ≤ sizeLine; decide), fun t ht => ?_⟩⟩⟩
        exact PvPairs.step B2 hD p dy1 k1 B4 b4 dy2 k2 B5 b5 ht
      · obtain ⟨B3, b3, t, u, v, du, dv, hD3, hpr⟩ := p
        have hDb : D ≠ b := B2.ne hD
        refine ⟨_, rfl, _, rfl, _, rfl, x, fl, b, l, D, t, u, v, du, dv, rfl, hm, B3, SqL.of ((L2.del_ne hDb).trans hD3), fun i hi => (hpr i hi).same del_sub, fun H' B' b' => ⟨true, rfl, iteF ⟨B', (bt.trans b3).trans b', _, _, _, rfl⟩⟩⟩
    · rintro _ H2 ⟨B2, bt, v2, v3, v4, rfl⟩
      have B5 := B2
      generalize H2 = H5 at B5
      clear bt B2
      refine ⟨(by show 12 ≤ sizeLine; decide), fun tk htk => ⟨tk, rfl, ⟨_, SqT.of upd_same⟩, for_tup (K := K) (a := tk) (xs := [.str "BreaksBeside", .str "NotSo", .str "NotEnough", .str "EndedRun", .str "UnknownPart", .str "UnknownName", .str "UnknownRun", .str "NotHeld", .str "BadDeed", .str "NoDraft", .str "InDraft", .str "NothingLeft"])
        (fun j σ H' => BagAt l H' b ∧ But b (upd H5 tk (.tup [.str "BreaksBeside", .str "NotSo", .str "NotEnough", .str "EndedRun", .str "UnknownPart", .str "UnknownName", .str "UnknownRun", .str "NotHeld", .str "BadDeed", .str "NoDraft", .str "InDraft", .str "NothingLeft"])) H' ∧ ∃ v2 v3 v4 : Option V, σ = [some (.ref a), some (.ref b), v2, v3, v4, none]) ⟨B5.new htk _, But.refl, _, _, _, rfl⟩ (fun j σ H' _ h => SqT.of (h.2.1.at (B5.ne htk) upd_same)) ?_ ?_⟩⟩
      · rintro j y _ H2 hj ⟨B2, bt, v2, v3, v4, rfl⟩
        obtain ⟨x, fl, rfl, hm⟩ := inB y (List.mem_of_getElem? hj)
        refine ⟨2, rfl, by decide, by decide, fun D hD => lc_range (lo := 0) (n := 2) (PvPairs K b l D H2) ⟨B2.new hD _, but_new But.refl hD, fun _ => 0, fun _ => .non, fun _ => .non, fun _ => .none, fun _ => .none, upd_same, fun j hj => absurd hj (Nat.not_lt_zero j)⟩ (fun i Hi hi p => ?_) (fun Hi p => ?_)⟩
        · have B3 := p.1
          refine ⟨rfl, _, rfl, b, l, rfl, B3, fun y1 c1 H3 dy1 k1 B4 b4 => ⟨_, rfl, b, l, rfl, B4, fun y2 c2 H4 dy2 k2 B5 b5 => ⟨(by show 2 ≤ sizeLine; decide), fun t ht => ?_⟩⟩⟩
          exact PvPairs.step B2 hD p dy1 k1 B4 b4 dy2 k2 B5 b5 ht
        · obtain ⟨B3, b3, t, u, v, du, dv, hD3, hpr⟩ := p
          have hDb : D ≠ b := B2.ne hD
          refine ⟨_, rfl, _, rfl, _, rfl, x, fl, b, l, D, t, u, v, du, dv, rfl, hm, B3, SqL.of ((L2.del_ne hDb).trans hD3), fun i hi => (hpr i hi).same del_sub, fun H' B' b' => ⟨true, rfl, iteF ⟨B', (bt.trans b3).trans b', _, _, _, rfl⟩⟩⟩
      · rintro _ H2 ⟨B2, bt, v2, v3, v4, rfl⟩
        exact ⟨B2, _, _, _, rfl⟩
  · rintro _ H0 ⟨B0, v2, v3, v4, rfl⟩
    exact q H0
end
end K0

set_option Elab.async false
set_option linter.all false
set_option maxRecDepth 100000
set_option maxHeartbeats 4000000
namespace Fb
open PySem PySem.Spec PyProof.Rows L2
/-- what the written part says of a def of the top -/
structure RawF (K : PySem.W.Frag) (x : Str) (st : Stmt) (f : Addr) : Prop where
  ex : ∃ (oc : Value) (od : Option Addr) (kV dc pm : Value) (an : Option Addr) (cd ct : Value) (sl : Array (Option Value)), K.lookup f = some ⟨oc, od, .func (PySem.W.fnOf x x (defArgs st) (defBody st) (defScope st) .none kV dc pm an cd ct), sl⟩ ∧ PySem.W.codeIn K cd x = true ∧ PySem.W.keepIn K (.ref f) = true
theorem RawF.sat {K : PySem.W.Frag} {mg : Str → Option Value} {x : Str} {st : Stmt} {f : Addr} {ps : List Str} (R : RawF K x st f) (g : mg x = some (.ref f))
    (h : ∀ (kV doc pm : Value) (an : Option Addr) (cdv ct : Value) (us : List Value), us.length = ps.length → bindArgs (PySem.W.fnOf x x (defArgs st) (defBody st) (defScope st) .none kV doc pm an cdv ct) ⟨us, []⟩ = pure (ps.zip us)) : Sat K mg x st ps := by
  obtain ⟨oc, od, kV, dc, pm, an, cd, ct, sl, l, c, k⟩ := R.ex
  have F := fun_mk (st := st) l c k
  exact ⟨f, _, F, g, k, F.binds h⟩
theorem RawF.of {K : PySem.W.Frag} {x : Str} {st : Stmt} {f : Addr} {oc : Value} {od : Option Addr} {kV dc pm : Value} {an : Option Addr} {cd ct : Value} {sl : Array (Option Value)} (l : K.lookup f = some ⟨oc, od, .func (PySem.W.fnOf x x (defArgs st) (defBody st) (defScope st) .none kV dc pm an cd ct), sl⟩)
    (c : PySem.W.codeIn K cd x = true) (k : PySem.W.keepIn K (.ref f) = true) : RawF K x st f := ⟨⟨_, _, _, _, _, _, _, _, _, l, c, k⟩⟩
/-- what it says of an own error class -/
structure RawC (P : Program) (K : PySem.W.Frag) (qual f1 f2 : Str) (st : Stmt) (B newId ini : String) (bmB : List Value) (C : Addr) : Prop where
  q1 : PySem.W.excInitIn K C bmB newId = true
  q2 : PySem.W.excOver K C bmB = true
  sB : PySem.W.subIn K (.ref C) (.type B) = some true
  ks : PySem.W.ks_superIn K C C "__init__" = some (some (.builtin ini))
  cl : PySem.W.isClsIn K C = true
  hd : PySem.W.hasDictIn K C = true
  sa : PySem.W.findIn K (.ref C) "__setattr__" = some (some (.builtin "object.__setattr__"))
  ga : PySem.W.findIn K (.ref C) "__getattribute__" = some (some (.builtin "BaseException.__getattribute__"))
  gg : PySem.W.findIn K (.ref C) "__getattr__" = some none
  ex : PySem.W.subIn K (.ref C) (.type "BaseException") = some true
  ty : PySem.W.typeIn K (.ref C) = some (.type "type")
  kp : PySem.W.keepIn K (.ref C) = true
  ha : PySem.W.findIn K (.ref C) "__class__" = some (some (.builtin "object.__class__"))
  hm : PySem.W.mroIn K C (.type "object") = some true
  se : PySem.W.mroIn K C (.ref C) = some true
  no : PySem.W.findIn K (.ref C) "code" = some none
  n1 : PySem.W.findIn K (.ref C) f1 = some none
  n2 : PySem.W.findIn K (.ref C) f2 = some none
  fn : ∃ (fI c cc : Addr) (oc : Value) (od : Option Addr) (doc pm : Value) (an : Option Addr) (ct : Value) (osl : Array (Option Value)) (ccl : Value) (cdd : Option Addr) (vs : Array Value) (ccs : Array (Option Value)) (file : Str) (tf : Tok) (cl : Value) (cld : Option Addr) (csl : Array (Option Value)),
    PySem.W.findIn K (.ref C) "__init__" = some (some (.ref fI)) ∧ PySem.W.typeIn K (.ref fI) = some (.type "function") ∧
    K.lookup fI = some ⟨oc, od, .func (PySem.W.fnX "__init__" qual (defArgs st) (defBody st) (defScope st) [(("__class__" : Str), cc)] .none .none doc pm an (.ref c) ct), osl⟩ ∧ PySem.W.codeIn K (.ref c) qual = true ∧
    K.lookup c = some ⟨ccl, cdd, .fields vs, ccs⟩ ∧ vs[2]? = some (.str file tf) ∧ ((P.main.file : Str) == file) = true ∧ K.lookup cc = some ⟨cl, cld, .cell (some (.ref C)), csl⟩
theorem RawC.of {P : Program} {K : PySem.W.Frag} {qual f1 f2 : Str} {st : Stmt} {B newId ini : String} {bmB : List Value} {C fI c cc : Addr} {oc : Value} {od : Option Addr} {doc pm : Value} {an : Option Addr} {ct : Value} {osl : Array (Option Value)} {ccl : Value} {cdd : Option Addr} {vs : Array Value} {ccs : Array (Option Value)} {file : Str} {tf : Tok} {cl0 : Value} {cld : Option Addr} {csl : Array (Option Value)}
    (q1 : PySem.W.excInitIn K C bmB newId = true) (q2 : PySem.W.excOver K C bmB = true) (sB : PySem.W.subIn K (.ref C) (.type B) = some true) (ks : PySem.W.ks_superIn K C C "__init__" = some (some (.builtin ini))) (cl : PySem.W.isClsIn K C = true) (hd : PySem.W.hasDictIn K C = true)
    (sa : PySem.W.findIn K (.ref C) "__setattr__" = some (some (.builtin "object.__setattr__"))) (ga : PySem.W.findIn K (.ref C) "__getattribute__" = some (some (.builtin "BaseException.__getattribute__"))) (gg : PySem.W.findIn K (.ref C) "__getattr__" = some none) (ex : PySem.W.subIn K (.ref C) (.type "BaseException") = some true)
    (ty : PySem.W.typeIn K (.ref C) = some (.type "type")) (kp : PySem.W.keepIn K (.ref C) = true) (ha : PySem.W.findIn K (.ref C) "__class__" = some (some (.builtin "object.__class__"))) (hm : PySem.W.mroIn K C (.type "object") = some true) (se : PySem.W.mroIn K C (.ref C) = some true)
    (no : PySem.W.findIn K (.ref C) "code" = some none) (n1 : PySem.W.findIn K (.ref C) f1 = some none) (n2 : PySem.W.findIn K (.ref C) f2 = some none)
    (a1 : PySem.W.findIn K (.ref C) "__init__" = some (some (.ref fI))) (a2 : PySem.W.typeIn K (.ref fI) = some (.type "function"))
    (a3 : K.lookup fI = some ⟨oc, od, .func (PySem.W.fnX "__init__" qual (defArgs st) (defBody st) (defScope st) [(("__class__" : Str), cc)] .none .none doc pm an (.ref c) ct), osl⟩) (a4 : PySem.W.codeIn K (.ref c) qual = true)
    (a5 : K.lookup c = some ⟨ccl, cdd, .fields vs, ccs⟩) (a6 : vs[2]? = some (.str file tf)) (a7 : ((P.main.file : Str) == file) = true) (a8 : K.lookup cc = some ⟨cl0, cld, .cell (some (.ref C)), csl⟩) : RawC P K qual f1 f2 st B newId ini bmB C :=
  ⟨q1, q2, sB, ks, cl, hd, sa, ga, gg, ex, ty, kp, ha, hm, se, no, n1, n2, ⟨_, _, _, _, _, _, _, _, _, _, _, _, _, _, _, _, _, _, _, a1, a2, a3, a4, a5, a6, a7, a8⟩⟩
/-- the facts that all classes share -/
structure RawG (P : Program) (K : PySem.W.Frag) : Prop where
  th : PySem.W.nsIn K cStatics "thirdparty.any" = some none
  hn : PySem.W.specialIn K (.builtin "object.__class__") "__get__" = some (some (.builtin "getset_descriptor.__get__"))
  ht : PySem.W.takesIn K (.builtin "object.__class__") = some true
  tp : (P.main.scope.names.lookup ("super" : Str)).isSome = false
section
variable {P : Program} {K : PySem.W.Frag} {qual f1 f2 : Str} {st : Stmt} {B newId ini : String} {bmB : List Value} {C : Addr}
theorem RawC.ec (R : RawC P K qual f1 f2 st B newId ini bmB C) (g : RawG P K) (eb : ExcBaseFacts B newId ini bmB) (sf : StoreFacts B bmB "object.__setattr__" "object") (kx : PySem.W.KxsFacts B ini) : EC K C :=
  { by_ := ⟨B, newId, ini, bmB, ⟨eb, sf, kx, R.q1, R.q2, R.sB⟩, R.ks⟩, cl := R.cl, hd := R.hd, sa := R.sa, ga := R.ga, gg := R.gg, ex := R.ex, ty := R.ty, kp := R.kp, th := g.th }
theorem RawC.init (R : RawC P K qual f1 f2 st B newId ini bmB C) (g : RawG P K) : ∃ (fI : Addr) (fd : FuncData), PySem.W.findIn K (.ref C) "__init__" = some (some (.ref fI)) ∧ PySem.W.typeIn K (.ref fI) = some (.type "function") ∧ InitF P K C fI st qual fd := by
  obtain ⟨fI, c, cc, oc, od, doc, pm, an, ct, osl, ccl, cdd, vs, ccs, file, tf, cl, cld, csl, h1, h2, h3, h4, h5, h6, h7, h8⟩ := R.fn
  exact ⟨fI, _, h1, h2, ⟨oc, od, doc, pm, an, ct, osl, c, cc, rfl, h3, ⟨h4, rfl, ⟨ccl, cdd, vs, ccs, file, tf, h5, h6, h7⟩, ⟨cl, cld, csl, h8⟩, R.se, g.tp⟩⟩⟩
theorem RawC.eis (R : RawC P K qual f1 f2 st B newId ini bmB C) (g : RawG P K) : EIs K C := ⟨R.ha, g.hn, g.ht, R.hm⟩
end
def addrOf (l : List (Str × Addr)) (n : Str) : Addr := (l.lookup n).getD 0
end Fb
namespace K0
open PySem PySem.Spec PyProof.Rows L2 Fb
/-- what a class is an instance of, what catches it -/
def kitChk (K : PySem.W.Frag) (C : Str → Addr) : Bool := tbl.all fun p => (own.all fun n => PySem.W.kitOne K (.ref (C p.1)) (.ref (C n)) == some (decide (n ∈ due p.1))) && ((bui.all fun n => PySem.W.kitOne K (.ref (C p.1)) (.type n) == some (decide ((n : Str) ∈ due p.1))) && (hand.all fun n => PySem.W.exmOne K (.ref (C p.1)) (.ref (C n)) == some (decide (n = baseOf p.1))))
section
variable {P : Program} {w : World} {K : PySem.W.Frag} {mg : Str → Option Value} {base : Heap}
theorem kit_own {C : Str → Addr} (h : kitChk K C = true) : ∀ x fl, (x, fl) ∈ tbl → ∀ n ∈ own, PySem.W.kitOne K (.ref (C x)) (.ref (C n)) = some (decide (n ∈ due x)) := fun x fl hm n hn => by
  have e := List.all_eq_true.mp h _ hm
  rw [Bool.and_eq_true] at e
  exact eq_of_beq (List.all_eq_true.mp e.1 n hn)
theorem kit_bui {C : Str → Addr} (h : kitChk K C = true) : ∀ x fl, (x, fl) ∈ tbl → ∀ n ∈ bui, PySem.W.kitOne K (.ref (C x)) (.type n) = some (decide ((n : Str) ∈ due x)) := fun x fl hm n hn => by
  have e := List.all_eq_true.mp h _ hm
  rw [Bool.and_eq_true, Bool.and_eq_true] at e
  exact eq_of_beq (List.all_eq_true.mp e.2.1 n hn)
theorem kit_exm {C : Str → Addr} (h : kitChk K C = true) : ∀ x fl, (x, fl) ∈ tbl → ∀ n ∈ hand, PySem.W.exmOne K (.ref (C x)) (.ref (C n)) = some (decide (n = baseOf x)) := fun x fl hm n hn => by
  have e := List.all_eq_true.mp h _ hm
  rw [Bool.and_eq_true, Bool.and_eq_true] at e
  exact eq_of_beq (List.all_eq_true.mp e.2.2 n hn)
theorem cl_BadText {C : Addr} (R : RawC P K "BadText.__init__" "line" "why" sBadText "ValueError" "ValueError.__new__" "ValueError.__init__" [.type "ValueError", .type "Exception", .type "BaseException", .type "object"] C) (g : RawG P K) (gC : mg "BadText" = some (.ref C)) (ms : mg "super" = none) : Fb.Cl P w K mg base "BadText" ["line", "why"] C := by
  have ec := R.ec g PySem.F.excBase_ValueError PySem.F.store_ValueError PySem.W.kxs_ValueError
  obtain ⟨fI, fd, iC, tI, S⟩ := R.init g
  have no : NoF K C ["line", "why"] := ⟨R.no, fun f hf => by
      simp only [List.mem_cons, List.not_mem_nil, or_false] at hf
      rcases hf with rfl | rfl
      · exact R.n1
      · exact R.n2⟩
  exact ⟨gC, ⟨fI, fd, ⟨ec, iC, tI⟩, ok_BadText ec S no ms, S.binds (fun doc pm an ct c cc us hl => match us, hl with | [_, _, _], _ => rfl), ⟨S.kbn (fun doc pm an ct c cc us ws h1 h2 => match us, h1, ws, h2 with | [_], _, [_, _], _ => rfl) rel_app, S.kbn (fun doc pm an ct c cc us ws h1 h2 => match us, h1, ws, h2 with | [_], _, [_, _], _ => rfl) rel_rev, S.kbn (fun doc pm an ct c cc us ws h1 h2 => match us, h1, ws, h2 with | [_, _], _, [_], _ => rfl) rel_app⟩⟩, R.eis g, no⟩
theorem cl_UnlikeParts {C : Addr} (R : RawC P K "UnlikeParts.__init__" "one" "other" sUnlikeParts "ValueError" "ValueError.__new__" "ValueError.__init__" [.type "ValueError", .type "Exception", .type "BaseException", .type "object"] C) (g : RawG P K) (gC : mg "UnlikeParts" = some (.ref C)) (ms : mg "super" = none) : Fb.Cl P w K mg base "UnlikeParts" ["one", "other"] C := by
  have ec := R.ec g PySem.F.excBase_ValueError PySem.F.store_ValueError PySem.W.kxs_ValueError
  obtain ⟨fI, fd, iC, tI, S⟩ := R.init g
  have no : NoF K C ["one", "other"] := ⟨R.no, fun f hf => by
      simp only [List.mem_cons, List.not_mem_nil, or_false] at hf
      rcases hf with rfl | rfl
      · exact R.n1
      · exact R.n2⟩
  exact ⟨gC, ⟨fI, fd, ⟨ec, iC, tI⟩, ok_UnlikeParts ec S no ms, S.binds (fun doc pm an ct c cc us hl => match us, hl with | [_, _, _], _ => rfl), ⟨S.kbn (fun doc pm an ct c cc us ws h1 h2 => match us, h1, ws, h2 with | [_], _, [_, _], _ => rfl) rel_app, S.kbn (fun doc pm an ct c cc us ws h1 h2 => match us, h1, ws, h2 with | [_], _, [_, _], _ => rfl) rel_rev, S.kbn (fun doc pm an ct c cc us ws h1 h2 => match us, h1, ws, h2 with | [_, _], _, [_], _ => rfl) rel_app⟩⟩, R.eis g, no⟩
theorem cl_UnlikeTapes {C : Addr} (R : RawC P K "UnlikeTapes.__init__" "one" "other" sUnlikeTapes "ValueError" "ValueError.__new__" "ValueError.__init__" [.type "ValueError", .type "Exception", .type "BaseException", .type "object"] C) (g : RawG P K) (gC : mg "UnlikeTapes" = some (.ref C)) (ms : mg "super" = none) : Fb.Cl P w K mg base "UnlikeTapes" ["one", "other"] C := by
  have ec := R.ec g PySem.F.excBase_ValueError PySem.F.store_ValueError PySem.W.kxs_ValueError
  obtain ⟨fI, fd, iC, tI, S⟩ := R.init g
  have no : NoF K C ["one", "other"] := ⟨R.no, fun f hf => by
      simp only [List.mem_cons, List.not_mem_nil, or_false] at hf
      rcases hf with rfl | rfl
      · exact R.n1
      · exact R.n2⟩
  exact ⟨gC, ⟨fI, fd, ⟨ec, iC, tI⟩, ok_UnlikeTapes ec S no ms, S.binds (fun doc pm an ct c cc us hl => match us, hl with | [_, _, _], _ => rfl), ⟨S.kbn (fun doc pm an ct c cc us ws h1 h2 => match us, h1, ws, h2 with | [_], _, [_, _], _ => rfl) rel_app, S.kbn (fun doc pm an ct c cc us ws h1 h2 => match us, h1, ws, h2 with | [_], _, [_, _], _ => rfl) rel_rev, S.kbn (fun doc pm an ct c cc us ws h1 h2 => match us, h1, ws, h2 with | [_, _], _, [_], _ => rfl) rel_app⟩⟩, R.eis g, no⟩
theorem cl_TooMany {C : Addr} (R : RawC P K "TooMany.__init__" "what" "found" sTooMany "ValueError" "ValueError.__new__" "ValueError.__init__" [.type "ValueError", .type "Exception", .type "BaseException", .type "object"] C) (g : RawG P K) (gC : mg "TooMany" = some (.ref C)) (ms : mg "super" = none) : Fb.Cl P w K mg base "TooMany" ["what", "found"] C := by
  have ec := R.ec g PySem.F.excBase_ValueError PySem.F.store_ValueError PySem.W.kxs_ValueError
  obtain ⟨fI, fd, iC, tI, S⟩ := R.init g
  have no : NoF K C ["what", "found"] := ⟨R.no, fun f hf => by
      simp only [List.mem_cons, List.not_mem_nil, or_false] at hf
      rcases hf with rfl | rfl
      · exact R.n1
      · exact R.n2⟩
  exact ⟨gC, ⟨fI, fd, ⟨ec, iC, tI⟩, ok_TooMany ec S no ms, S.binds (fun doc pm an ct c cc us hl => match us, hl with | [_, _, _], _ => rfl), ⟨S.kbn (fun doc pm an ct c cc us ws h1 h2 => match us, h1, ws, h2 with | [_], _, [_, _], _ => rfl) rel_app, S.kbn (fun doc pm an ct c cc us ws h1 h2 => match us, h1, ws, h2 with | [_], _, [_, _], _ => rfl) rel_rev, S.kbn (fun doc pm an ct c cc us ws h1 h2 => match us, h1, ws, h2 with | [_, _], _, [_], _ => rfl) rel_app⟩⟩, R.eis g, no⟩
theorem cl_CantAnswer {C : Addr} (R : RawC P K "CantAnswer.__init__" "at" "run" sCantAnswer "ValueError" "ValueError.__new__" "ValueError.__init__" [.type "ValueError", .type "Exception", .type "BaseException", .type "object"] C) (g : RawG P K) (gC : mg "CantAnswer" = some (.ref C)) (ms : mg "super" = none) : Fb.Cl P w K mg base "CantAnswer" ["at", "run"] C := by
  have ec := R.ec g PySem.F.excBase_ValueError PySem.F.store_ValueError PySem.W.kxs_ValueError
  obtain ⟨fI, fd, iC, tI, S⟩ := R.init g
  have no : NoF K C ["at", "run"] := ⟨R.no, fun f hf => by
      simp only [List.mem_cons, List.not_mem_nil, or_false] at hf
      rcases hf with rfl | rfl
      · exact R.n1
      · exact R.n2⟩
  exact ⟨gC, ⟨fI, fd, ⟨ec, iC, tI⟩, ok_CantAnswer ec S no ms, S.binds (fun doc pm an ct c cc us hl => match us, hl with | [_, _, _], _ => rfl), ⟨S.kbn (fun doc pm an ct c cc us ws h1 h2 => match us, h1, ws, h2 with | [_], _, [_, _], _ => rfl) rel_app, S.kbn (fun doc pm an ct c cc us ws h1 h2 => match us, h1, ws, h2 with | [_], _, [_, _], _ => rfl) rel_rev, S.kbn (fun doc pm an ct c cc us ws h1 h2 => match us, h1, ws, h2 with | [_, _], _, [_], _ => rfl) rel_app⟩⟩, R.eis g, no⟩
theorem cl_BadName {C : Addr} (R : RawC P K "BadName.__init__" "name" "name" sBadName "ValueError" "ValueError.__new__" "ValueError.__init__" [.type "ValueError", .type "Exception", .type "BaseException", .type "object"] C) (g : RawG P K) (gC : mg "BadName" = some (.ref C)) (ms : mg "super" = none) : Fb.Cl P w K mg base "BadName" ["name"] C := by
  have ec := R.ec g PySem.F.excBase_ValueError PySem.F.store_ValueError PySem.W.kxs_ValueError
  obtain ⟨fI, fd, iC, tI, S⟩ := R.init g
  have no : NoF K C ["name"] := ⟨R.no, fun f hf => by rcases List.mem_singleton.mp hf with rfl; exact R.n1⟩
  exact ⟨gC, ⟨fI, fd, ⟨ec, iC, tI⟩, ok_BadName ec S no ms, S.binds (fun doc pm an ct c cc us hl => match us, hl with | [_, _], _ => rfl), S.kbn (fun doc pm an ct c cc us ws h1 h2 => match us, h1, ws, h2 with | [_], _, [_], _ => rfl) rel_app⟩, R.eis g, no⟩
theorem cl_BadLetters {C : Addr} (R : RawC P K "BadLetters.__init__" "at" "at" sBadLetters "ValueError" "ValueError.__new__" "ValueError.__init__" [.type "ValueError", .type "Exception", .type "BaseException", .type "object"] C) (g : RawG P K) (gC : mg "BadLetters" = some (.ref C)) (ms : mg "super" = none) : Fb.Cl P w K mg base "BadLetters" ["at"] C := by
  have ec := R.ec g PySem.F.excBase_ValueError PySem.F.store_ValueError PySem.W.kxs_ValueError
  obtain ⟨fI, fd, iC, tI, S⟩ := R.init g
  have no : NoF K C ["at"] := ⟨R.no, fun f hf => by rcases List.mem_singleton.mp hf with rfl; exact R.n1⟩
  exact ⟨gC, ⟨fI, fd, ⟨ec, iC, tI⟩, ok_BadLetters ec S no ms, S.binds (fun doc pm an ct c cc us hl => match us, hl with | [_, _], _ => rfl), S.kbn (fun doc pm an ct c cc us ws h1 h2 => match us, h1, ws, h2 with | [_], _, [_], _ => rfl) rel_app⟩, R.eis g, no⟩
theorem cl_BadRun {C : Addr} (R : RawC P K "BadRun.__init__" "at" "at" sBadRun "ValueError" "ValueError.__new__" "ValueError.__init__" [.type "ValueError", .type "Exception", .type "BaseException", .type "object"] C) (g : RawG P K) (gC : mg "BadRun" = some (.ref C)) (ms : mg "super" = none) : Fb.Cl P w K mg base "BadRun" ["at"] C := by
  have ec := R.ec g PySem.F.excBase_ValueError PySem.F.store_ValueError PySem.W.kxs_ValueError
  obtain ⟨fI, fd, iC, tI, S⟩ := R.init g
  have no : NoF K C ["at"] := ⟨R.no, fun f hf => by rcases List.mem_singleton.mp hf with rfl; exact R.n1⟩
  exact ⟨gC, ⟨fI, fd, ⟨ec, iC, tI⟩, ok_BadRun ec S no ms, S.binds (fun doc pm an ct c cc us hl => match us, hl with | [_, _], _ => rfl), S.kbn (fun doc pm an ct c cc us ws h1 h2 => match us, h1, ws, h2 with | [_], _, [_], _ => rfl) rel_app⟩, R.eis g, no⟩
theorem cl_BadColumn {C : Addr} (R : RawC P K "BadColumn.__init__" "column" "column" sBadColumn "ValueError" "ValueError.__new__" "ValueError.__init__" [.type "ValueError", .type "Exception", .type "BaseException", .type "object"] C) (g : RawG P K) (gC : mg "BadColumn" = some (.ref C)) (ms : mg "super" = none) : Fb.Cl P w K mg base "BadColumn" ["column"] C := by
  have ec := R.ec g PySem.F.excBase_ValueError PySem.F.store_ValueError PySem.W.kxs_ValueError
  obtain ⟨fI, fd, iC, tI, S⟩ := R.init g
  have no : NoF K C ["column"] := ⟨R.no, fun f hf => by rcases List.mem_singleton.mp hf with rfl; exact R.n1⟩
  exact ⟨gC, ⟨fI, fd, ⟨ec, iC, tI⟩, ok_BadColumn ec S no ms, S.binds (fun doc pm an ct c cc us hl => match us, hl with | [_, _], _ => rfl), S.kbn (fun doc pm an ct c cc us ws h1 h2 => match us, h1, ws, h2 with | [_], _, [_], _ => rfl) rel_app⟩, R.eis g, no⟩
theorem cl_BadNumber {C : Addr} (R : RawC P K "BadNumber.__init__" "value" "value" sBadNumber "ValueError" "ValueError.__new__" "ValueError.__init__" [.type "ValueError", .type "Exception", .type "BaseException", .type "object"] C) (g : RawG P K) (gC : mg "BadNumber" = some (.ref C)) (ms : mg "super" = none) : Fb.Cl P w K mg base "BadNumber" ["value"] C := by
  have ec := R.ec g PySem.F.excBase_ValueError PySem.F.store_ValueError PySem.W.kxs_ValueError
  obtain ⟨fI, fd, iC, tI, S⟩ := R.init g
  have no : NoF K C ["value"] := ⟨R.no, fun f hf => by rcases List.mem_singleton.mp hf with rfl; exact R.n1⟩
  exact ⟨gC, ⟨fI, fd, ⟨ec, iC, tI⟩, ok_BadNumber ec S no ms, S.binds (fun doc pm an ct c cc us hl => match us, hl with | [_, _], _ => rfl), S.kbn (fun doc pm an ct c cc us ws h1 h2 => match us, h1, ws, h2 with | [_], _, [_], _ => rfl) rel_app⟩, R.eis g, no⟩
theorem cl_BadTable {C : Addr} (R : RawC P K "BadTable.__init__" "at" "at" sBadTable "ValueError" "ValueError.__new__" "ValueError.__init__" [.type "ValueError", .type "Exception", .type "BaseException", .type "object"] C) (g : RawG P K) (gC : mg "BadTable" = some (.ref C)) (ms : mg "super" = none) : Fb.Cl P w K mg base "BadTable" ["at"] C := by
  have ec := R.ec g PySem.F.excBase_ValueError PySem.F.store_ValueError PySem.W.kxs_ValueError
  obtain ⟨fI, fd, iC, tI, S⟩ := R.init g
  have no : NoF K C ["at"] := ⟨R.no, fun f hf => by rcases List.mem_singleton.mp hf with rfl; exact R.n1⟩
  exact ⟨gC, ⟨fI, fd, ⟨ec, iC, tI⟩, ok_BadTable ec S no ms, S.binds (fun doc pm an ct c cc us hl => match us, hl with | [_, _], _ => rfl), S.kbn (fun doc pm an ct c cc us ws h1 h2 => match us, h1, ws, h2 with | [_], _, [_], _ => rfl) rel_app⟩, R.eis g, no⟩
theorem cl_HeldTwice {C : Addr} (R : RawC P K "HeldTwice.__init__" "item" "item" sHeldTwice "ValueError" "ValueError.__new__" "ValueError.__init__" [.type "ValueError", .type "Exception", .type "BaseException", .type "object"] C) (g : RawG P K) (gC : mg "HeldTwice" = some (.ref C)) (ms : mg "super" = none) : Fb.Cl P w K mg base "HeldTwice" ["item"] C := by
  have ec := R.ec g PySem.F.excBase_ValueError PySem.F.store_ValueError PySem.W.kxs_ValueError
  obtain ⟨fI, fd, iC, tI, S⟩ := R.init g
  have no : NoF K C ["item"] := ⟨R.no, fun f hf => by rcases List.mem_singleton.mp hf with rfl; exact R.n1⟩
  exact ⟨gC, ⟨fI, fd, ⟨ec, iC, tI⟩, ok_HeldTwice ec S no ms, S.binds (fun doc pm an ct c cc us hl => match us, hl with | [_, _], _ => rfl), S.kbn (fun doc pm an ct c cc us ws h1 h2 => match us, h1, ws, h2 with | [_], _, [_], _ => rfl) rel_app⟩, R.eis g, no⟩
theorem cl_BreaksBeside {C : Addr} (R : RawC P K "BreaksBeside.__init__" "lot" "lot" sBreaksBeside "ValueError" "ValueError.__new__" "ValueError.__init__" [.type "ValueError", .type "Exception", .type "BaseException", .type "object"] C) (g : RawG P K) (gC : mg "BreaksBeside" = some (.ref C)) (ms : mg "super" = none) : Fb.Cl P w K mg base "BreaksBeside" ["lot"] C := by
  have ec := R.ec g PySem.F.excBase_ValueError PySem.F.store_ValueError PySem.W.kxs_ValueError
  obtain ⟨fI, fd, iC, tI, S⟩ := R.init g
  have no : NoF K C ["lot"] := ⟨R.no, fun f hf => by rcases List.mem_singleton.mp hf with rfl; exact R.n1⟩
  exact ⟨gC, ⟨fI, fd, ⟨ec, iC, tI⟩, ok_BreaksBeside ec S no ms, S.binds (fun doc pm an ct c cc us hl => match us, hl with | [_, _], _ => rfl), S.kbn (fun doc pm an ct c cc us ws h1 h2 => match us, h1, ws, h2 with | [_], _, [_], _ => rfl) rel_app⟩, R.eis g, no⟩
theorem cl_NotSo {C : Addr} (R : RawC P K "NotSo.__init__" "lot" "lot" sNotSo "ValueError" "ValueError.__new__" "ValueError.__init__" [.type "ValueError", .type "Exception", .type "BaseException", .type "object"] C) (g : RawG P K) (gC : mg "NotSo" = some (.ref C)) (ms : mg "super" = none) : Fb.Cl P w K mg base "NotSo" ["lot"] C := by
  have ec := R.ec g PySem.F.excBase_ValueError PySem.F.store_ValueError PySem.W.kxs_ValueError
  obtain ⟨fI, fd, iC, tI, S⟩ := R.init g
  have no : NoF K C ["lot"] := ⟨R.no, fun f hf => by rcases List.mem_singleton.mp hf with rfl; exact R.n1⟩
  exact ⟨gC, ⟨fI, fd, ⟨ec, iC, tI⟩, ok_NotSo ec S no ms, S.binds (fun doc pm an ct c cc us hl => match us, hl with | [_, _], _ => rfl), S.kbn (fun doc pm an ct c cc us ws h1 h2 => match us, h1, ws, h2 with | [_], _, [_], _ => rfl) rel_app⟩, R.eis g, no⟩
theorem cl_NotEnough {C : Addr} (R : RawC P K "NotEnough.__init__" "lot" "lot" sNotEnough "ValueError" "ValueError.__new__" "ValueError.__init__" [.type "ValueError", .type "Exception", .type "BaseException", .type "object"] C) (g : RawG P K) (gC : mg "NotEnough" = some (.ref C)) (ms : mg "super" = none) : Fb.Cl P w K mg base "NotEnough" ["lot"] C := by
  have ec := R.ec g PySem.F.excBase_ValueError PySem.F.store_ValueError PySem.W.kxs_ValueError
  obtain ⟨fI, fd, iC, tI, S⟩ := R.init g
  have no : NoF K C ["lot"] := ⟨R.no, fun f hf => by rcases List.mem_singleton.mp hf with rfl; exact R.n1⟩
  exact ⟨gC, ⟨fI, fd, ⟨ec, iC, tI⟩, ok_NotEnough ec S no ms, S.binds (fun doc pm an ct c cc us hl => match us, hl with | [_, _], _ => rfl), S.kbn (fun doc pm an ct c cc us ws h1 h2 => match us, h1, ws, h2 with | [_], _, [_], _ => rfl) rel_app⟩, R.eis g, no⟩
theorem cl_EndedRun {C : Addr} (R : RawC P K "EndedRun.__init__" "at" "at" sEndedRun "ValueError" "ValueError.__new__" "ValueError.__init__" [.type "ValueError", .type "Exception", .type "BaseException", .type "object"] C) (g : RawG P K) (gC : mg "EndedRun" = some (.ref C)) (ms : mg "super" = none) : Fb.Cl P w K mg base "EndedRun" ["at"] C := by
  have ec := R.ec g PySem.F.excBase_ValueError PySem.F.store_ValueError PySem.W.kxs_ValueError
  obtain ⟨fI, fd, iC, tI, S⟩ := R.init g
  have no : NoF K C ["at"] := ⟨R.no, fun f hf => by rcases List.mem_singleton.mp hf with rfl; exact R.n1⟩
  exact ⟨gC, ⟨fI, fd, ⟨ec, iC, tI⟩, ok_EndedRun ec S no ms, S.binds (fun doc pm an ct c cc us hl => match us, hl with | [_, _], _ => rfl), S.kbn (fun doc pm an ct c cc us ws h1 h2 => match us, h1, ws, h2 with | [_], _, [_], _ => rfl) rel_app⟩, R.eis g, no⟩
theorem cl_UnknownPart {C : Addr} (R : RawC P K "UnknownPart.__init__" "name" "name" sUnknownPart "LookupError" "LookupError.__new__" "LookupError.__init__" [.type "LookupError", .type "Exception", .type "BaseException", .type "object"] C) (g : RawG P K) (gC : mg "UnknownPart" = some (.ref C)) (ms : mg "super" = none) : Fb.Cl P w K mg base "UnknownPart" ["name"] C := by
  have ec := R.ec g PySem.F.excBase_LookupError PySem.F.store_LookupError PySem.W.kxs_LookupError
  obtain ⟨fI, fd, iC, tI, S⟩ := R.init g
  have no : NoF K C ["name"] := ⟨R.no, fun f hf => by rcases List.mem_singleton.mp hf with rfl; exact R.n1⟩
  exact ⟨gC, ⟨fI, fd, ⟨ec, iC, tI⟩, ok_UnknownPart ec S no ms, S.binds (fun doc pm an ct c cc us hl => match us, hl with | [_, _], _ => rfl), S.kbn (fun doc pm an ct c cc us ws h1 h2 => match us, h1, ws, h2 with | [_], _, [_], _ => rfl) rel_app⟩, R.eis g, no⟩
theorem cl_UnknownName {C : Addr} (R : RawC P K "UnknownName.__init__" "name" "name" sUnknownName "LookupError" "LookupError.__new__" "LookupError.__init__" [.type "LookupError", .type "Exception", .type "BaseException", .type "object"] C) (g : RawG P K) (gC : mg "UnknownName" = some (.ref C)) (ms : mg "super" = none) : Fb.Cl P w K mg base "UnknownName" ["name"] C := by
  have ec := R.ec g PySem.F.excBase_LookupError PySem.F.store_LookupError PySem.W.kxs_LookupError
  obtain ⟨fI, fd, iC, tI, S⟩ := R.init g
  have no : NoF K C ["name"] := ⟨R.no, fun f hf => by rcases List.mem_singleton.mp hf with rfl; exact R.n1⟩
  exact ⟨gC, ⟨fI, fd, ⟨ec, iC, tI⟩, ok_UnknownName ec S no ms, S.binds (fun doc pm an ct c cc us hl => match us, hl with | [_, _], _ => rfl), S.kbn (fun doc pm an ct c cc us ws h1 h2 => match us, h1, ws, h2 with | [_], _, [_], _ => rfl) rel_app⟩, R.eis g, no⟩
theorem cl_UnknownRun {C : Addr} (R : RawC P K "UnknownRun.__init__" "at" "at" sUnknownRun "LookupError" "LookupError.__new__" "LookupError.__init__" [.type "LookupError", .type "Exception", .type "BaseException", .type "object"] C) (g : RawG P K) (gC : mg "UnknownRun" = some (.ref C)) (ms : mg "super" = none) : Fb.Cl P w K mg base "UnknownRun" ["at"] C := by
  have ec := R.ec g PySem.F.excBase_LookupError PySem.F.store_LookupError PySem.W.kxs_LookupError
  obtain ⟨fI, fd, iC, tI, S⟩ := R.init g
  have no : NoF K C ["at"] := ⟨R.no, fun f hf => by rcases List.mem_singleton.mp hf with rfl; exact R.n1⟩
  exact ⟨gC, ⟨fI, fd, ⟨ec, iC, tI⟩, ok_UnknownRun ec S no ms, S.binds (fun doc pm an ct c cc us hl => match us, hl with | [_, _], _ => rfl), S.kbn (fun doc pm an ct c cc us ws h1 h2 => match us, h1, ws, h2 with | [_], _, [_], _ => rfl) rel_app⟩, R.eis g, no⟩
theorem cl_NotHeld {C : Addr} (R : RawC P K "NotHeld.__init__" "run" "run" sNotHeld "LookupError" "LookupError.__new__" "LookupError.__init__" [.type "LookupError", .type "Exception", .type "BaseException", .type "object"] C) (g : RawG P K) (gC : mg "NotHeld" = some (.ref C)) (ms : mg "super" = none) : Fb.Cl P w K mg base "NotHeld" ["run"] C := by
  have ec := R.ec g PySem.F.excBase_LookupError PySem.F.store_LookupError PySem.W.kxs_LookupError
  obtain ⟨fI, fd, iC, tI, S⟩ := R.init g
  have no : NoF K C ["run"] := ⟨R.no, fun f hf => by rcases List.mem_singleton.mp hf with rfl; exact R.n1⟩
  exact ⟨gC, ⟨fI, fd, ⟨ec, iC, tI⟩, ok_NotHeld ec S no ms, S.binds (fun doc pm an ct c cc us hl => match us, hl with | [_, _], _ => rfl), S.kbn (fun doc pm an ct c cc us ws h1 h2 => match us, h1, ws, h2 with | [_], _, [_], _ => rfl) rel_app⟩, R.eis g, no⟩
theorem cl_BadDeed {C : Addr} (R : RawC P K "BadDeed.__init__" "code" "code" sBadDeed "ValueError" "ValueError.__new__" "ValueError.__init__" [.type "ValueError", .type "Exception", .type "BaseException", .type "object"] C) (g : RawG P K) (gC : mg "BadDeed" = some (.ref C)) (ms : mg "super" = none) : Fb.Cl P w K mg base "BadDeed" [] C := by
  have ec := R.ec g PySem.F.excBase_ValueError PySem.F.store_ValueError PySem.W.kxs_ValueError
  obtain ⟨fI, fd, iC, tI, S⟩ := R.init g
  have no : NoF K C [] := ⟨R.no, fun f hf => by cases hf⟩
  exact ⟨gC, ⟨fI, fd, ⟨ec, iC, tI⟩, ok_BadDeed ec S no ms, S.binds (fun doc pm an ct c cc us hl => match us, hl with | [_], _ => rfl), trivial⟩, R.eis g, no⟩
theorem cl_NoDraft {C : Addr} (R : RawC P K "NoDraft.__init__" "code" "code" sNoDraft "ValueError" "ValueError.__new__" "ValueError.__init__" [.type "ValueError", .type "Exception", .type "BaseException", .type "object"] C) (g : RawG P K) (gC : mg "NoDraft" = some (.ref C)) (ms : mg "super" = none) : Fb.Cl P w K mg base "NoDraft" [] C := by
  have ec := R.ec g PySem.F.excBase_ValueError PySem.F.store_ValueError PySem.W.kxs_ValueError
  obtain ⟨fI, fd, iC, tI, S⟩ := R.init g
  have no : NoF K C [] := ⟨R.no, fun f hf => by cases hf⟩
  exact ⟨gC, ⟨fI, fd, ⟨ec, iC, tI⟩, ok_NoDraft ec S no ms, S.binds (fun doc pm an ct c cc us hl => match us, hl with | [_], _ => rfl), trivial⟩, R.eis g, no⟩
theorem cl_InDraft {C : Addr} (R : RawC P K "InDraft.__init__" "code" "code" sInDraft "ValueError" "ValueError.__new__" "ValueError.__init__" [.type "ValueError", .type "Exception", .type "BaseException", .type "object"] C) (g : RawG P K) (gC : mg "InDraft" = some (.ref C)) (ms : mg "super" = none) : Fb.Cl P w K mg base "InDraft" [] C := by
  have ec := R.ec g PySem.F.excBase_ValueError PySem.F.store_ValueError PySem.W.kxs_ValueError
  obtain ⟨fI, fd, iC, tI, S⟩ := R.init g
  have no : NoF K C [] := ⟨R.no, fun f hf => by cases hf⟩
  exact ⟨gC, ⟨fI, fd, ⟨ec, iC, tI⟩, ok_InDraft ec S no ms, S.binds (fun doc pm an ct c cc us hl => match us, hl with | [_], _ => rfl), trivial⟩, R.eis g, no⟩
theorem cl_NothingLeft {C : Addr} (R : RawC P K "NothingLeft.__init__" "code" "code" sNothingLeft "IndexError" "IndexError.__new__" "IndexError.__init__" [.type "IndexError", .type "LookupError", .type "Exception", .type "BaseException", .type "object"] C) (g : RawG P K) (gC : mg "NothingLeft" = some (.ref C)) (ms : mg "super" = none) : Fb.Cl P w K mg base "NothingLeft" [] C := by
  have ec := R.ec g PySem.F.excBase_IndexError PySem.F.store_IndexError PySem.W.kxs_IndexError
  obtain ⟨fI, fd, iC, tI, S⟩ := R.init g
  have no : NoF K C [] := ⟨R.no, fun f hf => by cases hf⟩
  exact ⟨gC, ⟨fI, fd, ⟨ec, iC, tI⟩, ok_NothingLeft ec S no ms, S.binds (fun doc pm an ct c cc us hl => match us, hl with | [_], _ => rfl), trivial⟩, R.eis g, no⟩
end
end K0

set_option Elab.async false
set_option linter.all false
set_option maxRecDepth 100000
set_option maxHeartbeats 4000000
namespace Fb
open PySem PySem.Spec PyProof.Rows L2
abbrev spNot : Sp := fun _ _ _ _ => False
theorem Sat.none {P : Program} {w : World} {K : PySem.W.Frag} {mg : Str → Option Value} {base : Heap} {x : Str} {st : Stmt} {ps : List Str} (S : Sat K mg x st ps) (k : Nat) : Rd P w K mg base CX0 k x ps spNot := by
  obtain ⟨f, fd, F, g, kp, b⟩ := S.ex
  exact ⟨f, fd, ⟨fun _ _ _ _ h => h.elim, fun _ _ _ _ _ _ _ _ _ _ _ _ _ h => h.elim⟩, g, kp, b⟩
theorem Sat.rd {P : Program} {w : World} {K : PySem.W.Frag} {mg : Str → Option Value} {base : Heap} {CX : CXT} {k : Nat} {x : Str} {st : Stmt} {ps : List Str} {sp : Sp} (S : Sat K mg x st ps) (h : ∀ {f : Addr} {fd : FuncData}, Fun K x x st f fd → FnOk P w K mg base CX k f fd ps sp) : Rd P w K mg base CX k x ps sp := by
  obtain ⟨f, fd, F, g, kp, b⟩ := S.ex
  exact ⟨f, fd, h F, g, kp, b⟩
theorem Sat.rdW {P : Program} {w : World} {K : PySem.W.Frag} {mg : Str → Option Value} {base : Heap} {CX : CXT} {k : Nat} {x : Str} {st : Stmt} {ps : List Str} {sp : Sp} (S : Sat K mg x st ps) (h : ∀ {f : Addr} {fd : FuncData}, Fun K x x st f fd → FnW P w K mg base CX k f fd ps sp) : RdW P w K mg base CX k x ps sp := by
  obtain ⟨f, fd, F, g, kp, b⟩ := S.ex
  exact ⟨f, fd, h F, g, kp, b⟩
end Fb
namespace K0
open PySem PySem.Spec PyProof.Rows L2 Fb
section
variable {P : Program} {w : World} {K : PySem.W.Frag} {mg : Str → Option Value}
theorem ends {h : Heap} {fa cBadText cUnlikeParts cUnlikeTapes cTooMany cCantAnswer cBadName cBadLetters cBadRun cBadColumn cBadNumber cBadTable cHeldTwice cBreaksBeside cNotSo cNotEnough cEndedRun cUnknownPart cUnknownName cUnknownRun cNotHeld cBadDeed cNoDraft cInDraft cNothingLeft cRuleError cMissing f_bag f_draw f_of f_like f_two f_one f_made f_values f_kinds f_due_kinds f_raise_one f_raise f_caught f_value f_copied f_so f_law : Addr} (X : K.In h) (G : h.Ns mainGlobals mg) (hfa : mg "law" = some (.ref fa)) (g : RawG P K)
    (gBadText : PySem.W.nsIn K mainGlobals "BadText" = some (some (.ref cBadText)))
    (gUnlikeParts : PySem.W.nsIn K mainGlobals "UnlikeParts" = some (some (.ref cUnlikeParts)))
    (gUnlikeTapes : PySem.W.nsIn K mainGlobals "UnlikeTapes" = some (some (.ref cUnlikeTapes)))
    (gTooMany : PySem.W.nsIn K mainGlobals "TooMany" = some (some (.ref cTooMany)))
    (gCantAnswer : PySem.W.nsIn K mainGlobals "CantAnswer" = some (some (.ref cCantAnswer)))
    (gBadName : PySem.W.nsIn K mainGlobals "BadName" = some (some (.ref cBadName)))
    (gBadLetters : PySem.W.nsIn K mainGlobals "BadLetters" = some (some (.ref cBadLetters)))
    (gBadRun : PySem.W.nsIn K mainGlobals "BadRun" = some (some (.ref cBadRun)))
    (gBadColumn : PySem.W.nsIn K mainGlobals "BadColumn" = some (some (.ref cBadColumn)))
    (gBadNumber : PySem.W.nsIn K mainGlobals "BadNumber" = some (some (.ref cBadNumber)))
    (gBadTable : PySem.W.nsIn K mainGlobals "BadTable" = some (some (.ref cBadTable)))
    (gHeldTwice : PySem.W.nsIn K mainGlobals "HeldTwice" = some (some (.ref cHeldTwice)))
    (gBreaksBeside : PySem.W.nsIn K mainGlobals "BreaksBeside" = some (some (.ref cBreaksBeside)))
    (gNotSo : PySem.W.nsIn K mainGlobals "NotSo" = some (some (.ref cNotSo)))
    (gNotEnough : PySem.W.nsIn K mainGlobals "NotEnough" = some (some (.ref cNotEnough)))
    (gEndedRun : PySem.W.nsIn K mainGlobals "EndedRun" = some (some (.ref cEndedRun)))
    (gUnknownPart : PySem.W.nsIn K mainGlobals "UnknownPart" = some (some (.ref cUnknownPart)))
    (gUnknownName : PySem.W.nsIn K mainGlobals "UnknownName" = some (some (.ref cUnknownName)))
    (gUnknownRun : PySem.W.nsIn K mainGlobals "UnknownRun" = some (some (.ref cUnknownRun)))
    (gNotHeld : PySem.W.nsIn K mainGlobals "NotHeld" = some (some (.ref cNotHeld)))
    (gBadDeed : PySem.W.nsIn K mainGlobals "BadDeed" = some (some (.ref cBadDeed)))
    (gNoDraft : PySem.W.nsIn K mainGlobals "NoDraft" = some (some (.ref cNoDraft)))
    (gInDraft : PySem.W.nsIn K mainGlobals "InDraft" = some (some (.ref cInDraft)))
    (gNothingLeft : PySem.W.nsIn K mainGlobals "NothingLeft" = some (some (.ref cNothingLeft)))
    (gRuleError : PySem.W.nsIn K mainGlobals "RuleError" = some (some (.ref cRuleError)))
    (gMissing : PySem.W.nsIn K mainGlobals "Missing" = some (some (.ref cMissing)))
    (rBadText : RawC P K "BadText.__init__" "line" "why" sBadText "ValueError" "ValueError.__new__" "ValueError.__init__" [.type "ValueError", .type "Exception", .type "BaseException", .type "object"] cBadText)
    (rUnlikeParts : RawC P K "UnlikeParts.__init__" "one" "other" sUnlikeParts "ValueError" "ValueError.__new__" "ValueError.__init__" [.type "ValueError", .type "Exception", .type "BaseException", .type "object"] cUnlikeParts)
    (rUnlikeTapes : RawC P K "UnlikeTapes.__init__" "one" "other" sUnlikeTapes "ValueError" "ValueError.__new__" "ValueError.__init__" [.type "ValueError", .type "Exception", .type "BaseException", .type "object"] cUnlikeTapes)
    (rTooMany : RawC P K "TooMany.__init__" "what" "found" sTooMany "ValueError" "ValueError.__new__" "ValueError.__init__" [.type "ValueError", .type "Exception", .type "BaseException", .type "object"] cTooMany)
    (rCantAnswer : RawC P K "CantAnswer.__init__" "at" "run" sCantAnswer "ValueError" "ValueError.__new__" "ValueError.__init__" [.type "ValueError", .type "Exception", .type "BaseException", .type "object"] cCantAnswer)
    (rBadName : RawC P K "BadName.__init__" "name" "name" sBadName "ValueError" "ValueError.__new__" "ValueError.__init__" [.type "ValueError", .type "Exception", .type "BaseException", .type "object"] cBadName)
    (rBadLetters : RawC P K "BadLetters.__init__" "at" "at" sBadLetters "ValueError" "ValueError.__new__" "ValueError.__init__" [.type "ValueError", .type "Exception", .type "BaseException", .type "object"] cBadLetters)
    (rBadRun : RawC P K "BadRun.__init__" "at" "at" sBadRun "ValueError" "ValueError.__new__" "ValueError.__init__" [.type "ValueError", .type "Exception", .type "BaseException", .type "object"] cBadRun)
    (rBadColumn : RawC P K "BadColumn.__init__" "column" "column" sBadColumn "ValueError" "ValueError.__new__" "ValueError.__init__" [.type "ValueError", .type "Exception", .type "BaseException", .type "object"] cBadColumn)
    (rBadNumber : RawC P K "BadNumber.__init__" "value" "value" sBadNumber "ValueError" "ValueError.__new__" "ValueError.__init__" [.type "ValueError", .type "Exception", .type "BaseException", .type "object"] cBadNumber)
    (rBadTable : RawC P K "BadTable.__init__" "at" "at" sBadTable "ValueError" "ValueError.__new__" "ValueError.__init__" [.type "ValueError", .type "Exception", .type "BaseException", .type "object"] cBadTable)
    (rHeldTwice : RawC P K "HeldTwice.__init__" "item" "item" sHeldTwice "ValueError" "ValueError.__new__" "ValueError.__init__" [.type "ValueError", .type "Exception", .type "BaseException", .type "object"] cHeldTwice)
    (rBreaksBeside : RawC P K "BreaksBeside.__init__" "lot" "lot" sBreaksBeside "ValueError" "ValueError.__new__" "ValueError.__init__" [.type "ValueError", .type "Exception", .type "BaseException", .type "object"] cBreaksBeside)
    (rNotSo : RawC P K "NotSo.__init__" "lot" "lot" sNotSo "ValueError" "ValueError.__new__" "ValueError.__init__" [.type "ValueError", .type "Exception", .type "BaseException", .type "object"] cNotSo)
    (rNotEnough : RawC P K "NotEnough.__init__" "lot" "lot" sNotEnough "ValueError" "ValueError.__new__" "ValueError.__init__" [.type "ValueError", .type "Exception", .type "BaseException", .type "object"] cNotEnough)
    (rEndedRun : RawC P K "EndedRun.__init__" "at" "at" sEndedRun "ValueError" "ValueError.__new__" "ValueError.__init__" [.type "ValueError", .type "Exception", .type "BaseException", .type "object"] cEndedRun)
    (rUnknownPart : RawC P K "UnknownPart.__init__" "name" "name" sUnknownPart "LookupError" "LookupError.__new__" "LookupError.__init__" [.type "LookupError", .type "Exception", .type "BaseException", .type "object"] cUnknownPart)
    (rUnknownName : RawC P K "UnknownName.__init__" "name" "name" sUnknownName "LookupError" "LookupError.__new__" "LookupError.__init__" [.type "LookupError", .type "Exception", .type "BaseException", .type "object"] cUnknownName)
    (rUnknownRun : RawC P K "UnknownRun.__init__" "at" "at" sUnknownRun "LookupError" "LookupError.__new__" "LookupError.__init__" [.type "LookupError", .type "Exception", .type "BaseException", .type "object"] cUnknownRun)
    (rNotHeld : RawC P K "NotHeld.__init__" "run" "run" sNotHeld "LookupError" "LookupError.__new__" "LookupError.__init__" [.type "LookupError", .type "Exception", .type "BaseException", .type "object"] cNotHeld)
    (rBadDeed : RawC P K "BadDeed.__init__" "code" "code" sBadDeed "ValueError" "ValueError.__new__" "ValueError.__init__" [.type "ValueError", .type "Exception", .type "BaseException", .type "object"] cBadDeed)
    (rNoDraft : RawC P K "NoDraft.__init__" "code" "code" sNoDraft "ValueError" "ValueError.__new__" "ValueError.__init__" [.type "ValueError", .type "Exception", .type "BaseException", .type "object"] cNoDraft)
    (rInDraft : RawC P K "InDraft.__init__" "code" "code" sInDraft "ValueError" "ValueError.__new__" "ValueError.__init__" [.type "ValueError", .type "Exception", .type "BaseException", .type "object"] cInDraft)
    (rNothingLeft : RawC P K "NothingLeft.__init__" "code" "code" sNothingLeft "IndexError" "IndexError.__new__" "IndexError.__init__" [.type "IndexError", .type "LookupError", .type "Exception", .type "BaseException", .type "object"] cNothingLeft)
    (gf_bag : PySem.W.nsIn K mainGlobals "_law_bag" = some (some (.ref f_bag))) (rf_bag : RawF K "_law_bag" sBag f_bag)
    (gf_draw : PySem.W.nsIn K mainGlobals "_law_draw" = some (some (.ref f_draw))) (rf_draw : RawF K "_law_draw" sDraw f_draw)
    (gf_of : PySem.W.nsIn K mainGlobals "_law_of" = some (some (.ref f_of))) (rf_of : RawF K "_law_of" sOf f_of)
    (gf_like : PySem.W.nsIn K mainGlobals "_law_like" = some (some (.ref f_like))) (rf_like : RawF K "_law_like" sLike f_like)
    (gf_two : PySem.W.nsIn K mainGlobals "_law_two" = some (some (.ref f_two))) (rf_two : RawF K "_law_two" sTwo f_two)
    (gf_one : PySem.W.nsIn K mainGlobals "_law_one" = some (some (.ref f_one))) (rf_one : RawF K "_law_one" sOne f_one)
    (gf_made : PySem.W.nsIn K mainGlobals "_law_made" = some (some (.ref f_made))) (rf_made : RawF K "_law_made" sMade f_made)
    (gf_values : PySem.W.nsIn K mainGlobals "_law_values" = some (some (.ref f_values))) (rf_values : RawF K "_law_values" sValues f_values)
    (gf_kinds : PySem.W.nsIn K mainGlobals "_law_kinds" = some (some (.ref f_kinds))) (rf_kinds : RawF K "_law_kinds" sKinds f_kinds)
    (gf_due_kinds : PySem.W.nsIn K mainGlobals "_law_due_kinds" = some (some (.ref f_due_kinds))) (rf_due_kinds : RawF K "_law_due_kinds" sDue f_due_kinds)
    (gf_raise_one : PySem.W.nsIn K mainGlobals "_law_raise_one" = some (some (.ref f_raise_one))) (rf_raise_one : RawF K "_law_raise_one" sRaise1 f_raise_one)
    (gf_raise : PySem.W.nsIn K mainGlobals "_law_raise" = some (some (.ref f_raise))) (rf_raise : RawF K "_law_raise" sRaise f_raise)
    (gf_caught : PySem.W.nsIn K mainGlobals "_law_caught" = some (some (.ref f_caught))) (rf_caught : RawF K "_law_caught" sCaught f_caught)
    (gf_value : PySem.W.nsIn K mainGlobals "_law_value" = some (some (.ref f_value))) (rf_value : RawF K "_law_value" sValue f_value)
    (gf_copied : PySem.W.nsIn K mainGlobals "_law_copied" = some (some (.ref f_copied))) (rf_copied : RawF K "_law_copied" sCopied f_copied)
    (gf_so : PySem.W.nsIn K mainGlobals "_law_so" = some (some (.ref f_so))) (rf_so : RawF K "_law_so" sSo f_so)
    (gf_law : PySem.W.nsIn K mainGlobals "law" = some (some (.ref f_law))) (rf_law : RawF K "law" sLaw f_law)
    (nint : PySem.W.nsIn K mainGlobals "int" = some none)
    (nlist : PySem.W.nsIn K mainGlobals "list" = some none)
    (nlen : PySem.W.nsIn K mainGlobals "len" = some none)
    (nrange : PySem.W.nsIn K mainGlobals "range" = some none)
    (ntuple : PySem.W.nsIn K mainGlobals "tuple" = some none)
    (nisinstance : PySem.W.nsIn K mainGlobals "isinstance" = some none)
    (nbool : PySem.W.nsIn K mainGlobals "bool" = some none)
    (nstr : PySem.W.nsIn K mainGlobals "str" = some none)
    (nall : PySem.W.nsIn K mainGlobals "all" = some none)
    (nzip : PySem.W.nsIn K mainGlobals "zip" = some none)
    (nsuper : PySem.W.nsIn K mainGlobals "super" = some none)
    (nValueError : PySem.W.nsIn K mainGlobals "ValueError" = some none)
    (nLookupError : PySem.W.nsIn K mainGlobals "LookupError" = some none)
    (nIndexError : PySem.W.nsIn K mainGlobals "IndexError" = some none)
    (nKeyError : PySem.W.nsIn K mainGlobals "KeyError" = some none)
    (kit : kitChk K (addrOf [("BadText", cBadText), ("UnlikeParts", cUnlikeParts), ("UnlikeTapes", cUnlikeTapes), ("TooMany", cTooMany), ("CantAnswer", cCantAnswer), ("BadName", cBadName), ("BadLetters", cBadLetters), ("BadRun", cBadRun), ("BadColumn", cBadColumn), ("BadNumber", cBadNumber), ("BadTable", cBadTable), ("HeldTwice", cHeldTwice), ("BreaksBeside", cBreaksBeside), ("NotSo", cNotSo), ("NotEnough", cNotEnough), ("EndedRun", cEndedRun), ("UnknownPart", cUnknownPart), ("UnknownName", cUnknownName), ("UnknownRun", cUnknownRun), ("NotHeld", cNotHeld), ("BadDeed", cBadDeed), ("NoDraft", cNoDraft), ("InDraft", cInDraft), ("NothingLeft", cNothingLeft), ("RuleError", cRuleError), ("Missing", cMissing)]) = true) :
    ∃ fd : FuncData, (∀ (s : Shared) (u : Value), BindsTo s fd ⟨[u], []⟩ [("script", u)]) ∧ ∀ base : Heap, K.In base → base.Ns mainGlobals mg → FnOk P w K mg base CX0 7 fa fd ["script"] (spLaw K) := by
  have e := hfa.symm.trans (PySem.W.mg_of X G gf_law)
  cases e
  have mint := PySem.W.mg_none_of X G nint
  have mlist := PySem.W.mg_none_of X G nlist
  have mlen := PySem.W.mg_none_of X G nlen
  have mrange := PySem.W.mg_none_of X G nrange
  have mtuple := PySem.W.mg_none_of X G ntuple
  have misinstance := PySem.W.mg_none_of X G nisinstance
  have mbool := PySem.W.mg_none_of X G nbool
  have mstr := PySem.W.mg_none_of X G nstr
  have mall := PySem.W.mg_none_of X G nall
  have mzip := PySem.W.mg_none_of X G nzip
  have msuper := PySem.W.mg_none_of X G nsuper
  have mValueError := PySem.W.mg_none_of X G nValueError
  have mLookupError := PySem.W.mg_none_of X G nLookupError
  have mIndexError := PySem.W.mg_none_of X G nIndexError
  have mKeyError := PySem.W.mg_none_of X G nKeyError
  have eBadText : addrOf [("BadText", cBadText), ("UnlikeParts", cUnlikeParts), ("UnlikeTapes", cUnlikeTapes), ("TooMany", cTooMany), ("CantAnswer", cCantAnswer), ("BadName", cBadName), ("BadLetters", cBadLetters), ("BadRun", cBadRun), ("BadColumn", cBadColumn), ("BadNumber", cBadNumber), ("BadTable", cBadTable), ("HeldTwice", cHeldTwice), ("BreaksBeside", cBreaksBeside), ("NotSo", cNotSo), ("NotEnough", cNotEnough), ("EndedRun", cEndedRun), ("UnknownPart", cUnknownPart), ("UnknownName", cUnknownName), ("UnknownRun", cUnknownRun), ("NotHeld", cNotHeld), ("BadDeed", cBadDeed), ("NoDraft", cNoDraft), ("InDraft", cInDraft), ("NothingLeft", cNothingLeft), ("RuleError", cRuleError), ("Missing", cMissing)] "BadText" = cBadText := by kernel_rfl
  have eUnlikeParts : addrOf [("BadText", cBadText), ("UnlikeParts", cUnlikeParts), ("UnlikeTapes", cUnlikeTapes), ("TooMany", cTooMany), ("CantAnswer", cCantAnswer), ("BadName", cBadName), ("BadLetters", cBadLetters), ("BadRun", cBadRun), ("BadColumn", cBadColumn), ("BadNumber", cBadNumber), ("BadTable", cBadTable), ("HeldTwice", cHeldTwice), ("BreaksBeside", cBreaksBeside), ("NotSo", cNotSo), ("NotEnough", cNotEnough), ("EndedRun", cEndedRun), ("UnknownPart", cUnknownPart), ("UnknownName", cUnknownName), ("UnknownRun", cUnknownRun), ("NotHeld", cNotHeld), ("BadDeed", cBadDeed), ("NoDraft", cNoDraft), ("InDraft", cInDraft), ("NothingLeft", cNothingLeft), ("RuleError", cRuleError), ("Missing", cMissing)] "UnlikeParts" = cUnlikeParts := by kernel_rfl
  have eUnlikeTapes : addrOf [("BadText", cBadText), ("UnlikeParts", cUnlikeParts), ("UnlikeTapes", cUnlikeTapes), ("TooMany", cTooMany), ("CantAnswer", cCantAnswer), ("BadName", cBadName), ("BadLetters", cBadLetters), ("BadRun", cBadRun), ("BadColumn", cBadColumn), ("BadNumber", cBadNumber), ("BadTable", cBadTable), ("HeldTwice", cHeldTwice), ("BreaksBeside", cBreaksBeside), ("NotSo", cNotSo), ("NotEnough", cNotEnough), ("EndedRun", cEndedRun), ("UnknownPart", cUnknownPart), ("UnknownName", cUnknownName), ("UnknownRun", cUnknownRun), ("NotHeld", cNotHeld), ("BadDeed", cBadDeed), ("NoDraft", cNoDraft), ("InDraft", cInDraft), ("NothingLeft", cNothingLeft), ("RuleError", cRuleError), ("Missing", cMissing)] "UnlikeTapes" = cUnlikeTapes := by kernel_rfl
  have eTooMany : addrOf [("BadText", cBadText), ("UnlikeParts", cUnlikeParts), ("UnlikeTapes", cUnlikeTapes), ("TooMany", cTooMany), ("CantAnswer", cCantAnswer), ("BadName", cBadName), ("BadLetters", cBadLetters), ("BadRun", cBadRun), ("BadColumn", cBadColumn), ("BadNumber", cBadNumber), ("BadTable", cBadTable), ("HeldTwice", cHeldTwice), ("BreaksBeside", cBreaksBeside), ("NotSo", cNotSo), ("NotEnough", cNotEnough), ("EndedRun", cEndedRun), ("UnknownPart", cUnknownPart), ("UnknownName", cUnknownName), ("UnknownRun", cUnknownRun), ("NotHeld", cNotHeld), ("BadDeed", cBadDeed), ("NoDraft", cNoDraft), ("InDraft", cInDraft), ("NothingLeft", cNothingLeft), ("RuleError", cRuleError), ("Missing", cMissing)] "TooMany" = cTooMany := by kernel_rfl
  have eCantAnswer : addrOf [("BadText", cBadText), ("UnlikeParts", cUnlikeParts), ("UnlikeTapes", cUnlikeTapes), ("TooMany", cTooMany), ("CantAnswer", cCantAnswer), ("BadName", cBadName), ("BadLetters", cBadLetters), ("BadRun", cBadRun), ("BadColumn", cBadColumn), ("BadNumber", cBadNumber), ("BadTable", cBadTable), ("HeldTwice", cHeldTwice), ("BreaksBeside", cBreaksBeside), ("NotSo", cNotSo), ("NotEnough", cNotEnough), ("EndedRun", cEndedRun), ("UnknownPart", cUnknownPart), ("UnknownName", cUnknownName), ("UnknownRun", cUnknownRun), ("NotHeld", cNotHeld), ("BadDeed", cBadDeed), ("NoDraft", cNoDraft), ("InDraft", cInDraft), ("NothingLeft", cNothingLeft), ("RuleError", cRuleError), ("Missing", cMissing)] "CantAnswer" = cCantAnswer := by kernel_rfl
  have eBadName : addrOf [("BadText", cBadText), ("UnlikeParts", cUnlikeParts), ("UnlikeTapes", cUnlikeTapes), ("TooMany", cTooMany), ("CantAnswer", cCantAnswer), ("BadName", cBadName), ("BadLetters", cBadLetters), ("BadRun", cBadRun), ("BadColumn", cBadColumn), ("BadNumber", cBadNumber), ("BadTable", cBadTable), ("HeldTwice", cHeldTwice), ("BreaksBeside", cBreaksBeside), ("NotSo", cNotSo), ("NotEnough", cNotEnough), ("EndedRun", cEndedRun), ("UnknownPart", cUnknownPart), ("UnknownName", cUnknownName), ("UnknownRun", cUnknownRun), ("NotHeld", cNotHeld), ("BadDeed", cBadDeed), ("NoDraft", cNoDraft), ("InDraft", cInDraft), ("NothingLeft", cNothingLeft), ("RuleError", cRuleError), ("Missing", cMissing)] "BadName" = cBadName := by kernel_rfl
  have eBadLetters : addrOf [("BadText", cBadText), ("UnlikeParts", cUnlikeParts), ("UnlikeTapes", cUnlikeTapes), ("TooMany", cTooMany), ("CantAnswer", cCantAnswer), ("BadName", cBadName), ("BadLetters", cBadLetters), ("BadRun", cBadRun), ("BadColumn", cBadColumn), ("BadNumber", cBadNumber), ("BadTable", cBadTable), ("HeldTwice", cHeldTwice), ("BreaksBeside", cBreaksBeside), ("NotSo", cNotSo), ("NotEnough", cNotEnough), ("EndedRun", cEndedRun), ("UnknownPart", cUnknownPart), ("UnknownName", cUnknownName), ("UnknownRun", cUnknownRun), ("NotHeld", cNotHeld), ("BadDeed", cBadDeed), ("NoDraft", cNoDraft), ("InDraft", cInDraft), ("NothingLeft", cNothingLeft), ("RuleError", cRuleError), ("Missing", cMissing)] "BadLetters" = cBadLetters := by kernel_rfl
  have eBadRun : addrOf [("BadText", cBadText), ("UnlikeParts", cUnlikeParts), ("UnlikeTapes", cUnlikeTapes), ("TooMany", cTooMany), ("CantAnswer", cCantAnswer), ("BadName", cBadName), ("BadLetters", cBadLetters), ("BadRun", cBadRun), ("BadColumn", cBadColumn), ("BadNumber", cBadNumber), ("BadTable", cBadTable), ("HeldTwice", cHeldTwice), ("BreaksBeside", cBreaksBeside), ("NotSo", cNotSo), ("NotEnough", cNotEnough), ("EndedRun", cEndedRun), ("UnknownPart", cUnknownPart), ("UnknownName", cUnknownName), ("UnknownRun", cUnknownRun), ("NotHeld", cNotHeld), ("BadDeed", cBadDeed), ("NoDraft", cNoDraft), ("InDraft", cInDraft), ("NothingLeft", cNothingLeft), ("RuleError", cRuleError), ("Missing", cMissing)] "BadRun" = cBadRun := by kernel_rfl
  have eBadColumn : addrOf [("BadText", cBadText), ("UnlikeParts", cUnlikeParts), ("UnlikeTapes", cUnlikeTapes), ("TooMany", cTooMany), ("CantAnswer", cCantAnswer), ("BadName", cBadName), ("BadLetters", cBadLetters), ("BadRun", cBadRun), ("BadColumn", cBadColumn), ("BadNumber", cBadNumber), ("BadTable", cBadTable), ("HeldTwice", cHeldTwice), ("BreaksBeside", cBreaksBeside), ("NotSo", cNotSo), ("NotEnough", cNotEnough), ("EndedRun", cEndedRun), ("UnknownPart", cUnknownPart), ("UnknownName", cUnknownName), ("UnknownRun", cUnknownRun), ("NotHeld", cNotHeld), ("BadDeed", cBadDeed), ("NoDraft", cNoDraft), ("InDraft", cInDraft), ("NothingLeft", cNothingLeft), ("RuleError", cRuleError), ("Missing", cMissing)] "BadColumn" = cBadColumn := by kernel_rfl
  have eBadNumber : addrOf [("BadText", cBadText), ("UnlikeParts", cUnlikeParts), ("UnlikeTapes", cUnlikeTapes), ("TooMany", cTooMany), ("CantAnswer", cCantAnswer), ("BadName", cBadName), ("BadLetters", cBadLetters), ("BadRun", cBadRun), ("BadColumn", cBadColumn), ("BadNumber", cBadNumber), ("BadTable", cBadTable), ("HeldTwice", cHeldTwice), ("BreaksBeside", cBreaksBeside), ("NotSo", cNotSo), ("NotEnough", cNotEnough), ("EndedRun", cEndedRun), ("UnknownPart", cUnknownPart), ("UnknownName", cUnknownName), ("UnknownRun", cUnknownRun), ("NotHeld", cNotHeld), ("BadDeed", cBadDeed), ("NoDraft", cNoDraft), ("InDraft", cInDraft), ("NothingLeft", cNothingLeft), ("RuleError", cRuleError), ("Missing", cMissing)] "BadNumber" = cBadNumber := by kernel_rfl
  have eBadTable : addrOf [("BadText", cBadText), ("UnlikeParts", cUnlikeParts), ("UnlikeTapes", cUnlikeTapes), ("TooMany", cTooMany), ("CantAnswer", cCantAnswer), ("BadName", cBadName), ("BadLetters", cBadLetters), ("BadRun", cBadRun), ("BadColumn", cBadColumn), ("BadNumber", cBadNumber), ("BadTable", cBadTable), ("HeldTwice", cHeldTwice), ("BreaksBeside", cBreaksBeside), ("NotSo", cNotSo), ("NotEnough", cNotEnough), ("EndedRun", cEndedRun), ("UnknownPart", cUnknownPart), ("UnknownName", cUnknownName), ("UnknownRun", cUnknownRun), ("NotHeld", cNotHeld), ("BadDeed", cBadDeed), ("NoDraft", cNoDraft), ("InDraft", cInDraft), ("NothingLeft", cNothingLeft), ("RuleError", cRuleError), ("Missing", cMissing)] "BadTable" = cBadTable := by kernel_rfl
  have eHeldTwice : addrOf [("BadText", cBadText), ("UnlikeParts", cUnlikeParts), ("UnlikeTapes", cUnlikeTapes), ("TooMany", cTooMany), ("CantAnswer", cCantAnswer), ("BadName", cBadName), ("BadLetters", cBadLetters), ("BadRun", cBadRun), ("BadColumn", cBadColumn), ("BadNumber", cBadNumber), ("BadTable", cBadTable), ("HeldTwice", cHeldTwice), ("BreaksBeside", cBreaksBeside), ("NotSo", cNotSo), ("NotEnough", cNotEnough), ("EndedRun", cEndedRun), ("UnknownPart", cUnknownPart), ("UnknownName", cUnknownName), ("UnknownRun", cUnknownRun), ("NotHeld", cNotHeld), ("BadDeed", cBadDeed), ("NoDraft", cNoDraft), ("InDraft", cInDraft), ("NothingLeft", cNothingLeft), ("RuleError", cRuleError), ("Missing", cMissing)] "HeldTwice" = cHeldTwice := by kernel_rfl
  have eBreaksBeside : addrOf [("BadText", cBadText), ("UnlikeParts", cUnlikeParts), ("UnlikeTapes", cUnlikeTapes), ("TooMany", cTooMany), ("CantAnswer", cCantAnswer), ("BadName", cBadName), ("BadLetters", cBadLetters), ("BadRun", cBadRun), ("BadColumn", cBadColumn), ("BadNumber", cBadNumber), ("BadTable", cBadTable), ("HeldTwice", cHeldTwice), ("BreaksBeside", cBreaksBeside), ("NotSo", cNotSo), ("NotEnough", cNotEnough), ("EndedRun", cEndedRun), ("UnknownPart", cUnknownPart), ("UnknownName", cUnknownName), ("UnknownRun", cUnknownRun), ("NotHeld", cNotHeld), ("BadDeed", cBadDeed), ("NoDraft", cNoDraft), ("InDraft", cInDraft), ("NothingLeft", cNothingLeft), ("RuleError", cRuleError), ("Missing", cMissing)] "BreaksBeside" = cBreaksBeside := by kernel_rfl
  have eNotSo : addrOf [("BadText", cBadText), ("UnlikeParts", cUnlikeParts), ("UnlikeTapes", cUnlikeTapes), ("TooMany", cTooMany), ("CantAnswer", cCantAnswer), ("BadName", cBadName), ("BadLetters", cBadLetters), ("BadRun", cBadRun), ("BadColumn", cBadColumn), ("BadNumber", cBadNumber), ("BadTable", cBadTable), ("HeldTwice", cHeldTwice), ("BreaksBeside", cBreaksBeside), ("NotSo", cNotSo), ("NotEnough", cNotEnough), ("EndedRun", cEndedRun), ("UnknownPart", cUnknownPart), ("UnknownName", cUnknownName), ("UnknownRun", cUnknownRun), ("NotHeld", cNotHeld), ("BadDeed", cBadDeed), ("NoDraft", cNoDraft), ("InDraft", cInDraft), ("NothingLeft", cNothingLeft), ("RuleError", cRuleError), ("Missing", cMissing)] "NotSo" = cNotSo := by kernel_rfl
  have eNotEnough : addrOf [("BadText", cBadText), ("UnlikeParts", cUnlikeParts), ("UnlikeTapes", cUnlikeTapes), ("TooMany", cTooMany), ("CantAnswer", cCantAnswer), ("BadName", cBadName), ("BadLetters", cBadLetters), ("BadRun", cBadRun), ("BadColumn", cBadColumn), ("BadNumber", cBadNumber), ("BadTable", cBadTable), ("HeldTwice", cHeldTwice), ("BreaksBeside", cBreaksBeside), ("NotSo", cNotSo), ("NotEnough", cNotEnough), ("EndedRun", cEndedRun), ("UnknownPart", cUnknownPart), ("UnknownName", cUnknownName), ("UnknownRun", cUnknownRun), ("NotHeld", cNotHeld), ("BadDeed", cBadDeed), ("NoDraft", cNoDraft), ("InDraft", cInDraft), ("NothingLeft", cNothingLeft), ("RuleError", cRuleError), ("Missing", cMissing)] "NotEnough" = cNotEnough := by kernel_rfl
  have eEndedRun : addrOf [("BadText", cBadText), ("UnlikeParts", cUnlikeParts), ("UnlikeTapes", cUnlikeTapes), ("TooMany", cTooMany), ("CantAnswer", cCantAnswer), ("BadName", cBadName), ("BadLetters", cBadLetters), ("BadRun", cBadRun), ("BadColumn", cBadColumn), ("BadNumber", cBadNumber), ("BadTable", cBadTable), ("HeldTwice", cHeldTwice), ("BreaksBeside", cBreaksBeside), ("NotSo", cNotSo), ("NotEnough", cNotEnough), ("EndedRun", cEndedRun), ("UnknownPart", cUnknownPart), ("UnknownName", cUnknownName), ("UnknownRun", cUnknownRun), ("NotHeld", cNotHeld), ("BadDeed", cBadDeed), ("NoDraft", cNoDraft), ("InDraft", cInDraft), ("NothingLeft", cNothingLeft), ("RuleError", cRuleError), ("Missing", cMissing)] "EndedRun" = cEndedRun := by kernel_rfl
  have eUnknownPart : addrOf [("BadText", cBadText), ("UnlikeParts", cUnlikeParts), ("UnlikeTapes", cUnlikeTapes), ("TooMany", cTooMany), ("CantAnswer", cCantAnswer), ("BadName", cBadName), ("BadLetters", cBadLetters), ("BadRun", cBadRun), ("BadColumn", cBadColumn), ("BadNumber", cBadNumber), ("BadTable", cBadTable), ("HeldTwice", cHeldTwice), ("BreaksBeside", cBreaksBeside), ("NotSo", cNotSo), ("NotEnough", cNotEnough), ("EndedRun", cEndedRun), ("UnknownPart", cUnknownPart), ("UnknownName", cUnknownName), ("UnknownRun", cUnknownRun), ("NotHeld", cNotHeld), ("BadDeed", cBadDeed), ("NoDraft", cNoDraft), ("InDraft", cInDraft), ("NothingLeft", cNothingLeft), ("RuleError", cRuleError), ("Missing", cMissing)] "UnknownPart" = cUnknownPart := by kernel_rfl
  have eUnknownName : addrOf [("BadText", cBadText), ("UnlikeParts", cUnlikeParts), ("UnlikeTapes", cUnlikeTapes), ("TooMany", cTooMany), ("CantAnswer", cCantAnswer), ("BadName", cBadName), ("BadLetters", cBadLetters), ("BadRun", cBadRun), ("BadColumn", cBadColumn), ("BadNumber", cBadNumber), ("BadTable", cBadTable), ("HeldTwice", cHeldTwice), ("BreaksBeside", cBreaksBeside), ("NotSo", cNotSo), ("NotEnough", cNotEnough), ("EndedRun", cEndedRun), ("UnknownPart", cUnknownPart), ("UnknownName", cUnknownName), ("UnknownRun", cUnknownRun), ("NotHeld", cNotHeld), ("BadDeed", cBadDeed), ("NoDraft", cNoDraft), ("InDraft", cInDraft), ("NothingLeft", cNothingLeft), ("RuleError", cRuleError), ("Missing", cMissing)] "UnknownName" = cUnknownName := by kernel_rfl
  have eUnknownRun : addrOf [("BadText", cBadText), ("UnlikeParts", cUnlikeParts), ("UnlikeTapes", cUnlikeTapes), ("TooMany", cTooMany), ("CantAnswer", cCantAnswer), ("BadName", cBadName), ("BadLetters", cBadLetters), ("BadRun", cBadRun), ("BadColumn", cBadColumn), ("BadNumber", cBadNumber), ("BadTable", cBadTable), ("HeldTwice", cHeldTwice), ("BreaksBeside", cBreaksBeside), ("NotSo", cNotSo), ("NotEnough", cNotEnough), ("EndedRun", cEndedRun), ("UnknownPart", cUnknownPart), ("UnknownName", cUnknownName), ("UnknownRun", cUnknownRun), ("NotHeld", cNotHeld), ("BadDeed", cBadDeed), ("NoDraft", cNoDraft), ("InDraft", cInDraft), ("NothingLeft", cNothingLeft), ("RuleError", cRuleError), ("Missing", cMissing)] "UnknownRun" = cUnknownRun := by kernel_rfl
  have eNotHeld : addrOf [("BadText", cBadText), ("UnlikeParts", cUnlikeParts), ("UnlikeTapes", cUnlikeTapes), ("TooMany", cTooMany), ("CantAnswer", cCantAnswer), ("BadName", cBadName), ("BadLetters", cBadLetters), ("BadRun", cBadRun), ("BadColumn", cBadColumn), ("BadNumber", cBadNumber), ("BadTable", cBadTable), ("HeldTwice", cHeldTwice), ("BreaksBeside", cBreaksBeside), ("NotSo", cNotSo), ("NotEnough", cNotEnough), ("EndedRun", cEndedRun), ("UnknownPart", cUnknownPart), ("UnknownName", cUnknownName), ("UnknownRun", cUnknownRun), ("NotHeld", cNotHeld), ("BadDeed", cBadDeed), ("NoDraft", cNoDraft), ("InDraft", cInDraft), ("NothingLeft", cNothingLeft), ("RuleError", cRuleError), ("Missing", cMissing)] "NotHeld" = cNotHeld := by kernel_rfl
  have eBadDeed : addrOf [("BadText", cBadText), ("UnlikeParts", cUnlikeParts), ("UnlikeTapes", cUnlikeTapes), ("TooMany", cTooMany), ("CantAnswer", cCantAnswer), ("BadName", cBadName), ("BadLetters", cBadLetters), ("BadRun", cBadRun), ("BadColumn", cBadColumn), ("BadNumber", cBadNumber), ("BadTable", cBadTable), ("HeldTwice", cHeldTwice), ("BreaksBeside", cBreaksBeside), ("NotSo", cNotSo), ("NotEnough", cNotEnough), ("EndedRun", cEndedRun), ("UnknownPart", cUnknownPart), ("UnknownName", cUnknownName), ("UnknownRun", cUnknownRun), ("NotHeld", cNotHeld), ("BadDeed", cBadDeed), ("NoDraft", cNoDraft), ("InDraft", cInDraft), ("NothingLeft", cNothingLeft), ("RuleError", cRuleError), ("Missing", cMissing)] "BadDeed" = cBadDeed := by kernel_rfl
  have eNoDraft : addrOf [("BadText", cBadText), ("UnlikeParts", cUnlikeParts), ("UnlikeTapes", cUnlikeTapes), ("TooMany", cTooMany), ("CantAnswer", cCantAnswer), ("BadName", cBadName), ("BadLetters", cBadLetters), ("BadRun", cBadRun), ("BadColumn", cBadColumn), ("BadNumber", cBadNumber), ("BadTable", cBadTable), ("HeldTwice", cHeldTwice), ("BreaksBeside", cBreaksBeside), ("NotSo", cNotSo), ("NotEnough", cNotEnough), ("EndedRun", cEndedRun), ("UnknownPart", cUnknownPart), ("UnknownName", cUnknownName), ("UnknownRun", cUnknownRun), ("NotHeld", cNotHeld), ("BadDeed", cBadDeed), ("NoDraft", cNoDraft), ("InDraft", cInDraft), ("NothingLeft", cNothingLeft), ("RuleError", cRuleError), ("Missing", cMissing)] "NoDraft" = cNoDraft := by kernel_rfl
  have eInDraft : addrOf [("BadText", cBadText), ("UnlikeParts", cUnlikeParts), ("UnlikeTapes", cUnlikeTapes), ("TooMany", cTooMany), ("CantAnswer", cCantAnswer), ("BadName", cBadName), ("BadLetters", cBadLetters), ("BadRun", cBadRun), ("BadColumn", cBadColumn), ("BadNumber", cBadNumber), ("BadTable", cBadTable), ("HeldTwice", cHeldTwice), ("BreaksBeside", cBreaksBeside), ("NotSo", cNotSo), ("NotEnough", cNotEnough), ("EndedRun", cEndedRun), ("UnknownPart", cUnknownPart), ("UnknownName", cUnknownName), ("UnknownRun", cUnknownRun), ("NotHeld", cNotHeld), ("BadDeed", cBadDeed), ("NoDraft", cNoDraft), ("InDraft", cInDraft), ("NothingLeft", cNothingLeft), ("RuleError", cRuleError), ("Missing", cMissing)] "InDraft" = cInDraft := by kernel_rfl
  have eNothingLeft : addrOf [("BadText", cBadText), ("UnlikeParts", cUnlikeParts), ("UnlikeTapes", cUnlikeTapes), ("TooMany", cTooMany), ("CantAnswer", cCantAnswer), ("BadName", cBadName), ("BadLetters", cBadLetters), ("BadRun", cBadRun), ("BadColumn", cBadColumn), ("BadNumber", cBadNumber), ("BadTable", cBadTable), ("HeldTwice", cHeldTwice), ("BreaksBeside", cBreaksBeside), ("NotSo", cNotSo), ("NotEnough", cNotEnough), ("EndedRun", cEndedRun), ("UnknownPart", cUnknownPart), ("UnknownName", cUnknownName), ("UnknownRun", cUnknownRun), ("NotHeld", cNotHeld), ("BadDeed", cBadDeed), ("NoDraft", cNoDraft), ("InDraft", cInDraft), ("NothingLeft", cNothingLeft), ("RuleError", cRuleError), ("Missing", cMissing)] "NothingLeft" = cNothingLeft := by kernel_rfl
  have eRuleError : addrOf [("BadText", cBadText), ("UnlikeParts", cUnlikeParts), ("UnlikeTapes", cUnlikeTapes), ("TooMany", cTooMany), ("CantAnswer", cCantAnswer), ("BadName", cBadName), ("BadLetters", cBadLetters), ("BadRun", cBadRun), ("BadColumn", cBadColumn), ("BadNumber", cBadNumber), ("BadTable", cBadTable), ("HeldTwice", cHeldTwice), ("BreaksBeside", cBreaksBeside), ("NotSo", cNotSo), ("NotEnough", cNotEnough), ("EndedRun", cEndedRun), ("UnknownPart", cUnknownPart), ("UnknownName", cUnknownName), ("UnknownRun", cUnknownRun), ("NotHeld", cNotHeld), ("BadDeed", cBadDeed), ("NoDraft", cNoDraft), ("InDraft", cInDraft), ("NothingLeft", cNothingLeft), ("RuleError", cRuleError), ("Missing", cMissing)] "RuleError" = cRuleError := by kernel_rfl
  have eMissing : addrOf [("BadText", cBadText), ("UnlikeParts", cUnlikeParts), ("UnlikeTapes", cUnlikeTapes), ("TooMany", cTooMany), ("CantAnswer", cCantAnswer), ("BadName", cBadName), ("BadLetters", cBadLetters), ("BadRun", cBadRun), ("BadColumn", cBadColumn), ("BadNumber", cBadNumber), ("BadTable", cBadTable), ("HeldTwice", cHeldTwice), ("BreaksBeside", cBreaksBeside), ("NotSo", cNotSo), ("NotEnough", cNotEnough), ("EndedRun", cEndedRun), ("UnknownPart", cUnknownPart), ("UnknownName", cUnknownName), ("UnknownRun", cUnknownRun), ("NotHeld", cNotHeld), ("BadDeed", cBadDeed), ("NoDraft", cNoDraft), ("InDraft", cInDraft), ("NothingLeft", cNothingLeft), ("RuleError", cRuleError), ("Missing", cMissing)] "Missing" = cMissing := by kernel_rfl
  generalize addrOf [("BadText", cBadText), ("UnlikeParts", cUnlikeParts), ("UnlikeTapes", cUnlikeTapes), ("TooMany", cTooMany), ("CantAnswer", cCantAnswer), ("BadName", cBadName), ("BadLetters", cBadLetters), ("BadRun", cBadRun), ("BadColumn", cBadColumn), ("BadNumber", cBadNumber), ("BadTable", cBadTable), ("HeldTwice", cHeldTwice), ("BreaksBeside", cBreaksBeside), ("NotSo", cNotSo), ("NotEnough", cNotEnough), ("EndedRun", cEndedRun), ("UnknownPart", cUnknownPart), ("UnknownName", cUnknownName), ("UnknownRun", cUnknownRun), ("NotHeld", cNotHeld), ("BadDeed", cBadDeed), ("NoDraft", cNoDraft), ("InDraft", cInDraft), ("NothingLeft", cNothingLeft), ("RuleError", cRuleError), ("Missing", cMissing)] = C at kit eBadText eUnlikeParts eUnlikeTapes eTooMany eCantAnswer eBadName eBadLetters eBadRun eBadColumn eBadNumber eBadTable eHeldTwice eBreaksBeside eNotSo eNotEnough eEndedRun eUnknownPart eUnknownName eUnknownRun eNotHeld eBadDeed eNoDraft eInDraft eNothingLeft eRuleError eMissing
  subst eBadText eUnlikeParts eUnlikeTapes eTooMany eCantAnswer eBadName eBadLetters eBadRun eBadColumn eBadNumber eBadTable eHeldTwice eBreaksBeside eNotSo eNotEnough eEndedRun eUnknownPart eUnknownName eUnknownRun eNotHeld eBadDeed eNoDraft eInDraft eNothingLeft eRuleError eMissing
  have Sf_bag : Sat K mg "_law_bag" sBag ["script"] := rf_bag.sat (PySem.W.mg_of X G gf_bag) fun kV doc pm an cdv ct us hl => match us, hl with | [_], _ => rfl
  have Sf_draw : Sat K mg "_law_draw" sDraw ["bag", "size"] := rf_draw.sat (PySem.W.mg_of X G gf_draw) fun kV doc pm an cdv ct us hl => match us, hl with | [_, _], _ => rfl
  have Sf_of : Sat K mg "_law_of" sOf ["bag", "things"] := rf_of.sat (PySem.W.mg_of X G gf_of) fun kV doc pm an cdv ct us hl => match us, hl with | [_, _], _ => rfl
  have Sf_like : Sat K mg "_law_like" sLike ["told", "due"] := rf_like.sat (PySem.W.mg_of X G gf_like) fun kV doc pm an cdv ct us hl => match us, hl with | [_, _], _ => rfl
  have Sf_two : Sat K mg "_law_two" sTwo ["pick", "a", "b", "way"] := rf_two.sat (PySem.W.mg_of X G gf_two) fun kV doc pm an cdv ct us hl => match us, hl with | [_, _, _, _], _ => rfl
  have Sf_one : Sat K mg "_law_one" sOne ["pick", "a", "way"] := rf_one.sat (PySem.W.mg_of X G gf_one) fun kV doc pm an cdv ct us hl => match us, hl with | [_, _, _], _ => rfl
  have Sf_made : Sat K mg "_law_made" sMade ["pick", "a", "b", "way"] := rf_made.sat (PySem.W.mg_of X G gf_made) fun kV doc pm an cdv ct us hl => match us, hl with | [_, _, _, _], _ => rfl
  have Sf_values : Sat K mg "_law_values" sValues ["pick", "error"] := rf_values.sat (PySem.W.mg_of X G gf_values) fun kV doc pm an cdv ct us hl => match us, hl with | [_, _], _ => rfl
  have Sf_kinds : Sat K mg "_law_kinds" sKinds ["error"] := rf_kinds.sat (PySem.W.mg_of X G gf_kinds) fun kV doc pm an cdv ct us hl => match us, hl with | [_], _ => rfl
  have Sf_due_kinds : Sat K mg "_law_due_kinds" sDue ["pick"] := rf_due_kinds.sat (PySem.W.mg_of X G gf_due_kinds) fun kV doc pm an cdv ct us hl => match us, hl with | [_], _ => rfl
  have Sf_raise_one : Sat K mg "_law_raise_one" sRaise1 ["pick", "a"] := rf_raise_one.sat (PySem.W.mg_of X G gf_raise_one) fun kV doc pm an cdv ct us hl => match us, hl with | [_, _], _ => rfl
  have Sf_raise : Sat K mg "_law_raise" sRaise ["pick", "a", "b"] := rf_raise.sat (PySem.W.mg_of X G gf_raise) fun kV doc pm an cdv ct us hl => match us, hl with | [_, _, _], _ => rfl
  have Sf_caught : Sat K mg "_law_caught" sCaught ["pick", "a", "b"] := rf_caught.sat (PySem.W.mg_of X G gf_caught) fun kV doc pm an cdv ct us hl => match us, hl with | [_, _, _], _ => rfl
  have Sf_value : Sat K mg "_law_value" sValue ["bag", "deep"] := rf_value.sat (PySem.W.mg_of X G gf_value) fun kV doc pm an cdv ct us hl => match us, hl with | [_, _], _ => rfl
  have Sf_copied : Sat K mg "_law_copied" sCopied ["value"] := rf_copied.sat (PySem.W.mg_of X G gf_copied) fun kV doc pm an cdv ct us hl => match us, hl with | [_], _ => rfl
  have Sf_so : Sat K mg "_law_so" sSo ["bag", "pick", "pairs"] := rf_so.sat (PySem.W.mg_of X G gf_so) fun kV doc pm an cdv ct us hl => match us, hl with | [_, _, _], _ => rfl
  have Mk : Kinds mg := ⟨misinstance, mlist, mtuple, mbool, mstr, mint, mlen, mall, mzip⟩
  have Mbu : ∀ n ∈ bui, mg (n : Str) = none := fun n hn => by
    simp only [bui, List.mem_cons, List.not_mem_nil, or_false] at hn
    rcases hn with rfl | rfl | rfl | rfl
    · exact mValueError
    · exact mLookupError
    · exact mIndexError
    · exact mKeyError
  have Mf : Kf K mg C := ⟨PySem.W.mg_of X G gRuleError, PySem.W.mg_of X G gMissing, misinstance, Mbu, kit_own kit, kit_bui kit⟩
  have Mx : Ex K mg C := ⟨kit_exm kit⟩
  obtain ⟨oc, od, kV, dc, pm, an, cd, ct, sl, l, c, k⟩ := rf_law.ex
  refine ⟨PySem.W.fnOf "law" "law" (defArgs sLaw) (defBody sLaw) (defScope sLaw) .none kV dc pm an cd ct, fun s u => .of_eq rfl, fun base KB GB => ?_⟩
  have T : Tab P w K mg base C := {
    cBadText := cl_BadText rBadText g (PySem.W.mg_of X G gBadText) msuper,
    cUnlikeParts := cl_UnlikeParts rUnlikeParts g (PySem.W.mg_of X G gUnlikeParts) msuper,
    cUnlikeTapes := cl_UnlikeTapes rUnlikeTapes g (PySem.W.mg_of X G gUnlikeTapes) msuper,
    cTooMany := cl_TooMany rTooMany g (PySem.W.mg_of X G gTooMany) msuper,
    cCantAnswer := cl_CantAnswer rCantAnswer g (PySem.W.mg_of X G gCantAnswer) msuper,
    cBadName := cl_BadName rBadName g (PySem.W.mg_of X G gBadName) msuper,
    cBadLetters := cl_BadLetters rBadLetters g (PySem.W.mg_of X G gBadLetters) msuper,
    cBadRun := cl_BadRun rBadRun g (PySem.W.mg_of X G gBadRun) msuper,
    cBadColumn := cl_BadColumn rBadColumn g (PySem.W.mg_of X G gBadColumn) msuper,
    cBadNumber := cl_BadNumber rBadNumber g (PySem.W.mg_of X G gBadNumber) msuper,
    cBadTable := cl_BadTable rBadTable g (PySem.W.mg_of X G gBadTable) msuper,
    cHeldTwice := cl_HeldTwice rHeldTwice g (PySem.W.mg_of X G gHeldTwice) msuper,
    cBreaksBeside := cl_BreaksBeside rBreaksBeside g (PySem.W.mg_of X G gBreaksBeside) msuper,
    cNotSo := cl_NotSo rNotSo g (PySem.W.mg_of X G gNotSo) msuper,
    cNotEnough := cl_NotEnough rNotEnough g (PySem.W.mg_of X G gNotEnough) msuper,
    cEndedRun := cl_EndedRun rEndedRun g (PySem.W.mg_of X G gEndedRun) msuper,
    cUnknownPart := cl_UnknownPart rUnknownPart g (PySem.W.mg_of X G gUnknownPart) msuper,
    cUnknownName := cl_UnknownName rUnknownName g (PySem.W.mg_of X G gUnknownName) msuper,
    cUnknownRun := cl_UnknownRun rUnknownRun g (PySem.W.mg_of X G gUnknownRun) msuper,
    cNotHeld := cl_NotHeld rNotHeld g (PySem.W.mg_of X G gNotHeld) msuper,
    cBadDeed := cl_BadDeed rBadDeed g (PySem.W.mg_of X G gBadDeed) msuper,
    cNoDraft := cl_NoDraft rNoDraft g (PySem.W.mg_of X G gNoDraft) msuper,
    cInDraft := cl_InDraft rInDraft g (PySem.W.mg_of X G gInDraft) msuper,
    cNothingLeft := cl_NothingLeft rNothingLeft g (PySem.W.mg_of X G gNothingLeft) msuper }
  have Rbag : RD P w K mg base 1 "_law_bag" ["script"] (spBag K) := Sf_bag.rd fun F => ok_bag F mint mlist
  have Rdraw : RD P w K mg base 1 "_law_draw" ["bag", "size"] spDraw := Sf_draw.rd fun F => ok_draw F mint mlen
  have Rof : RD P w K mg base 2 "_law_of" ["bag", "things"] (spOf K) := Sf_of.rd fun F => ok_of F mlen Rdraw
  have Rv0 : RD P w K mg base 3 "_law_value" ["bag", "deep"] (spValue K 0) := Sf_value.rd fun F => ok_value F Rdraw Rof (Sf_value.none 2) (by decide) (by decide) (fun m e => by cases e) mrange mtuple
  have Rv1 : RD P w K mg base 4 "_law_value" ["bag", "deep"] (spValue K 1) := Sf_value.rd fun F => ok_value F Rdraw Rof Rv0 (by decide) (by decide) (fun m e => by cases e; rfl) mrange mtuple
  have Rv2 : RD P w K mg base 5 "_law_value" ["bag", "deep"] (spValue K 2) := Sf_value.rd fun F => ok_value F Rdraw Rof Rv1 (by decide) (by decide) (fun m e => by cases e; rfl) mrange mtuple
  have Rl0 : RD P w K mg base 1 "_law_like" ["told", "due"] (spLike K 0) := Sf_like.rd fun F => ok_like F (Sf_like.none 0) (fun m e => by cases e) Mk
  have Rl1 : RD P w K mg base 2 "_law_like" ["told", "due"] (spLike K 1) := Sf_like.rd fun F => ok_like F Rl0 (fun m e => by cases e; rfl) Mk
  have Rl2 : RD P w K mg base 3 "_law_like" ["told", "due"] (spLike K 2) := Sf_like.rd fun F => ok_like F Rl1 (fun m e => by cases e; rfl) Mk
  have Rl3 : RD P w K mg base 4 "_law_like" ["told", "due"] (spLike K 3) := Sf_like.rd fun F => ok_like F Rl2 (fun m e => by cases e; rfl) Mk
  have Rc0 : RD P w K mg base 1 "_law_copied" ["value"] (spCopied K 0) := Sf_copied.rd fun F => ok_copied F (Sf_copied.none 0) (fun m e => by cases e) Mk
  have Rc1 : RD P w K mg base 2 "_law_copied" ["value"] (spCopied K 1) := Sf_copied.rd fun F => ok_copied F Rc0 (fun m e => by cases e; rfl) Mk
  have Rc2 : RD P w K mg base 3 "_law_copied" ["value"] (spCopied K 2) := Sf_copied.rd fun F => ok_copied F Rc1 (fun m e => by cases e; rfl) Mk
  have Rc3 : RD P w K mg base 4 "_law_copied" ["value"] (spCopied K 3) := Sf_copied.rd fun F => ok_copied F Rc2 (fun m e => by cases e; rfl) Mk
  have R2 : RD P w K mg base 3 "_law_two" ["pick", "a", "b", "way"] (spTwo K C) := Sf_two.rd fun F => ok_two F T
  have R1 : RD P w K mg base 3 "_law_one" ["pick", "a", "way"] (spOne K C) := Sf_one.rd fun F => ok_one F T
  have Rm : RD P w K mg base 4 "_law_made" ["pick", "a", "b", "way"] (spMade K C) := Sf_made.rd fun F => ok_made F T R2 R1
  have RV : RdW P w K mg base CX0 1 "_law_values" ["pick", "error"] (spValues K C) := Sf_values.rdW fun F => ok_values F T
  have RK : RD P w K mg base 1 "_law_kinds" ["error"] (spKinds C) := Sf_kinds.rd fun F => ok_kinds F T Mf
  have RU : RD P w K mg base 1 "_law_due_kinds" ["pick"] spDue := Sf_due_kinds.rd fun F => ok_due F
  have Rr1 : Rd P w K mg base (L2.CX P w) 3 "_law_raise_one" ["pick", "a"] (spRaise1 K C) := Sf_raise_one.rd fun F => ok_raise1 F T
  have Rr : Rd P w K mg base (L2.CX P w) 4 "_law_raise" ["pick", "a", "b"] (spRaise K C) := Sf_raise.rd fun F => ok_raise F T Rr1
  have RT : RD P w K mg base 5 "_law_caught" ["pick", "a", "b"] (spCaught K) := Sf_caught.rd fun F => ok_caught F T Mf Mx Rr RV
  have RS : RD P w K mg base 6 "_law_so" ["bag", "pick", "pairs"] (spSo K) := Sf_so.rd fun F => ok_so F ⟨Rdraw, Rm, Rc3, Rl3, RV, RK, RU, RT⟩ mlist
  exact ok_law (fun_mk (st := sLaw) l c k) Rbag Rv2 RS mrange
end
end K0

set_option Elab.async false
set_option linter.all false
open PySem PySem.W PyProof.Rows
set_option maxRecDepth 100000 in
set_option maxHeartbeats 0 in
theorem PySem.Challenge.cw_fewbreak_k00_errors_by_themselves_holds : PySem.Challenge.rw_fewbreak_k00_errors_by_themselves.Holds := by
  w_on; o_law; k_head; (case hw => w_witness2)
  k_fill
  refine L2.walk_of (l := PySem.Challenge.rw_fewbreak_k00_errors_by_themselves) (n := 63) (k := 7) (x := "script") (CX := fun _ => L2.CX0) (sp := fun w => K0.spLaw _) rfl (by decide) rfl ⟨rfl, by decide, by decide⟩ (fun w h Y => PySem.W.kIn_of Y) ?F (fun _ _ a ns hl _ hS => ⟨a, ns, rfl, hS, hl, fun _ => rfl⟩) (fun _ _ _ _ _ h => h)
  case F =>
    intro w mg fa h KX G hmg
    refine' K0.ends KX G hmg ⟨?gth, ?ghn, ?ght, ?gtp⟩ ?gBadText ?gUnlikeParts ?gUnlikeTapes ?gTooMany ?gCantAnswer ?gBadName ?gBadLetters ?gBadRun ?gBadColumn ?gBadNumber ?gBadTable ?gHeldTwice ?gBreaksBeside ?gNotSo ?gNotEnough ?gEndedRun ?gUnknownPart ?gUnknownName ?gUnknownRun ?gNotHeld ?gBadDeed ?gNoDraft ?gInDraft ?gNothingLeft ?gRuleError ?gMissing ?rBadText ?rUnlikeParts ?rUnlikeTapes ?rTooMany ?rCantAnswer ?rBadName ?rBadLetters ?rBadRun ?rBadColumn ?rBadNumber ?rBadTable ?rHeldTwice ?rBreaksBeside ?rNotSo ?rNotEnough ?rEndedRun ?rUnknownPart ?rUnknownName ?rUnknownRun ?rNotHeld ?rBadDeed ?rNoDraft ?rInDraft ?rNothingLeft ?gf_bag ?rf_bag ?gf_draw ?rf_draw ?gf_of ?rf_of ?gf_like ?rf_like ?gf_two ?rf_two ?gf_one ?rf_one ?gf_made ?rf_made ?gf_values ?rf_values ?gf_kinds ?rf_kinds ?gf_due_kinds ?rf_due_kinds ?gf_raise_one ?rf_raise_one ?gf_raise ?rf_raise ?gf_caught ?rf_caught ?gf_value ?rf_value ?gf_copied ?rf_copied ?gf_so ?rf_so ?gf_law ?rf_law ?nint ?nlist ?nlen ?nrange ?ntuple ?nisinstance ?nbool ?nstr ?nall ?nzip ?nsuper ?nValueError ?nLookupError ?nIndexError ?nKeyError ?kit
    (case gBadText => k_is)
    (case gUnlikeParts => k_is)
    (case gUnlikeTapes => k_is)
    (case gTooMany => k_is)
    (case gCantAnswer => k_is)
    (case gBadName => k_is)
    (case gBadLetters => k_is)
    (case gBadRun => k_is)
    (case gBadColumn => k_is)
    (case gBadNumber => k_is)
    (case gBadTable => k_is)
    (case gHeldTwice => k_is)
    (case gBreaksBeside => k_is)
    (case gNotSo => k_is)
    (case gNotEnough => k_is)
    (case gEndedRun => k_is)
    (case gUnknownPart => k_is)
    (case gUnknownName => k_is)
    (case gUnknownRun => k_is)
    (case gNotHeld => k_is)
    (case gBadDeed => k_is)
    (case gNoDraft => k_is)
    (case gInDraft => k_is)
    (case gNothingLeft => k_is)
    (case gRuleError => k_is)
    (case gMissing => k_is)
    (case gf_bag => k_is)
    (case gf_draw => k_is)
    (case gf_of => k_is)
    (case gf_like => k_is)
    (case gf_two => k_is)
    (case gf_one => k_is)
    (case gf_made => k_is)
    (case gf_values => k_is)
    (case gf_kinds => k_is)
    (case gf_due_kinds => k_is)
    (case gf_raise_one => k_is)
    (case gf_raise => k_is)
    (case gf_caught => k_is)
    (case gf_value => k_is)
    (case gf_copied => k_is)
    (case gf_so => k_is)
    (case gf_law => k_is)
    (case nint => k_is)
    (case nlist => k_is)
    (case nlen => k_is)
    (case nrange => k_is)
    (case ntuple => k_is)
    (case nisinstance => k_is)
    (case nbool => k_is)
    (case nstr => k_is)
    (case nall => k_is)
    (case nzip => k_is)
    (case nsuper => k_is)
    (case nValueError => k_is)
    (case nLookupError => k_is)
    (case nIndexError => k_is)
    (case nKeyError => k_is)
    (case gth => k_is); (case ghn => k_is); (case ght => k_is); (case gtp => decide +kernel)
    (case rBadText => (refine' Fb.RawC.of ?q1 ?q2 ?sB ?ks ?cl ?hd ?sa ?ga ?gg ?ex ?ty ?kp ?ha ?hm ?se ?no ?n1 ?n2 ?a1 ?a2 ?a3 ?a4 ?a5 ?a6 ?a7 ?a8; (case q1 => kx_is); (case q2 => kx_is); (case sB => k_is); (case ks => ks_is); (case cl => k_is); (case hd => k_is); (case sa => k_is); (case ga => k_is); (case gg => k_is); (case ex => k_is); (case ty => k_is); (case kp => k_is); (case ha => k_is); (case hm => k_is); (case se => k_is); (case no => k_is); (case n1 => k_is); (case n2 => k_is); (case a1 => k_is); (case a2 => k_is); (case a3 => k_is); (case a4 => k_is); (case a5 => k_is); (case a6 => rfl); (case a7 => first | rfl | decide +kernel | kernel_rfl); (case a8 => k_is)))
    (case rUnlikeParts => (refine' Fb.RawC.of ?q1 ?q2 ?sB ?ks ?cl ?hd ?sa ?ga ?gg ?ex ?ty ?kp ?ha ?hm ?se ?no ?n1 ?n2 ?a1 ?a2 ?a3 ?a4 ?a5 ?a6 ?a7 ?a8; (case q1 => kx_is); (case q2 => kx_is); (case sB => k_is); (case ks => ks_is); (case cl => k_is); (case hd => k_is); (case sa => k_is); (case ga => k_is); (case gg => k_is); (case ex => k_is); (case ty => k_is); (case kp => k_is); (case ha => k_is); (case hm => k_is); (case se => k_is); (case no => k_is); (case n1 => k_is); (case n2 => k_is); (case a1 => k_is); (case a2 => k_is); (case a3 => k_is); (case a4 => k_is); (case a5 => k_is); (case a6 => rfl); (case a7 => first | rfl | decide +kernel | kernel_rfl); (case a8 => k_is)))
    (case rUnlikeTapes => (refine' Fb.RawC.of ?q1 ?q2 ?sB ?ks ?cl ?hd ?sa ?ga ?gg ?ex ?ty ?kp ?ha ?hm ?se ?no ?n1 ?n2 ?a1 ?a2 ?a3 ?a4 ?a5 ?a6 ?a7 ?a8; (case q1 => kx_is); (case q2 => kx_is); (case sB => k_is); (case ks => ks_is); (case cl => k_is); (case hd => k_is); (case sa => k_is); (case ga => k_is); (case gg => k_is); (case ex => k_is); (case ty => k_is); (case kp => k_is); (case ha => k_is); (case hm => k_is); (case se => k_is); (case no => k_is); (case n1 => k_is); (case n2 => k_is); (case a1 => k_is); (case a2 => k_is); (case a3 => k_is); (case a4 => k_is); (case a5 => k_is); (case a6 => rfl); (case a7 => first | rfl | decide +kernel | kernel_rfl); (case a8 => k_is)))
    (case rTooMany => (refine' Fb.RawC.of ?q1 ?q2 ?sB ?ks ?cl ?hd ?sa ?ga ?gg ?ex ?ty ?kp ?ha ?hm ?se ?no ?n1 ?n2 ?a1 ?a2 ?a3 ?a4 ?a5 ?a6 ?a7 ?a8; (case q1 => kx_is); (case q2 => kx_is); (case sB => k_is); (case ks => ks_is); (case cl => k_is); (case hd => k_is); (case sa => k_is); (case ga => k_is); (case gg => k_is); (case ex => k_is); (case ty => k_is); (case kp => k_is); (case ha => k_is); (case hm => k_is); (case se => k_is); (case no => k_is); (case n1 => k_is); (case n2 => k_is); (case a1 => k_is); (case a2 => k_is); (case a3 => k_is); (case a4 => k_is); (case a5 => k_is); (case a6 => rfl); (case a7 => first | rfl | decide +kernel | kernel_rfl); (case a8 => k_is)))
    (case rCantAnswer => (refine' Fb.RawC.of ?q1 ?q2 ?sB ?ks ?cl ?hd ?sa ?ga ?gg ?ex ?ty ?kp ?ha ?hm ?se ?no ?n1 ?n2 ?a1 ?a2 ?a3 ?a4 ?a5 ?a6 ?a7 ?a8; (case q1 => kx_is); (case q2 => kx_is); (case sB => k_is); (case ks => ks_is); (case cl => k_is); (case hd => k_is); (case sa => k_is); (case ga => k_is); (case gg => k_is); (case ex => k_is); (case ty => k_is); (case kp => k_is); (case ha => k_is); (case hm => k_is); (case se => k_is); (case no => k_is); (case n1 => k_is); (case n2 => k_is); (case a1 => k_is); (case a2 => k_is); (case a3 => k_is); (case a4 => k_is); (case a5 => k_is); (case a6 => rfl); (case a7 => first | rfl | decide +kernel | kernel_rfl); (case a8 => k_is)))
    (case rBadName => (refine' Fb.RawC.of ?q1 ?q2 ?sB ?ks ?cl ?hd ?sa ?ga ?gg ?ex ?ty ?kp ?ha ?hm ?se ?no ?n1 ?n2 ?a1 ?a2 ?a3 ?a4 ?a5 ?a6 ?a7 ?a8; (case q1 => kx_is); (case q2 => kx_is); (case sB => k_is); (case ks => ks_is); (case cl => k_is); (case hd => k_is); (case sa => k_is); (case ga => k_is); (case gg => k_is); (case ex => k_is); (case ty => k_is); (case kp => k_is); (case ha => k_is); (case hm => k_is); (case se => k_is); (case no => k_is); (case n1 => k_is); (case n2 => k_is); (case a1 => k_is); (case a2 => k_is); (case a3 => k_is); (case a4 => k_is); (case a5 => k_is); (case a6 => rfl); (case a7 => first | rfl | decide +kernel | kernel_rfl); (case a8 => k_is)))
    (case rBadLetters => (refine' Fb.RawC.of ?q1 ?q2 ?sB ?ks ?cl ?hd ?sa ?ga ?gg ?ex ?ty ?kp ?ha ?hm ?se ?no ?n1 ?n2 ?a1 ?a2 ?a3 ?a4 ?a5 ?a6 ?a7 ?a8; (case q1 => kx_is); (case q2 => kx_is); (case sB => k_is); (case ks => ks_is); (case cl => k_is); (case hd => k_is); (case sa => k_is); (case ga => k_is); (case gg => k_is); (case ex => k_is); (case ty => k_is); (case kp => k_is); (case ha => k_is); (case hm => k_is); (case se => k_is); (case no => k_is); (case n1 => k_is); (case n2 => k_is); (case a1 => k_is); (case a2 => k_is); (case a3 => k_is); (case a4 => k_is); (case a5 => k_is); (case a6 => rfl); (case a7 => first | rfl | decide +kernel | kernel_rfl); (case a8 => k_is)))
    (case rBadRun => (refine' Fb.RawC.of ?q1 ?q2 ?sB ?ks ?cl ?hd ?sa ?ga ?gg ?ex ?ty ?kp ?ha ?hm ?se ?no ?n1 ?n2 ?a1 ?a2 ?a3 ?a4 ?a5 ?a6 ?a7 ?a8; (case q1 => kx_is); (case q2 => kx_is); (case sB => k_is); (case ks => ks_is); (case cl => k_is); (case hd => k_is); (case sa => k_is); (case ga => k_is); (case gg => k_is); (case ex => k_is); (case ty => k_is); (case kp => k_is); (case ha => k_is); (case hm => k_is); (case se => k_is); (case no => k_is); (case n1 => k_is); (case n2 => k_is); (case a1 => k_is); (case a2 => k_is); (case a3 => k_is); (case a4 => k_is); (case a5 => k_is); (case a6 => rfl); (case a7 => first | rfl | decide +kernel | kernel_rfl); (case a8 => k_is)))
    (case rBadColumn => (refine' Fb.RawC.of ?q1 ?q2 ?sB ?ks ?cl ?hd ?sa ?ga ?gg ?ex ?ty ?kp ?ha ?hm ?se ?no ?n1 ?n2 ?a1 ?a2 ?a3 ?a4 ?a5 ?a6 ?a7 ?a8; (case q1 => kx_is); (case q2 => kx_is); (case sB => k_is); (case ks => ks_is); (case cl => k_is); (case hd => k_is); (case sa => k_is); (case ga => k_is); (case gg => k_is); (case ex => k_is); (case ty => k_is); (case kp => k_is); (case ha => k_is); (case hm => k_is); (case se => k_is); (case no => k_is); (case n1 => k_is); (case n2 => k_is); (case a1 => k_is); (case a2 => k_is); (case a3 => k_is); (case a4 => k_is); (case a5 => k_is); (case a6 => rfl); (case a7 => first | rfl | decide +kernel | kernel_rfl); (case a8 => k_is)))
    (case rBadNumber => (refine' Fb.RawC.of ?q1 ?q2 ?sB ?ks ?cl ?hd ?sa ?ga ?gg ?ex ?ty ?kp ?ha ?hm ?se ?no ?n1 ?n2 ?a1 ?a2 ?a3 ?a4 ?a5 ?a6 ?a7 ?a8; (case q1 => kx_is); (case q2 => kx_is); (case sB => k_is); (case ks => ks_is); (case cl => k_is); (case hd => k_is); (case sa => k_is); (case ga => k_is); (case gg => k_is); (case ex => k_is); (case ty => k_is); (case kp => k_is); (case ha => k_is); (case hm => k_is); (case se => k_is); (case no => k_is); (case n1 => k_is); (case n2 => k_is); (case a1 => k_is); (case a2 => k_is); (case a3 => k_is); (case a4 => k_is); (case a5 => k_is); (case a6 => rfl); (case a7 => first | rfl | decide +kernel | kernel_rfl); (case a8 => k_is)))
    (case rBadTable => (refine' Fb.RawC.of ?q1 ?q2 ?sB ?ks ?cl ?hd ?sa ?ga ?gg ?ex ?ty ?kp ?ha ?hm ?se ?no ?n1 ?n2 ?a1 ?a2 ?a3 ?a4 ?a5 ?a6 ?a7 ?a8; (case q1 => kx_is); (case q2 => kx_is); (case sB => k_is); (case ks => ks_is); (case cl => k_is); (case hd => k_is); (case sa => k_is); (case ga => k_is); (case gg => k_is); (case ex => k_is); (case ty => k_is); (case kp => k_is); (case ha => k_is); (case hm => k_is); (case se => k_is); (case no => k_is); (case n1 => k_is); (case n2 => k_is); (case a1 => k_is); (case a2 => k_is); (case a3 => k_is); (case a4 => k_is); (case a5 => k_is); (case a6 => rfl); (case a7 => first | rfl | decide +kernel | kernel_rfl); (case a8 => k_is)))
    (case rHeldTwice => (refine' Fb.RawC.of ?q1 ?q2 ?sB ?ks ?cl ?hd ?sa ?ga ?gg ?ex ?ty ?kp ?ha ?hm ?se ?no ?n1 ?n2 ?a1 ?a2 ?a3 ?a4 ?a5 ?a6 ?a7 ?a8; (case q1 => kx_is); (case q2 => kx_is); (case sB => k_is); (case ks => ks_is); (case cl => k_is); (case hd => k_is); (case sa => k_is); (case ga => k_is); (case gg => k_is); (case ex => k_is); (case ty => k_is); (case kp => k_is); (case ha => k_is); (case hm => k_is); (case se => k_is); (case no => k_is); (case n1 => k_is); (case n2 => k_is); (case a1 => k_is); (case a2 => k_is); (case a3 => k_is); (case a4 => k_is); (case a5 => k_is); (case a6 => rfl); (case a7 => first | rfl | decide +kernel | kernel_rfl); (case a8 => k_is)))
    (case rBreaksBeside => (refine' Fb.RawC.of ?q1 ?q2 ?sB ?ks ?cl ?hd ?sa ?ga ?gg ?ex ?ty ?kp ?ha ?hm ?se ?no ?n1 ?n2 ?a1 ?a2 ?a3 ?a4 ?a5 ?a6 ?a7 ?a8; (case q1 => kx_is); (case q2 => kx_is); (case sB => k_is); (case ks => ks_is); (case cl => k_is); (case hd => k_is); (case sa => k_is); (case ga => k_is); (case gg => k_is); (case ex => k_is); (case ty => k_is); (case kp => k_is); (case ha => k_is); (case hm => k_is); (case se => k_is); (case no => k_is); (case n1 => k_is); (case n2 => k_is); (case a1 => k_is); (case a2 => k_is); (case a3 => k_is); (case a4 => k_is); (case a5 => k_is); (case a6 => rfl); (case a7 => first | rfl | decide +kernel | kernel_rfl); (case a8 => k_is)))
    (case rNotSo => (refine' Fb.RawC.of ?q1 ?q2 ?sB ?ks ?cl ?hd ?sa ?ga ?gg ?ex ?ty ?kp ?ha ?hm ?se ?no ?n1 ?n2 ?a1 ?a2 ?a3 ?a4 ?a5 ?a6 ?a7 ?a8; (case q1 => kx_is); (case q2 => kx_is); (case sB => k_is); (case ks => ks_is); (case cl => k_is); (case hd => k_is); (case sa => k_is); (case ga => k_is); (case gg => k_is); (case ex => k_is); (case ty => k_is); (case kp => k_is); (case ha => k_is); (case hm => k_is); (case se => k_is); (case no => k_is); (case n1 => k_is); (case n2 => k_is); (case a1 => k_is); (case a2 => k_is); (case a3 => k_is); (case a4 => k_is); (case a5 => k_is); (case a6 => rfl); (case a7 => first | rfl | decide +kernel | kernel_rfl); (case a8 => k_is)))
    (case rNotEnough => (refine' Fb.RawC.of ?q1 ?q2 ?sB ?ks ?cl ?hd ?sa ?ga ?gg ?ex ?ty ?kp ?ha ?hm ?se ?no ?n1 ?n2 ?a1 ?a2 ?a3 ?a4 ?a5 ?a6 ?a7 ?a8; (case q1 => kx_is); (case q2 => kx_is); (case sB => k_is); (case ks => ks_is); (case cl => k_is); (case hd => k_is); (case sa => k_is); (case ga => k_is); (case gg => k_is); (case ex => k_is); (case ty => k_is); (case kp => k_is); (case ha => k_is); (case hm => k_is); (case se => k_is); (case no => k_is); (case n1 => k_is); (case n2 => k_is); (case a1 => k_is); (case a2 => k_is); (case a3 => k_is); (case a4 => k_is); (case a5 => k_is); (case a6 => rfl); (case a7 => first | rfl | decide +kernel | kernel_rfl); (case a8 => k_is)))
    (case rEndedRun => (refine' Fb.RawC.of ?q1 ?q2 ?sB ?ks ?cl ?hd ?sa ?ga ?gg ?ex ?ty ?kp ?ha ?hm ?se ?no ?n1 ?n2 ?a1 ?a2 ?a3 ?a4 ?a5 ?a6 ?a7 ?a8; (case q1 => kx_is); (case q2 => kx_is); (case sB => k_is); (case ks => ks_is); (case cl => k_is); (case hd => k_is); (case sa => k_is); (case ga => k_is); (case gg => k_is); (case ex => k_is); (case ty => k_is); (case kp => k_is); (case ha => k_is); (case hm => k_is); (case se => k_is); (case no => k_is); (case n1 => k_is); (case n2 => k_is); (case a1 => k_is); (case a2 => k_is); (case a3 => k_is); (case a4 => k_is); (case a5 => k_is); (case a6 => rfl); (case a7 => first | rfl | decide +kernel | kernel_rfl); (case a8 => k_is)))
    (case rUnknownPart => (refine' Fb.RawC.of ?q1 ?q2 ?sB ?ks ?cl ?hd ?sa ?ga ?gg ?ex ?ty ?kp ?ha ?hm ?se ?no ?n1 ?n2 ?a1 ?a2 ?a3 ?a4 ?a5 ?a6 ?a7 ?a8; (case q1 => kx_is); (case q2 => kx_is); (case sB => k_is); (case ks => ks_is); (case cl => k_is); (case hd => k_is); (case sa => k_is); (case ga => k_is); (case gg => k_is); (case ex => k_is); (case ty => k_is); (case kp => k_is); (case ha => k_is); (case hm => k_is); (case se => k_is); (case no => k_is); (case n1 => k_is); (case n2 => k_is); (case a1 => k_is); (case a2 => k_is); (case a3 => k_is); (case a4 => k_is); (case a5 => k_is); (case a6 => rfl); (case a7 => first | rfl | decide +kernel | kernel_rfl); (case a8 => k_is)))
    (case rUnknownName => (refine' Fb.RawC.of ?q1 ?q2 ?sB ?ks ?cl ?hd ?sa ?ga ?gg ?ex ?ty ?kp ?ha ?hm ?se ?no ?n1 ?n2 ?a1 ?a2 ?a3 ?a4 ?a5 ?a6 ?a7 ?a8; (case q1 => kx_is); (case q2 => kx_is); (case sB => k_is); (case ks => ks_is); (case cl => k_is); (case hd => k_is); (case sa => k_is); (case ga => k_is); (case gg => k_is); (case ex => k_is); (case ty => k_is); (case kp => k_is); (case ha => k_is); (case hm => k_is); (case se => k_is); (case no => k_is); (case n1 => k_is); (case n2 => k_is); (case a1 => k_is); (case a2 => k_is); (case a3 => k_is); (case a4 => k_is); (case a5 => k_is); (case a6 => rfl); (case a7 => first | rfl | decide +kernel | kernel_rfl); (case a8 => k_is)))
    (case rUnknownRun => (refine' Fb.RawC.of ?q1 ?q2 ?sB ?ks ?cl ?hd ?sa ?ga ?gg ?ex ?ty ?kp ?ha ?hm ?se ?no ?n1 ?n2 ?a1 ?a2 ?a3 ?a4 ?a5 ?a6 ?a7 ?a8; (case q1 => kx_is); (case q2 => kx_is); (case sB => k_is); (case ks => ks_is); (case cl => k_is); (case hd => k_is); (case sa => k_is); (case ga => k_is); (case gg => k_is); (case ex => k_is); (case ty => k_is); (case kp => k_is); (case ha => k_is); (case hm => k_is); (case se => k_is); (case no => k_is); (case n1 => k_is); (case n2 => k_is); (case a1 => k_is); (case a2 => k_is); (case a3 => k_is); (case a4 => k_is); (case a5 => k_is); (case a6 => rfl); (case a7 => first | rfl | decide +kernel | kernel_rfl); (case a8 => k_is)))
    (case rNotHeld => (refine' Fb.RawC.of ?q1 ?q2 ?sB ?ks ?cl ?hd ?sa ?ga ?gg ?ex ?ty ?kp ?ha ?hm ?se ?no ?n1 ?n2 ?a1 ?a2 ?a3 ?a4 ?a5 ?a6 ?a7 ?a8; (case q1 => kx_is); (case q2 => kx_is); (case sB => k_is); (case ks => ks_is); (case cl => k_is); (case hd => k_is); (case sa => k_is); (case ga => k_is); (case gg => k_is); (case ex => k_is); (case ty => k_is); (case kp => k_is); (case ha => k_is); (case hm => k_is); (case se => k_is); (case no => k_is); (case n1 => k_is); (case n2 => k_is); (case a1 => k_is); (case a2 => k_is); (case a3 => k_is); (case a4 => k_is); (case a5 => k_is); (case a6 => rfl); (case a7 => first | rfl | decide +kernel | kernel_rfl); (case a8 => k_is)))
    (case rBadDeed => (refine' Fb.RawC.of ?q1 ?q2 ?sB ?ks ?cl ?hd ?sa ?ga ?gg ?ex ?ty ?kp ?ha ?hm ?se ?no ?n1 ?n2 ?a1 ?a2 ?a3 ?a4 ?a5 ?a6 ?a7 ?a8; (case q1 => kx_is); (case q2 => kx_is); (case sB => k_is); (case ks => ks_is); (case cl => k_is); (case hd => k_is); (case sa => k_is); (case ga => k_is); (case gg => k_is); (case ex => k_is); (case ty => k_is); (case kp => k_is); (case ha => k_is); (case hm => k_is); (case se => k_is); (case no => k_is); (case n1 => k_is); (case n2 => k_is); (case a1 => k_is); (case a2 => k_is); (case a3 => k_is); (case a4 => k_is); (case a5 => k_is); (case a6 => rfl); (case a7 => first | rfl | decide +kernel | kernel_rfl); (case a8 => k_is)))
    (case rNoDraft => (refine' Fb.RawC.of ?q1 ?q2 ?sB ?ks ?cl ?hd ?sa ?ga ?gg ?ex ?ty ?kp ?ha ?hm ?se ?no ?n1 ?n2 ?a1 ?a2 ?a3 ?a4 ?a5 ?a6 ?a7 ?a8; (case q1 => kx_is); (case q2 => kx_is); (case sB => k_is); (case ks => ks_is); (case cl => k_is); (case hd => k_is); (case sa => k_is); (case ga => k_is); (case gg => k_is); (case ex => k_is); (case ty => k_is); (case kp => k_is); (case ha => k_is); (case hm => k_is); (case se => k_is); (case no => k_is); (case n1 => k_is); (case n2 => k_is); (case a1 => k_is); (case a2 => k_is); (case a3 => k_is); (case a4 => k_is); (case a5 => k_is); (case a6 => rfl); (case a7 => first | rfl | decide +kernel | kernel_rfl); (case a8 => k_is)))
    (case rInDraft => (refine' Fb.RawC.of ?q1 ?q2 ?sB ?ks ?cl ?hd ?sa ?ga ?gg ?ex ?ty ?kp ?ha ?hm ?se ?no ?n1 ?n2 ?a1 ?a2 ?a3 ?a4 ?a5 ?a6 ?a7 ?a8; (case q1 => kx_is); (case q2 => kx_is); (case sB => k_is); (case ks => ks_is); (case cl => k_is); (case hd => k_is); (case sa => k_is); (case ga => k_is); (case gg => k_is); (case ex => k_is); (case ty => k_is); (case kp => k_is); (case ha => k_is); (case hm => k_is); (case se => k_is); (case no => k_is); (case n1 => k_is); (case n2 => k_is); (case a1 => k_is); (case a2 => k_is); (case a3 => k_is); (case a4 => k_is); (case a5 => k_is); (case a6 => rfl); (case a7 => first | rfl | decide +kernel | kernel_rfl); (case a8 => k_is)))
    (case rNothingLeft => (refine' Fb.RawC.of ?q1 ?q2 ?sB ?ks ?cl ?hd ?sa ?ga ?gg ?ex ?ty ?kp ?ha ?hm ?se ?no ?n1 ?n2 ?a1 ?a2 ?a3 ?a4 ?a5 ?a6 ?a7 ?a8; (case q1 => kx_is); (case q2 => kx_is); (case sB => k_is); (case ks => ks_is); (case cl => k_is); (case hd => k_is); (case sa => k_is); (case ga => k_is); (case gg => k_is); (case ex => k_is); (case ty => k_is); (case kp => k_is); (case ha => k_is); (case hm => k_is); (case se => k_is); (case no => k_is); (case n1 => k_is); (case n2 => k_is); (case a1 => k_is); (case a2 => k_is); (case a3 => k_is); (case a4 => k_is); (case a5 => k_is); (case a6 => rfl); (case a7 => first | rfl | decide +kernel | kernel_rfl); (case a8 => k_is)))
    (case rf_bag => (refine' Fb.RawF.of ?l ?c ?k; (case l => k_is); (case c => k_is); (case k => k_is)))
    (case rf_draw => (refine' Fb.RawF.of ?l ?c ?k; (case l => k_is); (case c => k_is); (case k => k_is)))
    (case rf_of => (refine' Fb.RawF.of ?l ?c ?k; (case l => k_is); (case c => k_is); (case k => k_is)))
    (case rf_like => (refine' Fb.RawF.of ?l ?c ?k; (case l => k_is); (case c => k_is); (case k => k_is)))
    (case rf_two => (refine' Fb.RawF.of ?l ?c ?k; (case l => k_is); (case c => k_is); (case k => k_is)))
    (case rf_one => (refine' Fb.RawF.of ?l ?c ?k; (case l => k_is); (case c => k_is); (case k => k_is)))
    (case rf_made => (refine' Fb.RawF.of ?l ?c ?k; (case l => k_is); (case c => k_is); (case k => k_is)))
    (case rf_values => (refine' Fb.RawF.of ?l ?c ?k; (case l => k_is); (case c => k_is); (case k => k_is)))
    (case rf_kinds => (refine' Fb.RawF.of ?l ?c ?k; (case l => k_is); (case c => k_is); (case k => k_is)))
    (case rf_due_kinds => (refine' Fb.RawF.of ?l ?c ?k; (case l => k_is); (case c => k_is); (case k => k_is)))
    (case rf_raise_one => (refine' Fb.RawF.of ?l ?c ?k; (case l => k_is); (case c => k_is); (case k => k_is)))
    (case rf_raise => (refine' Fb.RawF.of ?l ?c ?k; (case l => k_is); (case c => k_is); (case k => k_is)))
    (case rf_caught => (refine' Fb.RawF.of ?l ?c ?k; (case l => k_is); (case c => k_is); (case k => k_is)))
    (case rf_value => (refine' Fb.RawF.of ?l ?c ?k; (case l => k_is); (case c => k_is); (case k => k_is)))
    (case rf_copied => (refine' Fb.RawF.of ?l ?c ?k; (case l => k_is); (case c => k_is); (case k => k_is)))
    (case rf_so => (refine' Fb.RawF.of ?l ?c ?k; (case l => k_is); (case c => k_is); (case k => k_is)))
    (case rf_law => (refine' Fb.RawF.of ?l ?c ?k; (case l => k_is); (case c => k_is); (case k => k_is)))
    (case kit => kernel_rfl)

