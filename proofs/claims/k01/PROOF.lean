import PyProof.Rows.All
import Wide.All
import OpenK.AllK
import Wide.FinOn
import PyProof.EqAt
import PyProof.EqKinds
import PyProof.TupleCall
import KE.KExcSuper
import HandS.ForExc
import HandS.ExcInit
import HandS.ExcField
import HandS.Nested
import HandS.Defaults
import HandS.MakeKw
import HandS.ExcIs
import KE.KExcIs
import HandS.TryMany
import HandS.HotCalls
import HandS.FStr
import HandS.FStrTup
import PyProof.ReprNest
import HandS.ForMost
import HandS.IsInst
import HandS.Zip
import HandS.Walk
import HandS.Conv
import PyProof.ListStr
import HandS.Strs
import PyProof.StrWalks
import HandS.Dict
import KE.GoesMore
import PyProof.EnumMake
import HandS.Star
import HandS.MakeKwOnly
import HandS.OwnEq
import KE.KCallOwn
import OpenK.KOps
import OpenK.KMeth
import HandS.Lambda
import KE.KDflt
import HandS.DictComp
import HandS.List
import HandS.Text
import HandS.StrMore
import KE.KExcInit
import KE.KNestM
import HandS.EndTab
import HandS.HeadWalk
import PyProof.TableCode
import PySem.Challenge.RW_fewbreak_k01_letters_told_and_refused
set_option Elab.async false
set_option linter.all false
set_option maxRecDepth 100000
set_option maxHeartbeats 4000000
/-! Own exception classes over any built-in base: made, filled, read, as tracked objects. -/
namespace Fb
open PySem PySem.Spec PyProof.Rows L2 Builtin.ObjectAttr

/-- the class at C is an own exception class, its __init__ its own; B: the built-in base -/
structure EB (K : PySem.W.Frag) (C : Addr) (B newId ini : String) (bmB : List Value) : Prop where
  eb : ExcBaseFacts B newId ini bmB
  sf : StoreFacts B bmB "object.__setattr__" "object"
  kx : PySem.W.KxsFacts B ini
  q1 : PySem.W.excInitIn K C bmB newId = true
  q2 : PySem.W.excOver K C bmB = true
  sB : PySem.W.subIn K (.ref C) (.type B) = some true
structure EC (K : PySem.W.Frag) (C : Addr) : Prop where
  by_ : ∃ B newId ini bmB, EB K C B newId ini bmB ∧ PySem.W.ks_superIn K C C "__init__" = some (some (.builtin ini))
  cl : (PySem.W.clsIn K C).isSome = true
  hd : PySem.W.hasDictIn K C = true
  sa : PySem.W.findIn K (.ref C) "__setattr__" = some (some (.builtin "object.__setattr__"))
  ga : PySem.W.findIn K (.ref C) "__getattribute__" = some (some (.builtin "BaseException.__getattribute__"))
  gg : PySem.W.findIn K (.ref C) "__getattr__" = some none
  ex : PySem.W.subIn K (.ref C) (.type "BaseException") = some true
  ty : PySem.W.typeIn K (.ref C) = some (.type "type")
  kp : PySem.W.keepIn K (.ref C) = true
  th : PySem.W.nsIn K cStatics "thirdparty.any" = some none

/-- an exception's record: its args at t, its dict -/
abbrev eo (C t : Addr) (d : Option Addr) : Obj := PySem.W.excObj C t d .none

theorem upd_two {a dx b : Addr} {H : Hp} {o1 o2 : HO} (h1 : b ≠ a) (h2 : b ≠ dx) : upd (upd H dx o1) a o2 b = H b := by rw [upd_ne h1, upd_ne h2]

section
variable {X : Cx} {pins : List (Addr × Obj)} {σ : L2.St} {H : Hp} {s : Shared} {a C dx : Addr} {f : Str} {y : V} {u : Value} {fs : List (Str × V)} {Q : Unit → Shared → Prop} {E : Value → Shared → Prop} {A : Around}

/-- the record at a is written while a dict is laid at dx -/
theorem two_ok {hp h' : Heap} {g : Array GenState} {dr : Drawn} {t t' : Nat} {os : OsState} {o2 o1 o0 : HO} (I : Inv X pins σ H ⟨hp, g, dr, t, os⟩) (e : H a = some o0) (mu : Mut (some o0)) (nt : ∀ z, o0 ≠ .own z)
    (k : ∀ b o, b ≠ a → hp.get? b = some o → h'.get? b = some o) (dn : hp.objs.size ≤ dx) (hx : ∃ o, h'.get? a = some o)
    (n1 : ObjOk X.prog X.w (upd (upd H dx o1) a o2) h' dx o1) (n2 : ObjOk X.prog X.w (upd (upd H dx o1) a o2) h' a o2) : Inv X pins σ (upd (upd H dx o1) a o2) ⟨h', g, dr, t', os⟩ := by
  have fd : H dx = none := I.hok.fresh dn
  have off : ∀ {b : Addr} {v : HO}, H b = some v → v ≠ o0 → b ≠ a ∧ b ≠ dx := fun {b v} q d => ⟨fun z => d (by rw [z, e] at q; exact (Option.some.inj q).symm), ne_of_none q fd⟩
  have nd : ∀ {b : Addr} {o : Obj}, hp.get? b = some o → b ≠ dx := fun {b o} q => Nat.ne_of_lt (Nat.lt_of_lt_of_le (Heap.lt_size q) dn)
  have na : ∀ {b : Addr}, H b = none → b ≠ a := fun {b} n z => by rw [z, e] at n; cases n
  have n3 : ∀ xs, HO.tup xs ≠ o0 := fun xs z => by rw [← z] at mu; exact mu
  have n4 : ∀ ob v, HO.frz ob v ≠ o0 := fun ob v z => by rw [← z] at mu; exact mu
  have n5 : ∀ ps, HO.tbl ps ≠ o0 := fun ps z => by rw [← z] at mu; exact mu
  have U : Un X.fs [] H (upd (upd H dx o1) a o2) hp h' := {
    keep := fun b o q n _ _ => k b o (na n) q
    slot := fun b o q n _ _ => ⟨o.slots, k b o (na n) q⟩
    free := fun b o q n _ => (upd_two (na n) (nd q)).trans n
    there := fun b o q _ => if hb : b = a then by rw [hb]; exact hx else ⟨o, k b o hb q⟩
    tups := fun b xs q => (upd_two (off q (n3 xs)).1 (off q (n3 xs)).2).trans q
    frzs := fun b o v q => (upd_two (off q (n4 o v)).1 (off q (n4 o v)).2).trans q
    tbls := fun b ps q => ⟨#[], by rw [upd_two (off q (n5 ps)).1 (off q (n5 ps)).2, q]; simp⟩ }
  refine I.un (t' := t') U fun b o q => ?_
  by_cases hb : b = a
  · subst hb
    rw [upd_same] at q
    cases q
    exact n2
  by_cases hd : b = dx
  · subst hd
    rw [upd_ne hb, upd_same] at q
    cases q
    exact n1
  rw [upd_two hb hd] at q
  refine (I.hok b o q).stay (fun c v hc z => k c v (hc.elim (fun w => w ▸ hb) fun w => (off w (fun z => nt b z.symm)).1) z) (fun c hc => ?_) fun c xs hc => ?_
  · exact (upd_two (off hc (fun z => nt b z.symm)).1 (off hc (fun z => nt b z.symm)).2).trans hc
  · exact (upd_two (off hc (n3 xs)).1 (off hc (n3 xs)).2).trans hc

theorem exo_mut {e : Addr} {d : Option Addr} : Mut (some (exo e C d)) := True.intro

/-- self.f = y, the first field -/
theorem set_new (T : EC X.K C) (I : Inv X pins σ H s) (e : H a = some (exo a C none)) (hno : PySem.W.findIn X.K (.ref C) f = some none) (ry : RelV y u)
    (h : ∀ dx s', H dx = none → dx ≠ a → Inv X pins σ (upd (upd H dx (exd dx [(f, y)])) a (exo a C (some dx))) s' → Q () s') : wpAny (model X.prog X.w) A (setAttr (.ref a) f u) Q E s := by
  obtain ⟨B, newId, ini, bmB, F, _⟩ := T.by_
  obtain ⟨t1, ho⟩ := exo_at I.hok e
  obtain ⟨hp, g, d, t, os⟩ := s
  have hxs : a ≠ hp.objs.size := Nat.ne_of_lt (Heap.lt_size ho)
  have J : PySem.W.InstAt hp a (eo C t1 none) C none := ⟨ho, rfl, rfl, trivial⟩
  refine PySem.W.set_plain I.kIn J T.sa (PySem.W.osa_openX (r := none) F.sf I.kIn J F.q2 (NoAttr.taker hno) fun b => ?_)
  obtain ⟨cd, hcd, hdd⟩ := PySem.W.any_some T.hd
  have hcls := PySem.W.looks_clsIn (M := model X.prog X.w) I.kIn hcd
  obtain ⟨n1, n2, n3, n4, n5, hd, n6, n7, n8, n9, del⟩ := cd
  dsimp only at hdd
  subst hdd
  show wpAny _ _ (storeInOwnDict _ _ _ _ _ b) _ _ _
  unfold storeInOwnDict
  unfold ownDictForStores
  repeat (first
    | with_reducible refine PX.store_in_new ?_ ?_
    | with_reducible refine wpAny_loadPart_at ho ?_
    | with_reducible refine hcls.at ?_
    | wp_step)
  · refine ⟨_, #[], _, (Heap.get?_update_ne _ _ _ _ hxs.symm).trans (Heap.get?_push_at rfl rfl), rfl, fun e he => absurd he (by simp), fun _ => rfl⟩
  intro h' tk' hn' hs
  have ho' : (hp.push { cls := .type "dict", data := .dict #[] }).get? a = some (eo C t1 none) := Heap.get?_push_of_some _ ho
  have hx : h'.get? a = some (eo C t1 (some hp.objs.size)) := (hs.2 a hxs).trans (Heap.get?_update_self _ ho' rfl)
  refine h hp.objs.size _ (I.hok.fresh (Nat.le_refl _)) hxs.symm (two_ok (t' := tk') I e exo_mut (fun z => exo_own) (fun b o hb q => ?_) (Nat.le_refl _) ⟨_, hx⟩ (exd_ok hn' (relO_put (fs := []) ry fun g => True.intro)) (exo_ok hx))
  exact (hs.2 b (Nat.ne_of_lt (Heap.lt_size q))).trans ((Heap.get?_update_ne _ _ _ _ hb).trans (Heap.get?_push_of_some _ q))

/-- self.f = y, a further field -/
theorem set_old (T : EC X.K C) (I : Inv X pins σ H s) (e : H a = some (exo a C (some dx))) (ed : H dx = some (exd dx fs)) (hl : fs.length ≤ 900) (hno : PySem.W.findIn X.K (.ref C) f = some none) (ry : RelV y u)
    (h : ∀ s', Inv X pins σ (upd H dx (exd dx ((f, y) :: fs))) s' → Q () s') : wpAny (model X.prog X.w) A (setAttr (.ref a) f u) Q E s := by
  obtain ⟨B, newId, ini, bmB, F, _⟩ := T.by_
  obtain ⟨t1, ho⟩ := exo_at I.hok e
  obtain ⟨mA, hns, rel⟩ := exd_at I.hok ed
  have hw := within_of rel
  obtain ⟨hp, g, d, t, os⟩ := s
  obtain ⟨oD, _, _, hoD, _, _⟩ := hns.count hw
  have J : PySem.W.InstAt hp a (eo C t1 (some dx)) C (some oD) := ⟨ho, rfl, rfl, hoD⟩
  refine PySem.W.set_plain I.kIn J T.sa (PySem.W.osa_openX (r := none) F.sf I.kIn J F.q2 (NoAttr.taker hno) fun b => ?_)
  obtain ⟨cd, hcd, hdd⟩ := PySem.W.any_some T.hd
  have hcls := PySem.W.looks_clsIn (M := model X.prog X.w) I.kIn hcd
  obtain ⟨n1, n2, n3, n4, n5, hd, n6, n7, n8, n9, del⟩ := cd
  dsimp only at hdd
  subst hdd
  show wpAny _ _ (storeInOwnDict _ _ _ _ _ b) _ _ _
  unfold storeInOwnDict
  unfold ownDictForStores
  repeat (first
    | with_reducible refine PX.store_in_old hns hw (by rw [List.length_map]; omega) ?_
    | with_reducible refine wpAny_loadPart_at ho ?_
    | with_reducible refine hcls.at ?_
    | wp_step)
  intro h' tk' hn' hs
  have hd : ∃ o, h'.get? dx = some o := let ⟨o, _, _, e', _⟩ := hn'; ⟨o, e'⟩
  exact h _ (I.write (t' := tk') (x := dx) (e := dx) (o := exd dx ((f, y) :: fs)) (by rw [ed]; exact True.intro) (.inl rfl) (fun b o hb q => (hs.2 b hb).trans q) hd (exd_ok hn' (relO_put ry rel)))
end
end Fb

set_option Elab.async false
set_option linter.all false
set_option maxRecDepth 100000
set_option maxHeartbeats 4000000
namespace Fb
open PySem PySem.Spec PyProof.Rows L2 Builtin.ObjectAttr
/-! ### an own exception class called, with keywords too -/
section
variable {M : Model} {prog : Program} {w : World} {A : Around} {E : Value → Shared → Prop} {R : Result → Shared → Prop} {h : Heap} {g : Array GenState} {d : Drawn} {t : Nat} {os : OsState}
variable {nm qn : Str} {C N : Addr} {bs bm bmB : List Value} {hdct : Bool} {sn : List Str} {sub : List Value} {ab : Bool} {col : Option Bool} {dd : Option Addr} {k0 k1 k2 k3 k5 : Option Value} {B newId ini : String}
theorem check_newK (F : ExcBaseFacts B newId ini bmB) (hT : ∀ X : String, bm.contains (.type X) = bmB.contains (.type X)) {us : List Value} {kw : List (Str × Value)} {Q : Unit → Shared → Prop}
    (hC : h.get? C = some (excClassObj nm qn C N bs bm hdct sn sub ab col dd k0 k1 k2 k3 k5 newId)) (hq : Q () ⟨h, g, d, t, os⟩) : wpAny M A (checkBuiltinCall newId ⟨.ref C :: us, kw⟩) Q E ⟨h, g, d, t, os⟩ := by
  have c1 : (Value.ref C :: bm).contains (.type B) = true := by
    rw [List.contains_cons, hT, F.hasB]
    exact Bool.or_true _
  have c2 := F.noStar
  simp only [checkBuiltinCall, F.newKind, F.newSplit, F.newRow]
  repeat (first
    | refine wpAny_loadPart_at hC ?_
    | (refine wpAny_isSubtype_exc hC ?_; rw [c1])
    | refine wpAny_staticBase_exc hC ?_
    | refine wpAny_madeBy_exc hC ?_
    | simp only [bne_self_eq_false, Bool.false_eq_true, if_false]
    | wp_step)
  exact hq
/-- the record and its args behind BaseException.__new__ -/
def bornAt (h : Heap) (C : Addr) (us : List Value) : Heap := (h.push (PySem.W.kdv_tup us)).push (PX.excO C h.objs.size)
theorem born_keep {us : List Value} : ∀ b o, h.get? b = some o → (bornAt h C us).get? b = some o := fun b o e => Heap.get?_push_of_some _ (Heap.get?_push_of_some _ e)
theorem born_at {us : List Value} : (bornAt h C us).get? (h.objs.size + 1) = some (PX.excO C h.objs.size) := by
  unfold bornAt
  heap_get
theorem newK (F : ExcBaseFacts B newId ini bmB) (hT : ∀ X : String, bm.contains (.type X) = bmB.contains (.type X)) {us : List Value} {kw : List (Str × Value)}
    (hC : h.get? C = some (excClassObj nm qn C N bs bm hdct sn sub ab col dd k0 k1 k2 k3 k5 newId)) (hz : us.length ≤ sizeLine)
    (hq : R (.ok (.ret (.ref (h.objs.size + 1)))) ⟨bornAt h C us, g, d, t, os⟩) : codeAny (model prog w) A (.builtin newId ⟨.ref C :: us, kw⟩) R ⟨h, g, d, t, os⟩ := by
  have c0 := F.ends
  have c1 : (Value.ref C :: bm).contains (.type B) = true := by
    rw [List.contains_cons, hT, F.hasB]
    exact Bool.or_true _
  have c2 : (Value.ref C :: bm).contains (.type "AttributeError") = false := by
    rw [List.contains_cons, hT, F.noAttr] <;> rfl
  have c3 : (Value.ref C :: bm).contains (.type "NameError") = false := by
    rw [List.contains_cons, hT, F.noName] <;> rfl
  refine codeAny_builtinAt F.entry ?_
  unfold Builtin.«BaseException.__new__»
  refine PySem.wpAt_bind (show PySem.wpAt _ _ _ (stack >>= _) _ _ _ from PySem.wpAt_bind (PySem.wpAt_stack fun p below => PySem.wpAt_of_wpAny ?_))
  wp_walk
  refine PySem.wpAt_of_wpAny ?_
  rw [F.owner]
  repeat (first
    | with_reducible refine wpAny_madeHere_exc F.canon hC ?_
    | with_reducible refine wpAny_loadPart_at hC ?_
    | (with_reducible refine wpAny_isSubtype_exc hC ?_; first | rw [c1] | rw [c2] | rw [c3])
    | wp_step)
  show R _ _
  rw [Heap.size_push]
  exact hq
theorem typeCallK (F : ExcBaseFacts B newId ini bmB) (hT : ∀ X : String, bm.contains (.type X) = bmB.contains (.type X)) {us : List Value} {kw : List (Str × Value)} {fI : Addr} {Q : Fin → Shared → Prop}
    (hC : h.get? C = some (excClassObj nm qn C N bs bm hdct sn sub ab col dd k0 k1 k2 k3 k5 newId)) (hi : W.Looks (model prog w) h (typeLookup (.ref C) "__init__") (some (.ref fI)))
    (hb : ∀ self, W.Looks (model prog w) h (bindSpecial (.ref fI) self) (.ref fI, [self])) (hz : us.length ≤ sizeLine)
    (hq : codeAny (model prog w) A (.call (.ref fI) ⟨.ref (h.objs.size + 1) :: us, kw⟩)
      (fun r s' => match r with | .ok (.ret v) => v = .none ∧ Q (.done (.ret (.ref (h.objs.size + 1)))) s' | .ok _ => False | .error e => E e s') ⟨bornAt h C us, g, d, t, os⟩) :
    wpAny (model prog w) A (Builtin.«type.__call__» ⟨.ref C :: us, kw⟩) Q E ⟨h, g, d, t, os⟩ := by
  repeat (first
    | with_reducible refine wpAny_loadPart_at hC ?_
    | with_reducible refine wpAny_madeBy_exc hC ?_
    | wp_step)
  refine codeAny_call_builtin_code (Code.quiet_builtin _ F.quiet) (check_newK F hT hC (newK F hT hC hz ?_))
  show wpAny _ _ _ _ _ _
  have hC₁ := born_keep (C := C) (us := us) _ _ hC
  have hget := born_at (h := h) (C := C) (us := us)
  have hcC : (Value.ref C :: bm).contains (.ref C) = true := by simp
  have i1 := hi.keeps (born_keep (C := C) (us := us))
  have b1 := (hb (.ref (h.objs.size + 1))).keeps (born_keep (C := C) (us := us))
  unfold isInstance
  repeat (first
    | with_reducible refine wpAny_loadPart_at hget ?_
    | (with_reducible refine wpAny_isSubtype_exc hC₁ ?_; rw [hcC])
    | wp_step)
  show wpAny _ _ (typeLookup (.ref C) _) _ _ _
  refine i1.at (wpAny_holding (wpAny_bind (b1.at ?_)))
  refine wpAny_bind (wpAny_call (codeAny_mono hq fun r s' z => ?_))
  rcases r with e | (v | _ | _ | _) <;> first | exact z | exact z.elim | skip
  obtain ⟨rfl, z⟩ := z
  first | exact wpAny_pure (wpAny_pure z) | (wp_walk; exact z)
theorem callK (F : ExcBaseFacts B newId ini bmB) (hT : ∀ X : String, bm.contains (.type X) = bmB.contains (.type X)) {us : List Value} {kw : List (Str × Value)} {fI : Addr}
    (hC : h.get? C = some (excClassObj nm qn C N bs bm hdct sn sub ab col dd k0 k1 k2 k3 k5 newId)) (hi : W.Looks (model prog w) h (typeLookup (.ref C) "__init__") (some (.ref fI)))
    (hb : ∀ self, W.Looks (model prog w) h (bindSpecial (.ref fI) self) (.ref fI, [self])) (hz : us.length ≤ sizeLine)
    (hq : codeAny (model prog w) (A.under (.builtin "type.__call__" ⟨.ref C :: us, kw⟩)) (.call (.ref fI) ⟨.ref (h.objs.size + 1) :: us, kw⟩) (W.InitBack (h.objs.size + 1) R) ⟨bornAt h C us, g, d, t, os⟩) :
    codeAny (model prog w) A (.call (.ref C) ⟨us, kw⟩) R ⟨h, g, d, t, os⟩ := by
  have f1 := tc_lookup
  have f2 := tc_bind (.ref C)
  have hTy : (⟨h, g, d, t, os⟩ : Shared).TypeIs (.ref C) "type" := ⟨_, hC, rfl⟩
  refine codeAny_of_tree (show wpAny _ _ (callAny (.ref C) _) _ _ _ from ?_)
  repeat (any_goals (first | assumption | with_reducible refine wpAny_loadPart_at hC ?_ | wp_step))
  refine ⟨rfl, codeAny_call_builtin_at (Code.quiet_builtin _ (by decide +kernel)) entry_typeCall (wpAny_check_type_call_sub hC (typeCallK F hT hC hi hb hz (codeAny_mono hq fun r s' z => ?_)))⟩
  rcases r with e | (v | _ | _ | _) <;> exact z
end
end Fb

set_option Elab.async false
set_option linter.all false
set_option maxRecDepth 100000
set_option maxHeartbeats 4000000
namespace Fb
open PySem PySem.Spec PyProof.Rows L2 Builtin.ObjectAttr
/-! ### C(..) of an own exception class, as a value and raised -/
/-- what a class must have to be called: its facts, its __init__ at fI -/
structure EMk (K : PySem.W.Frag) (C fI : Addr) : Prop extends EC K C where
  iC : PySem.W.findIn K (.ref C) "__init__" = some (some (.ref fI))
  tI : PySem.W.typeIn K (.ref fI) = some (.type "function")
/-- nothing but positions: n of them -/
theorem kbn_pos {K : PySem.W.Frag} {fd : FuncData} {ps : List Str} (hb : Binds K fd ps []) : KBn K fd ps ps.length [] (fun us _ => us) (fun vs _ => vs) :=
  ⟨fun s us ws X l1 l2 => by
    have e := hb s us X (by rw [List.append_nil]; exact l1)
    rw [List.append_nil] at e
    exact e, fun r _ => r⟩
section
variable {X : Cx} {CX : CXT} {pins : List (Addr × Obj)} {σ : L2.St} {H : Hp} {s : Shared} {C fI : Addr} {k n : Nat} {fd : FuncData} {ps ks : List Str} {sp : Sp} {vs zs : List V} {us ws : List Value} {g : List Value → List Value → List Value} {gV : List V → List V → List V}
/-- the call of the class: what is left behind its __init__ -/
theorem run_mkx {P : Value → Shared → Prop} {Q0 : VK} (T : EMk X.K C fI) (F1 : FnOk X.prog X.w X.K X.mg X.base CX k fI fd ps sp) (hr : Room (k + 1) X.A) (hb : KBn X.K fd ps (n + 1) ks g gV) (hx : Passes CX X E0)
    (I : Inv X pins σ H s) (r : Vals vs us) (rz : Vals zs ws) (l1 : vs.length = n) (l2 : zs.length = ks.length) (hn : n ≤ 1000)
    (hq : sp (gV (.ref (s.heap.objs.size + 1) :: vs) zs) (upd H (s.heap.objs.size + 1) (exo (s.heap.objs.size + 1) C none)) Q0 E0) (hv : ∀ v H2, Q0 v H2 → v = .non)
    (hP : ∀ s', Inv X pins σ (upd H (s.heap.objs.size + 1) (exo (s.heap.objs.size + 1) C none)) { s with heap := bornAt s.heap C us } →
      CE X.stack X.prog X.w (upd H (s.heap.objs.size + 1) (exo (s.heap.objs.size + 1) C none)) { s with heap := bornAt s.heap C us } Q0 .none s' → P (.ref (s.heap.objs.size + 1)) s') :
    wpAny (model X.prog X.w) X.A (call (.ref C) us (ks.zip ws)) P X.xe s := by
  obtain ⟨B, newId, ini, bmB, F, _⟩ := T.by_
  obtain ⟨nm, N, qn, bs, bm, hdct, sn, sub, ab, col, dd, k0, k1, k2, k3, k5, hC, hT⟩ := PySem.W.excInit_of I.kIn F.q1
  obtain ⟨hp, g0, d, t, os⟩ := s
  have I2 : Inv X pins σ (upd H (hp.objs.size + 1) (exo (hp.objs.size + 1) C none)) ⟨bornAt hp C us, g0, d, t, os⟩ :=
    I.laid (t' := t) (a := hp.objs.size + 1) (o := exo (hp.objs.size + 1) C none) (h' := bornAt hp C us) born_keep (Nat.le_succ _) (exo_ok born_at)
  have e1 : (Value.ref (hp.objs.size + 1) :: us).length = n + 1 := by
    rw [List.length_cons, ← r.length, l1]
  have e2 : ws.length = ks.length := rz.length.symm.trans l2
  have r0 : Vals (V.ref (hp.objs.size + 1) :: vs) (Value.ref (hp.objs.size + 1) :: us) := .cons rfl r
  have hus : us.length ≤ sizeLine := by
    rw [← r.length, l1, sizeLine_eq]
    exact Nat.le_trans hn (by decide)
  have run := F1.run _ X.stack _ _ ⟨Value.ref (hp.objs.size + 1) :: us, ks.zip ws⟩ (g (Value.ref (hp.objs.size + 1) :: us) ws) _ Q0 E0 (hr.make C us (ks.zip ws)) (I2.env0.make C us (ks.zip ws)) (hb.to _ _ ws I2.kIn e1 e2) (hb.rel r0 rz) hq
  refine wpAny_call (callK F.eb hT hC (PySem.W.looks_findIn I.kIn T.iC) (fun self => PySem.W.bind_fn I.kIn self T.tI) hus (codeAny_mono run fun r s' hq' => ?_))
  cases r with
  | error er => exact hx pins σ _ _ er s' I2 hq'
  | ok fl =>
    cases fl with
    | ret u =>
      obtain ⟨v, H2, q1, q2, q3, q4, rv, q5⟩ := id hq'
      obtain rfl := hv v H2 q5
      obtain rfl : u = Value.none := rv
      exact ⟨rfl, hP s' I2 hq'⟩
    | next => exact False.elim hq'
    | brk => exact False.elim hq'
    | cont => exact False.elim hq'
/-- the reading of C(..) as a value: a new record, then its __init__ -/
def tMkx (C : Addr) (n m : Nat) (sp : Sp) (gV : List V → List V → List V) (t tk : TA) : TE := fun σ H Q => t σ H fun vs H1 => tk σ H1 fun zs H2 => vs.length = n ∧ zs.length = m ∧
  ∀ a, H2 a = none → sp (gV (.ref a :: vs) zs) (upd H2 a (exo a C none)) (fun v H3 => v = .non ∧ Q (.ref a) H3) E0
theorem run_mkv {Q : VK} (T : EMk X.K C fI) (F1 : FnOk X.prog X.w X.K X.mg X.base CX k fI fd ps sp) (hr : Room (k + 1) X.A) (hb : KBn X.K fd ps (n + 1) ks g gV) (hx : Passes CX X E0) (hn : n ≤ 1000)
    (I : Inv X pins σ H s) (r : Vals vs us) (rz : Vals zs ws) (q : vs.length = n ∧ zs.length = ks.length ∧ ∀ a, H a = none → sp (gV (.ref a :: vs) zs) (upd H a (exo a C none)) (fun v H3 => v = .non ∧ Q (.ref a) H3) E0) :
    wpAny (model X.prog X.w) X.A (call (.ref C) us (ks.zip ws)) (EP X pins σ Q) X.xe s := by
  obtain ⟨l1, l2, q⟩ := q
  refine run_mkx T F1 hr hb hx I r rz l1 l2 hn (q _ (I.hok.fresh (Nat.le_succ _))) (fun v H2 z => z.1) fun s' I2 ce => ?_
  obtain ⟨v, H3, J, _, _, q3⟩ := I2.after ce
  exact ⟨V.ref _, H3, J, rfl, q3⟩
variable {x : Str} {p pos : Pos} {e : Expr} {es : List Expr} {kws : List Keyword} {t tk : TA}
theorem pe_mkxN (T : EMk X.K C fI) (F1 : FnOk X.prog X.w X.K X.mg X.base CX k fI fd ps sp) (hr : Room (k + 1) X.A) (hg : Gl X x) (hm : X.mg x = some (.ref C)) (hb : KBn X.K fd ps (n + 1) ks g gV) (hx : Passes CX X E0) (hn : n ≤ 1000)
    (ha : PA X (e :: es) t) (hkw : PK X kws tk) (hall : (backToKw pos (keywordEach kws X.env)).all (·.1.isSome) = true := by rfl) (hks : (backToKw pos (keywordEach kws X.env)).filterMap (·.1) = ks := by rfl)
    (hdb : (x == ("__debug__" : Str)) = false := by decide) (he : starEach (e :: es) X.env = (false, eval e X.env) :: starEach es X.env := by rfl)
    (hpl : ((backTo pos (starEach (e :: es) X.env)).any (·.1) || (backToKw pos (keywordEach kws X.env)).any (·.1.isNone)) = false := by rfl) :
    PE X (.Call (.Name x p) (e :: es) kws pos) (tMkx C n ks.length sp gV t tk) := by
  refine ⟨fun pins s σ H Q I h => wpAny_Call_Name_kw (ld_glob I hg hm ?_ hdb)⟩
  refine PySem.W.callWith_KW (h₀ := X.base) I.ok.mod.kin T.kp hall (thn (ha.run pos pins s σ H _ I h) fun us s1 ⟨vs, H1, I1, r, q⟩ => ?_) hpl he
  refine thn (hkw.run pos pins s1 σ H1 _ I1 q) fun ws s2 ⟨zs, H2, I2, rz, q2⟩ => ⟨I2.kIn, ?_⟩
  rw [hks]
  exact run_mkv T F1 hr hb hx hn I2 r rz q2
theorem pe_mkxK (T : EMk X.K C fI) (F1 : FnOk X.prog X.w X.K X.mg X.base CX k fI fd ps sp) (hr : Room (k + 1) X.A) (hg : Gl X x) (hm : X.mg x = some (.ref C)) (hb : KBn X.K fd ps (0 + 1) ks g gV) (hx : Passes CX X E0)
    (hkw : PK X kws tk) (hall : (backToKw pos (keywordEach kws X.env)).all (·.1.isSome) = true := by rfl) (hks : (backToKw pos (keywordEach kws X.env)).filterMap (·.1) = ks := by rfl)
    (hdb : (x == ("__debug__" : Str)) = false := by decide)
    (hpl : ((backTo pos (starEach [] X.env)).any (·.1) || (backToKw pos (keywordEach kws X.env)).any (·.1.isNone)) = false := by rfl) :
    PE X (.Call (.Name x p) [] kws pos) (tMkx C 0 ks.length sp gV tNil tk) := by
  refine ⟨fun pins s σ H Q I h => wpAny_Call_Name_kw (ld_glob I hg hm ?_ hdb)⟩
  refine PySem.W.callWith_KW0 (first := []) (h₀ := X.base) I.ok.mod.kin T.kp hall ?_ hpl
  refine thn (hkw.run pos pins s σ H _ I h) fun ws s2 ⟨zs, H2, I2, rz, q2⟩ => ⟨I2.kIn, ?_⟩
  rw [hks]
  exact run_mkv (vs := []) (us := []) T F1 hr hb hx (Nat.zero_le _) I2 .nil rz q2
/-- C(e, ..), raised: the record is let go -/
def tMkr (C : Addr) (n : Nat) (sp : Sp) (t : TA) : L2.St → Hp → XK → Prop := fun σ H Q => t σ H fun vs H1 => vs.length = n ∧ ∀ a, H1 a = none → sp (.ref a :: vs) (upd H1 a (exo a C none))
  (fun v H2 => v = .non ∧ ∃ (d : Addr) (fs : List (Str × V)), H2 a = some (exo a C (some d)) ∧ H2 d = some (exd d fs) ∧ H1 d = none ∧ Q (.ref C) (some d) (upd (L2.del H2 a) d (.xd fs))) E0
theorem run_mkr {Q : XK} (T : EMk X.K C fI) (F1 : FnOk X.prog X.w X.K X.mg X.base CX k fI fd ps sp) (hr : Room (k + 1) X.A) (hb : Binds X.K fd ps []) (hp : ps.length = n + 1) (hx : Passes CX X E0) (hn : n ≤ 1000)
    (I : Inv X pins σ H s) (r : Vals vs us) (q : vs.length = n ∧ ∀ a, H a = none → sp (.ref a :: vs) (upd H a (exo a C none))
      (fun v H2 => v = .non ∧ ∃ (d : Addr) (fs : List (Str × V)), H2 a = some (exo a C (some d)) ∧ H2 d = some (exd d fs) ∧ H d = none ∧ Q (.ref C) (some d) (upd (L2.del H2 a) d (.xd fs))) E0) :
    wpAny (model X.prog X.w) X.A (call (.ref C) us) (MkP X pins σ Q) X.xe s := by
  obtain ⟨l1, q⟩ := q
  have hb' := kbn_pos hb
  rw [hp] at hb'
  refine run_mkx (zs := []) (ws := []) T F1 hr hb' hx I r .nil l1 rfl hn (q _ (I.hok.fresh (Nat.le_succ _))) (fun v H2 z => z.1) fun s' I2 ce => ?_
  obtain ⟨hp', g0, d0, t0, os⟩ := s
  obtain ⟨v, H2, os2, bare2, un2, hok2, rv, ev, d, fs, ea, ed, hd1, q2⟩ := ce
  obtain ⟨h2, g2, d2, t2, os'⟩ := s'
  exact mk_end (raises_own T.ex T.ty) I (Nat.le_succ _) born_keep un2 hok2 os2 bare2 ea ed hd1 q2
theorem pmk_x (T : EMk X.K C fI) (F1 : FnOk X.prog X.w X.K X.mg X.base CX k fI fd ps sp) (hr : Room (k + 1) X.A) (hg : Gl X x) (hm : X.mg x = some (.ref C)) (hb : Binds X.K fd ps []) (hp : ps.length = n + 1) (hx : Passes CX X E0) (hn : n ≤ 1000)
    (ha : PA X (e :: es) t) (hdb : (x == ("__debug__" : Str)) = false := by decide) (he : starEach (e :: es) X.env = (false, eval e X.env) :: starEach es X.env := by rfl) (hpl : (backTo pos (starEach es X.env)).any (·.1) = false := by rfl) :
    PMk X (.Call (.Name x p) (e :: es) [] pos) (tMkr C n sp t) := fun pins s σ H Q I h => by
  refine wpAny_Call_Name_kw (ld_glob I hg hm ?_ hdb)
  exact PySem.W.callWith_K (h₀ := X.base) I.ok.mod.kin T.kp (thn (ha.run pos pins s σ H _ I h) fun us s1 ⟨vs, H1, I1, r1, q1⟩ => ⟨I1.kIn, run_mkr T F1 hr hb hp hx hn I1 r1 q1⟩) he hpl
theorem pmk_x0 (T : EMk X.K C fI) (F1 : FnOk X.prog X.w X.K X.mg X.base CX k fI fd ps sp) (hr : Room (k + 1) X.A) (hg : Gl X x) (hm : X.mg x = some (.ref C)) (hb : Binds X.K fd ps []) (hp : ps.length = 0 + 1) (hx : Passes CX X E0)
    (hdb : (x == ("__debug__" : Str)) = false := by decide) : PMk X (.Call (.Name x p) [] [] pos) (tMkr C 0 sp tNil) := fun pins s σ H Q I h => by
  refine wpAny_Call_Name_kw (ld_glob I hg hm ?_ hdb)
  exact PySem.W.callWith_K0 (first := []) I.kIn T.kp (run_mkr (us := []) (vs := []) T F1 hr hb hp hx (Nat.zero_le _) I .nil h)
/-- C() as a value -/
theorem pe_mkx0 (T : EMk X.K C fI) (F1 : FnOk X.prog X.w X.K X.mg X.base CX k fI fd ps sp) (hr : Room (k + 1) X.A) (hg : Gl X x) (hm : X.mg x = some (.ref C)) (hb : KBn X.K fd ps (0 + 1) [] g gV) (hx : Passes CX X E0)
    (hdb : (x == ("__debug__" : Str)) = false := by decide) : PE X (.Call (.Name x p) [] [] pos) (tMkx C 0 0 sp gV tNil tNil) := by
  refine ⟨fun pins s σ H Q I h => wpAny_Call_Name_kw (ld_glob I hg hm ?_ hdb)⟩
  exact PySem.W.callWith_K0 (first := []) I.kIn T.kp (run_mkv (us := []) (vs := []) (zs := []) (ws := []) T F1 hr hb hx (Nat.zero_le _) I .nil .nil h)
end
end Fb

set_option Elab.async false
set_option linter.all false
set_option maxRecDepth 100000
set_option maxHeartbeats 4000000
namespace Fb
open PySem PySem.Spec PyProof.Rows L2 Builtin.ObjectAttr
/-! ### def __init__(self, ..): super().__init__(e); .. -/
/-- the bound base's __init__ is called: the args are laid anew -/
theorem bw_call {prog : Program} {w : World} {A : Around} {E : Value → Shared → Prop} {h : Heap} {g : Array GenState} {d : Drawn} {t : Nat} {os : OsState} {K : PySem.W.Frag} {C a u t0 : Addr} {B newId ini : String} {bmB : List Value} {us : List Value} {Q : Value → Shared → Prop}
    (F : EB K C B newId ini bmB) (X : K.In h) (he : h.get? a = some (eo C t0 none)) (hu : h.get? u = some (PySem.W.kxs_mw ini a)) (hz : us.length ≤ sizeLine)
    (hq : ∀ h' t1, (∀ b o, b ≠ a → h.get? b = some o → h'.get? b = some o) → h'.get? a = some (eo C t1 none) → Q .none ⟨h', g, d, t, os⟩) : wpAny (model prog w) A (call (.ref u) us) Q E ⟨h, g, d, t, os⟩ := by
  obtain ⟨nm, N, qn, bs, bm, hdct, sn, sub, ab, col, dd, k0, k1, k2, k3, k5, hC, hT⟩ := PySem.W.excInit_of X F.q1
  refine wpAny_call (codeAny_of_tree ?_)
  show wpAny _ A.in1 (callAny (.ref u) ⟨us, []⟩) _ _ _
  simp only [callAny]
  refine wpAny_bind (wpAny_load hu ?_)
  have c1 : (Value.type "method-wrapper" == Value.type "method" || Value.type "method-wrapper" == Value.type "builtin_function_or_method" || Value.type "method-wrapper" == Value.type "method-wrapper") = true := by decide
  simp only [PySem.W.kxs_mw, c1, if_true]
  refine PySem.W.KFB.if_so (by decide) (wpAny_bind (PySem.W.check_bound_init F.eb.toExcCallFacts hC he rfl ?_))
  refine wpAny_bind (wpAny_pure (wpAny_pure ⟨plainId_quiet F.eb.init.plain _, codeAny_builtin F.eb.initEntry ?_⟩))
  exact PySem.W.exc_init_tree (cls := .ref C) (t0 := t0) (dv := none) (c2 := .none) (c3 := .none) (b4 := .bool false) he hz fun h' k e1 _ => hq h' _ k e1

/-- what the written part says of such an __init__: its code object, the cell of its class -/
structure SupIn (P : Program) (K : PySem.W.Frag) (C cc : Addr) (F : NdefX.NF) : Prop where
  cd : PySem.W.codeIn K (.ref F.c) F.qual = true
  fl : F.cl = [(("__class__" : Str), cc)]
  co : ∃ (ccl : Value) (cdd : Option Addr) (vs : Array Value) (ccs : Array (Option Value)) (file : Str) (tf : Tok), K.lookup F.c = some ⟨ccl, cdd, .fields vs, ccs⟩ ∧ vs[2]? = some (.str file tf) ∧ ((P.main.file : Str) == file) = true
  ce : ∃ (cl : Value) (cld : Option Addr) (csl : Array (Option Value)), K.lookup cc = some ⟨cl, cld, .cell (some (.ref C)), csl⟩
  se : PySem.W.mroIn K C (.ref C) = some true
  tp : (P.main.scope.names.lookup ("super" : Str)).isSome = false

/-- the context of the body -/
abbrev icx (P : Program) (w : World) (K : PySem.W.Frag) (mg : Str → Option Value) (base : Heap) (N : List Str) (F : NdefX.NF) (f : Addr) (A : Around) (outer : List Env) (s : Shared) (H : Hp) (E : XK) : Cx := NdefX.ncx CX0 P w K mg base N F f A outer s H E
section
variable {P : Program} {w : World} {K : PySem.W.Frag} {mg : Str → Option Value} {base : Heap} {N ps : List Str} {F : NdefX.NF} {C fI cc : Addr} {k : Nat} {sp : Sp}
theorem super_def {e0 : Expr} {rest : List Stmt} {p0 p1 p2 p3 p4 : Pos} {ar : Arg} {oc doc pm ct : Value} {pl : Addr → Sem Bool} {od an : Option Addr} {osl : Array (Option Value)} (T : EC K C) (S : SupIn P K C cc F) (sc : NdefX.NScope N ps ["__class__"] F.scope) (hp1 : ps[0]? = some ar.arg)
    (lk : K.lookup fI = some ⟨oc, od, .func (PySem.W.fnX F.name F.qual F.params F.body F.scope F.cl .none .none doc pm an (.ref F.c) ct), osl⟩)
    (hb0 : F.body = .Expr (.Call (.Attribute (.Call (.Name "super" p0) [] [] p1) "__init__" p2) [e0] [] p3) p4 :: rest) (har : (F.params.posonlyargs ++ F.params.args).head? = some ar)
    (hks : F.scope.names.lookup ("super" : Str) = some .globalImplicit) (hms : mg "super" = none) (len : ∀ vs H Q E, sp vs H Q E → vs.length = ps.length)
    (hbody : ∀ (A : Around) (outer : List Env) (s : Shared) (H : Hp) (vs : List V) (Q : VK) (E : XK), Room k (A.deeper (NdefX.envF F fI s.heap.objs.size)) → sp vs H Q E →
      ∃ (a : Addr) (ta : TA) (t : TS), vs[0]? = some (.ref a) ∧ H a = some (exo a C none) ∧ PA (icx P w K mg base N F fI A outer s H E) [e0] ta ∧ PSs (icx P w K mg base N F fI A outer s H E) rest t ∧
        ta (NdefX.startF N vs [none]) H fun ws H1 => ws.length ≤ 1000 ∧ H1 a = some (exo a C none) ∧ t { nx := fun _ H' => Q .non H', rt := Q } (NdefX.startF N vs [none]) H1)
    (hsw : ∀ (L : Addr), swapsWith (.Call (.Attribute (.Call (.Name "super" p0) [] [] p1) "__init__" p2) [e0] [] p3) none p4.line (NdefX.envF F fI L) = pure false := by intro _; rfl)
    (hev : ∀ (L : Addr), eval (.Call (.Attribute (.Call (.Name "super" p0) [] [] p1) "__init__" p2) [e0] [] p3) (NdefX.envF F fI L) = (do
      let ov ← attributeBase (.Call (.Name "super" p0) [] [] p1) "__init__" (NdefX.envF F fI L) (eval (.Call (.Name "super" p0) [] [] p1) (NdefX.envF F fI L))
      standAt p2.atName
      let (f, first) ← holding [ov] (getMethod ov "__init__" (pl L))
      callWith p3 f first (backTo p3 (starEach [e0] (NdefX.envF F fI L))) []) := by intro _; rfl)
    (hst : ∀ (L : Addr), starEach [e0] (NdefX.envF F fI L) = (false, eval e0 (NdefX.envF F fI L)) :: starEach [] (NdefX.envF F fI L) := by intro _; rfl) :
    FnOk P w K mg base CX0 (k + 1) fI (PySem.W.fnX F.name F.qual F.params F.body F.scope F.cl .none .none doc pm an (.ref F.c) ct) ps sp := by
  refine ⟨len, fun A outer s H args us vs Q E hr e1 hb r hsp => ?_⟩
  have hl := len _ _ _ _ hsp
  have KX : K.In s.heap := e1.mod.kin.keeps fun b o e => (e1.bs b o e).1
  have lim : s.heap.NoLimit := e1.mod.nolimit.keeps fun b o e => (e1.bs b o e).1
  refine ks_codeAny_call_defAt (body := F.body) (binds := ps.zip us) hr.depth (KX _ _ lk) rfl lim (PySem.W.codeRec_of KX S.cd) rfl hb sc.nocell (fun ⟨n, _⟩ hy => sc.par n (List.of_mem_zip hy).1) (fun h₁ hns kp => ?_) sc.co sc.gen sc.kind
  have hsz : s.heap.objs.size ≤ s.heap.objs.size := Nat.le_refl _
  obtain ⟨cl, cld, csl, hce⟩ := S.ce
  obtain ⟨ccl, cdd, cvs, ccs, file, tf, hco, hv2, hfile⟩ := S.co
  have CA : NdefX.CellsAt F.cl ["__class__"] [none] s.heap H := by
    have hcc : s.heap.IsCell cc (some (.ref C)) := ⟨_, KX _ _ hce, rfl⟩
    have free : H cc = none := (e1.bs cc _ (e1.mod.kin _ _ hce)).2
    have one : ∀ {y c}, F.cl.lookup y = some c → c = cc ∧ y = "__class__" := fun {y c} h => by
      rw [S.fl] at h
      by_cases hy : y = ("__class__" : Str)
      · subst hy
        exact ⟨(Option.some.inj (h.symm.trans (by simp [List.lookup]))), rfl⟩
      · have e : (y == ("__class__" : Str)) = false := by simpa using hy
        simp [List.lookup, e] at h
    refine ⟨rfl, fun y c h => ?_, fun x y c h1 h2 => (one h1).2.trans (one h2).2.symm, fun i y hi => ?_⟩
    · obtain ⟨rfl, _⟩ := one h
      exact ⟨free, _, hcc⟩
    · have hi0 : i = 0 ∧ y = "__class__" := by
        cases i with
        | zero => exact ⟨rfl, (Option.some.inj hi).symm⟩
        | succ i => simp at hi
      refine ⟨cc, ?_, fun v hv => ?_⟩
      · rw [hi0.2, S.fl]
        simp [List.lookup]
      · rw [hi0.1] at hv
        cases hv
  obtain ⟨a, ta, t, hva, hHa, hpa, hps, hrd⟩ := hbody A outer s H vs Q E (hr.deeper _) hsp
  have I : Inv (icx P w K mg base N F fI A outer s H E) [] (NdefX.startF N vs [none]) H { s with heap := h₁, toks := s.toks + (ps.zip us).length } := NdefX.inv_startN sc hr.hd e1 hl r CA hns kp
  have kX : K.In h₁ := KX.keeps kp
  have ipar : ar.arg ∈ ps := List.mem_of_getElem? hp1
  have kself : F.scope.names.lookup ar.arg = some .local := sc.par _ ipar
  obtain ⟨ua, hua, rua⟩ := r.get hva
  obtain rfl : ua = Value.ref a := rua
  have ndp : ps.Nodup := by
    have e2 : (ps ++ [("__class__" : Str)]).Nodup := by
      rw [← sc.pre]
      exact sc.nd.sublist (List.take_sublist _ _)
    exact (List.nodup_append.mp e2).1
  have hself := NdefX.zip_look ndp hp1 hua
  have kcls : F.scope.names.lookup ("__class__" : Str) = some .free := sc.frk _ (by simp)
  show PySem.wpAt _ _ (.func F.body (NdefX.envF F fI s.heap.objs.size)) (execs F.body (NdefX.envF F fI s.heap.objs.size)) _ _ _
  obtain ⟨cd, hcd, hdd⟩ := PySem.W.any_some T.hd
  obtain ⟨oD, hD1, hD2⟩ : ∃ oD, h₁.get? C = some oD ∧ oD.data = .cls cd := by
    have hcd' := hcd
    unfold PySem.W.clsIn at hcd'
    split at hcd'
    · rename_i c d cd' sl ho
      cases hcd'
      exact ⟨_, kX _ _ ho, rfl⟩
    · cases hcd'
  obtain ⟨t1, ho⟩ := exo_at I.hok hHa
  have J : PySem.W.InstAt h₁ a (eo C t1 none) C none := ⟨ho, rfl, rfl, trivial⟩
  obtain ⟨mb, hmb, hbl⟩ := e1.mod.blt
  have eb := hb0
  have glo : h₁.Ns mainGlobals mg := e1.mod.glob.keeps fun b o e => kp _ _ (e1.bs b o e).1
  have blo : h₁.Ns builtinsNs mb := hmb.keeps fun b o e => kp _ _ (e1.bs b o e).1
  generalize eBody : F.body = BODY at eb
  subst eb
  refine ks_wpAt_execs_cons (ks_wpAt_Expr_any (ks_wpAt_MethodCall ?_ (hev _)) I.quiet (hsw _))
  refine ks_wpAt_super_base (env := NdefX.envF F fI s.heap.objs.size) hks kcls rfl rfl (kX _ _ lk) rfl har rfl (kX _ _ hco) rfl hv2 hfile S.tp ?_
  refine PySem.W.ks_loadName_global sc.kind hks (PySem.Calls.loadGlobal_builtin (env := NdefX.envF F fI s.heap.objs.size) glo hms blo ((hbl _ (by decide +kernel)).trans (show bootBuiltins "super" = some (.type "super") by decide +kernel)) ⟨rfl, ?_⟩)
  refine wpAny_loadName_free sc.kind kcls (show F.cl.lookup ("__class__" : Str) = some cc by rw [S.fl]; simp [List.lookup]) ⟨_, kX _ _ hce, rfl⟩ ?_
  refine wpAny_loadName_local sc.kind kself hns hself ?_
  refine ks_wpAny_isType_cls hD1 hD2 ⟨rfl, ?_⟩
  refine ks_wpAny_call_super hD1 hD2 J.at_ J.cls (fun c e => by cases e) (PySem.W.looks_mroIn kX S.se) (fun h2 e2 k2 => ?_)
  have I2 : Inv (icx P w K mg base N F fI A outer s H E) [] (NdefX.startF N vs [none]) H { s with heap := h2, toks := s.toks + (ps.zip us).length } := I.kept k2
  have J2 : PySem.W.InstAt h2 a (eo C t1 none) C none := ⟨k2 _ _ ho, rfl, rfl, trivial⟩
  obtain ⟨B, newId, ini, bmB, EF, hsup⟩ := T.by_
  have hsup2 : PySem.W.alongIn K "__init__" ((cd.mro.dropWhile (· != .ref C)).drop 1) = some (some (.builtin ini)) := by
    unfold PySem.W.ks_superIn at hsup
    rw [hcd] at hsup
    exact hsup
  have hmro : PySem.W.Looks (model P w) h2 (mroOf (.ref C)) cd.mro := fun A Q E s k q => wpAny_bind ((PySem.W.looks_clsIn (kX.keeps k2) hcd) A _ E s k (wpAny_pure q))
  refine PySem.W.kxs_getMethod EF.kx e2 (PySem.W.looks_opaque (kX.keeps k2) T.th) hmro rfl (kX.keeps k2) hsup2 (J2.type.andThen (PySem.W.looks_subIn (kX.keeps k2) EF.sB)) (PySem.W.ks_ne (kX.keeps k2) J2 hcd) (by decide) ?_
  -- the wrapper stands from now on
  generalize eh3 : h2.push (PySem.W.kxs_mw ini a) = h3
  have k3 : ∀ b o, h2.get? b = some o → h3.get? b = some o := fun b o e => by
    rw [← eh3]
    exact Heap.get?_push_of_some _ e
  have hu3 : h3.get? h2.objs.size = some (PySem.W.kxs_mw ini a) := by
    rw [← eh3]
    exact Heap.get?_push_at rfl rfl
  have I3 : Inv (icx P w K mg base N F fI A outer s H E) [] (NdefX.startF N vs [none]) H { s with heap := h3, toks := s.toks + (ps.zip us).length + 1 } := I2.kept k3
  have I3p : Inv (icx P w K mg base N F fI A outer s H E) [(h2.objs.size, PySem.W.kxs_mw ini a)] (NdefX.startF N vs [none]) H { s with heap := h3, toks := s.toks + (ps.zip us).length + 1 } :=
    I3.pins_of fun p hp => by
      have ep : p = (h2.objs.size, PySem.W.kxs_mw ini a) := by simpa using hp
      subst ep
      exact ⟨hu3, I2.hok.fresh (Nat.le_refl _), Nat.ne_of_gt I2.lt, I2.nofs (Nat.le_refl _), fun v z => by cases z⟩
  show wpAny _ _ (callWith p3 (.ref h2.objs.size) [] (backTo p3 (starEach [e0] (NdefX.envF F fI s.heap.objs.size))) []) _ _ _
  have run := hpa.run p3 _ _ _ _ _ I3p hrd
  have run := run
  have hX : (icx P w K mg base N F fI A outer s H E).env = NdefX.envF F fI s.heap.objs.size := rfl
  rw [hX, hst] at run
  rw [hst]
  refine PySem.W.kxs_callWith (i := ini) (x := a) rfl (PySem.Calls.evalArgs_plain (wpAny_mono run (fun us4 s4 hh => ?_) fun _ _ z => z))
  obtain ⟨ws4, H1, I4, r4, hw4, hHa1, hq⟩ := hh
  have hu4 := (I4.pin (h2.objs.size, PySem.W.kxs_mw ini a) (by simp)).1
  refine ⟨hu4, ?_⟩
  obtain ⟨t4, ho4⟩ := exo_at I4.hok hHa1
  have hz4 : us4.length ≤ sizeLine := by
    rw [← r4.length]
    exact Nat.le_trans hw4 (by decide)
  have I4' : Inv (icx P w K mg base N F fI A outer s H E) [] (NdefX.startF N vs [none]) H1 s4 := I4.pins_of fun p hp => by simp at hp
  obtain ⟨hp4, g4, d4, k4, o4⟩ := s4
  refine bw_call EF I4.kIn ho4 hu4 hz4 fun h5 t5 k5 e5 => ?_
  have I5 : Inv (icx P w K mg base N F fI A outer s H E) [] (NdefX.startF N vs [none]) H1 ⟨h5, g4, d4, k4, o4⟩ := by
    have q := I4'.write (t' := k4) (x := a) (e := a) (o := exo a C none) (by rw [hHa1]; exact True.intro) (.inl rfl) k5 ⟨_, e5⟩ (exo_ok e5)
    have e : upd H1 a (exo a C none) = H1 := by
      funext b
      by_cases hb : b = a
      · rw [hb, upd_same, hHa1]
      · rw [upd_ne hb]
    rw [e] at q
    exact q
  refine PySem.wpAt_of_wpAny (wpAny_mono (hps.run [] _ _ H1 _ I5 hq) (fun fl s' hs => ?_) fun e s' hs => hs)
  have fin : ∀ {σ' : L2.St} {H' : Hp} {v : V} {u : Value}, Inv (icx P w K mg base N F fI A outer s H E) [] σ' H' s' → L2.RelV v u → Q v H' → CE outer P w H s Q u s' := fun J rv q => ⟨_, _, J.os, J.bare, J.base, J.hok, rv, q⟩
  cases fl with
  | ret u =>
    obtain ⟨v, σ', H', J, rv, q⟩ := hs
    exact fin J rv q
  | next =>
    obtain ⟨σ', H', J, q⟩ := hs
    exact fin (v := V.non) (u := Value.none) J rfl q
  | brk =>
    obtain ⟨_, _, _, q⟩ := hs
    exact q.elim
  | cont =>
    obtain ⟨_, _, _, q⟩ := hs
    exact q.elim
end
end Fb

set_option Elab.async false
set_option linter.all false
set_option maxRecDepth 100000
set_option maxHeartbeats 4000000
namespace Fb
open PySem PySem.Spec PyProof.Rows L2
/-! ### an exception object that is tracked: its fields, its class -/
/-- at e stands just the record oe -/
def exk (e : Addr) (oe : Obj) : HO := .ext fun h => h.get? e = some oe
def ExAt (H : Hp) (e C d : Addr) : Prop := H e = some (exo e C (some d)) ∨ ∃ oe vs, H e = some (exk e oe) ∧ oe.cls = .ref C ∧ oe.dict = some d ∧ oe.data = .fields vs
def XdAt (H : Hp) (d : Addr) (fs : List (Str × V)) : Prop := H d = some (.xd fs) ∨ H d = some (exd d fs)
/-- the exception at e: of the class at C, with the fields fs -/
def Err (H : Hp) (e C : Addr) (fs : List (Str × V)) : Prop := ∃ d, ExAt H e C d ∧ XdAt H d fs
theorem Err.same {H H' : Hp} {e C : Addr} {fs : List (Str × V)} (x : Err H e C fs) (s : Same H H') : Err H' e C fs := by
  obtain ⟨d, x1, x2⟩ := x
  refine ⟨d, x1.imp (fun z => s _ _ z) fun ⟨oe, vs, z, r⟩ => ⟨oe, vs, s _ _ z, r⟩, x2.imp (fun z => s _ _ z) fun z => s _ _ z⟩
/-- the same where one other address is forgotten -/
theorem Err.inst {P : Program} {w : World} {H : Hp} {h : Heap} {e C : Addr} {fs : List (Str × V)} (hok : HOk P w H h) (x : Err H e C fs) :
    ∃ (oe od : Obj) (mA : Str → Option Value), PySem.W.InstAt h e oe C (some od) ∧ (∀ name, PySem.W.lookIn name od = some (mA name)) ∧ ∀ f, RelO (fs.lookup f) (mA f) := by
  obtain ⟨d, x1, x2⟩ := x
  have y2 : ∃ mA, h.Ns1 d mA ∧ ∀ f, RelO (fs.lookup f) (mA f) := by
    rcases x2 with z | z
    · exact hok d _ z
    · exact exd_at hok z
  obtain ⟨mA, hns, rel⟩ := y2
  obtain ⟨od, hod, hl⟩ := lookIn_ns hns
  have y1 : ∃ oe vs, h.get? e = some oe ∧ oe.cls = .ref C ∧ oe.dict = some d ∧ oe.data = .fields vs := by
    rcases x1 with z | ⟨oe, vs, z, r⟩
    · obtain ⟨t1, ho⟩ := exo_at hok z
      exact ⟨_, _, ho, rfl, rfl, rfl⟩
    · have y : ObjOk P w H h e (.ext fun h => h.get? e = some oe) := hok e _ z
      exact ⟨oe, vs, y.1, r⟩
  obtain ⟨oe, vs, he, c1, c2, c3⟩ := y1
  refine ⟨oe, od, mA, ⟨he, c1, ?_, ?_⟩, hl, rel⟩
  · unfold PySem.W.notCls
    rw [c3] <;> rfl
  · rw [c2]
    exact hod
/-- e.f -/
def tEf (K : PySem.W.Frag) (n : Str) (te : TE) : TE := fun σ H Q => te σ H fun x H1 => ∃ (a C : Addr) (fs : List (Str × V)) (v : V), x = .ref a ∧ Err H1 a C fs ∧ EC K C ∧ PySem.W.findIn K (.ref C) n = some none ∧ fs.lookup n = some v ∧ Q v H1
theorem pe_ef {X : Cx} {e : Expr} {te : TE} {pos : Pos} {n : Str} (he : PE X e te) (hb : attributeBase e n X.env (eval e X.env) = eval e X.env := by rfl) : PE X (.Attribute e n pos) (tEf X.K n te) := by
  refine ⟨fun pins s σ H Q I h => attr_of hb (thn (he.run pins s σ H _ I h) fun u s1 hh => ?_)⟩
  obtain ⟨x, H1, I1, rx, a, C, fs, v, ex, er, T, hno, l, q⟩ := hh
  subst ex
  obtain rfl : u = Value.ref a := rx
  obtain ⟨oe, od, mA, J, hl, hr⟩ := er.inst I1.hok
  obtain ⟨u, hu, ru⟩ := RelO.some_of (v := v) (o := mA n) (by rw [← l]; exact hr n)
  exact HandSPX.exc_get I1.kIn J T.ga T.gg T.ex (PySem.W.findObj_own T.hd hno rfl (by rw [hl, hu])) (handed_of ru) ⟨v, H1, I1.tok _, ru, q⟩
/-- what isinstance asks of the class besides -/
structure EIs (K : PySem.W.Frag) (C : Addr) : Prop where
  ha : PySem.W.findIn K (.ref C) "__class__" = some (some (.builtin "object.__class__"))
  hn : PySem.W.specialIn K (.builtin "object.__class__") "__get__" = some (some (.builtin "getset_descriptor.__get__"))
  ht : PySem.W.takesIn K (.builtin "object.__class__") = some true
  hm : PySem.W.mroIn K C (.type "object") = some true
/-- isinstance(e, c) -/
def rIsX (K : PySem.W.Frag) : List V → Hp → VK → Prop := fun xs H Q => ∃ (a C : Addr) (fs : List (Str × V)) (c : V) (cv : Value) (b : Bool), xs = [.ref a, c] ∧ Err H a C fs ∧ EC K C ∧ EIs K C ∧ (∀ u, RelV c u → u = cv) ∧ PySem.W.kitOne K (.ref C) cv = some b ∧ Q (.bl b) H
theorem call_isx {X : Cx} : CallR X (.builtin "isinstance") (rIsX X.K) := by
  intro pins s σ H xs us Q I r h
  obtain ⟨a, C, fs, c, cv, b, rfl, er, T, T2, hcv, e, q⟩ := h
  cases r with
  | cons rx rr =>
    cases rr with
    | cons rt rr =>
      cases rr
      cases rx
      have ec := hcv _ rt
      subst ec
      obtain ⟨oe, od, mA, J, _, _⟩ := er.inst I.hok
      exact PySem.W.kia_one (PySem.W.kitx_exc (gt := none) T.cl T.ga T.gg T.ex T2.ha T2.hn T2.ht T2.hm) I.kIn J e (fun z => nomatch z) fun tk => ⟨.bl b, H, I.tok tk, rfl, q⟩
end Fb

set_option Elab.async false
set_option linter.all false
set_option maxRecDepth 100000
set_option maxHeartbeats 4000000
namespace Fb
open PySem PySem.Spec PyProof.Rows L2
/-! ### defs that may be called where an exception is handled -/
abbrev RoomH := L2H.RoomH
theorem RoomH.of {k : Nat} {A : Around} (r : Room k A) : RoomH k A := L2H.roomH_of r
theorem RoomH.marked {k : Nat} {A : Around} {e : Option Value} (r : RoomH k A) : RoomH k (A.mark e) := ⟨r.dp, r.un⟩
/-- such a def's promise -/
structure FnW (P : Program) (w : World) (K : PySem.W.Frag) (mg : Str → Option Value) (base : Heap) (CX : CXT) (k : Nat) (f : Addr) (fd : FuncData) (ps : List Str) (sp : Sp) : Prop where
  len : ∀ vs H Q E, sp vs H Q E → vs.length = ps.length
  run : ∀ (A : Around) (outer : List Env) (s : Shared) (H : Hp) (args : Args) (us : List Value) (vs : List V) (Q : VK) (E : XK), RoomH k A → Env0 P w K mg base A outer s H → BindsTo s fd args (ps.zip us) → Vals vs us → sp vs H Q E →
    codeAny (model P w) A (.call (.ref f) args) (CR CX outer P w H s Q E) s
theorem FnW.ok {P : Program} {w : World} {K : PySem.W.Frag} {mg : Str → Option Value} {base : Heap} {CX : CXT} {k : Nat} {f : Addr} {fd : FuncData} {ps : List Str} {sp : Sp} (F : FnW P w K mg base CX k f fd ps sp) : FnOk P w K mg base CX k f fd ps sp :=
  ⟨F.len, fun A outer s H args us vs Q E hr e0 hb r h => F.run A outer s H args us vs Q E (RoomH.of hr) e0 hb r h⟩
theorem FnW.mono {P : Program} {w : World} {K : PySem.W.Frag} {mg : Str → Option Value} {base : Heap} {CX : CXT} {j k : Nat} {f : Addr} {fd : FuncData} {ps : List Str} {sp : Sp} (F : FnW P w K mg base CX j f fd ps sp) (h : j ≤ k) : FnW P w K mg base CX k f fd ps sp :=
  ⟨F.len, fun A outer s H args us vs Q E hr e0 hb r q => F.run A outer s H args us vs Q E (L2H.RoomH.mono hr h) e0 hb r q⟩
/-- the context of such a body -/
def cxW (CX : CXT) (P : Program) (w : World) (K : PySem.W.Frag) (mg : Str → Option Value) (base : Heap) (N : List Str) (qual : Str) (scope : Scope) (f : Addr) (cd : Value) (A : Around) (outer : List Env) (s : Shared) (H : Hp) (E : XK) : Cx :=
  { cxOf CX P w K mg base N qual scope f cd A outer s H E with calm := false }
theorem Inv.cool {X : Cx} {pins : List (Addr × Obj)} {σ : L2.St} {H : Hp} {s : Shared} {A : Around} {xe : Value → Shared → Prop} (I : Inv X pins σ H s) (hA : A.frames = X.A.frames) : Inv { X with A := A, calm := false, xe := xe } pins σ H s :=
  ⟨⟨I.ok.mod, I.ok.kind, I.ok.glob, I.ok.blt, I.ok.above, I.ok.inj, I.ok.has, I.ok.cab, (fun z => by cases z), hA.trans I.ok.frames, I.ok.stk, I.ok.exf, I.ok.bs, I.ok.bsz, I.ok.noex, I.ok.exfs, I.ok.funs, I.ok.frf⟩,
    I.os, I.bare, I.base, I.loc, I.cell, I.free, I.freeC, I.pin, I.hok, I.len⟩
section
variable {CX : CXT} {P : Program} {w : World} {K : PySem.W.Frag} {mg : Str → Option Value} {base : Heap} {k : Nat} {f : Addr} {name qual x : Str} {params : Arguments} {body : List Stmt} {scope : Scope} {dV kV doc pm cdv ct oc : Value} {an od : Option Addr} {osl : Array (Option Value)} {N ps : List Str} {sp : Sp} {st : Stmt} {fd : FuncData}
theorem fn_ofW (lk : K.lookup f = some ⟨oc, od, .func (PySem.W.fnOf name qual params body scope dV kV doc pm an cdv ct), osl⟩) (hcd : PySem.W.codeIn K cdv qual = true) (S : FnScope N ps scope) (len : ∀ vs H Q E, sp vs H Q E → vs.length = ps.length)
    (hbody : ∀ (A : Around) (outer : List Env) (s : Shared) (H : Hp) (vs : List V) (Q : VK) (E : XK), RoomH k (A.deeper (envOfC qual scope s.heap.objs.size f cdv)) → sp vs H Q E →
      ∃ t, PSs (cxW CX P w K mg base N qual scope f cdv A outer s H E) body t ∧ t { nx := fun _ H' => Q .non H', rt := Q } (start N vs) H) :
    FnW P w K mg base CX (k + 1) f (PySem.W.fnOf name qual params body scope dV kV doc pm an cdv ct) ps sp := by
  refine ⟨len, fun A outer s H args us vs Q E hr e0 hb r hsp => ?_⟩
  have hl := len _ _ _ _ hsp
  have KX : K.In s.heap := e0.mod.kin.keeps fun b o e => (e0.bs b o e).1
  have lim : s.heap.NoLimit := e0.mod.nolimit.keeps fun b o e => (e0.bs b o e).1
  have hkind : ∀ y ∈ ps.zip us, scope.names.lookup y.1 = some .local ∨ (scope.names.lookup y.1 = some .cell ∧ ((cellsFrom (s.heap.objs.size + 1) scope.names []).lookup y.1).isSome = true) := fun y hy => by
    obtain ⟨n, v⟩ := y
    exact (S.par n (List.of_mem_zip hy).1).imp id fun q => ⟨q, PySem.W.cellsFrom_some _ _ _ (.inl q)⟩
  refine codeAny_call_function hr.depth (KX _ _ lk) rfl S.co S.gen rfl (PySem.W.codeRec_of KX hcd) (hb _ _ _ _ ?_)
  refine wpAny_newFunctionEnv_cells S.kind hkind fun env he s1 x => ?_
  subst he
  refine ⟨lim.keeps x.toInCall.keep, codeAny_func ?_⟩
  obtain ⟨t, ht, hq⟩ := hbody A outer s H vs Q E (L2H.RoomH.deeper hr _) hsp
  have e1 : Env0 P w K mg base { A with handled := none } outer s H := ⟨e0.frames, e0.mod, e0.bs, e0.bsz, e0.funs, e0.frf, e0.hok, e0.bare⟩
  have I0 : Inv (cxOf CX P w K mg base N qual scope f cdv { A with handled := none } outer s H E) [] (start N vs) H s1 := inv_start S rfl e1 hl r x
  have I : Inv (cxW CX P w K mg base N qual scope f cdv A outer s H E) [] (start N vs) H s1 := by
    have q := Inv.cool (A := A.deeper (envOfC qual scope s.heap.objs.size f cdv)) (xe := (cxW CX P w K mg base N qual scope f cdv A outer s H E).xe) I0 rfl
    exact q
  refine wpAny_mono (ht.run [] s1 (start N vs) H _ I hq) (fun fl s' hs => ?_) fun e s' hs => hs
  have fin : ∀ {σ' : L2.St} {H' : Hp} {v : V} {u : Value}, Inv (cxW CX P w K mg base N qual scope f cdv A outer s H E) [] σ' H' s' → L2.RelV v u → Q v H' → CE outer P w H s Q u s' := fun J rv q => ⟨_, _, J.os, J.bare, J.base, J.hok, rv, q⟩
  cases fl with
  | ret u =>
    obtain ⟨v, σ', H', J, rv, q⟩ := hs
    exact fin J rv q
  | next =>
    obtain ⟨σ', H', J, q⟩ := hs
    exact fin (v := V.non) (u := Value.none) J rfl q
  | brk =>
    obtain ⟨_, _, _, q⟩ := hs
    exact q.elim
  | cont =>
    obtain ⟨_, _, _, q⟩ := hs
    exact q.elim
/-- a def of the text, callable everywhere -/
theorem okW (F : Fun K x qual st f fd) (S : FnScope N ps (defScope st)) (len : ∀ vs H Q E, sp vs H Q E → vs.length = ps.length)
    (hbody : ∀ (cdv : Value) (A : Around) (outer : List Env) (s : Shared) (H : Hp) (vs : List V) (Q : VK) (E : XK), RoomH k (A.deeper (envOfC qual (defScope st) s.heap.objs.size f cdv)) → sp vs H Q E →
      ∃ t, PSs (cxW CX0 P w K mg base N qual (defScope st) f cdv A outer s H E).nox (defBody st) t ∧ t { nx := fun _ H' => Q .non H', rt := Q } (start N vs) H) : FnW P w K mg base CX0 (k + 1) f fd ps sp := by
  obtain ⟨oc, od, kV, doc, pm, an, cdv, ct, osl, rfl, lk, hcd⟩ := F.ex
  refine fn_ofW lk hcd S len fun A outer s H vs Q E hr hsp => ?_
  obtain ⟨t, h, q⟩ := hbody cdv A outer s H vs Q E hr hsp
  exact ⟨t, h.nox, q⟩
end
section
variable {X : Cx} {CX : CXT} {k : Nat} {f C : Addr} {fd : FuncData} {ps : List Str} {sp : Sp} {E : XK} {x : Str} {q pos : Pos} {e : Expr} {es : List Expr} {t : TA}
theorem run_fnW {pins : List (Addr × Obj)} {σ : L2.St} {H : Hp} {s : Shared} {Q : VK} {us : List Value} {vs : List V} (F : FnW X.prog X.w X.K X.mg X.base CX k f fd ps sp) (hr : RoomH k X.A) (hb : Binds X.K fd ps []) (hx : Passes CX X E)
    (I : Inv X pins σ H s) (r : Vals vs us) (h : sp vs H Q E) : wpAny (model X.prog X.w) X.A (call (.ref f) us) (EP X pins σ Q) X.xe s := by
  have hl : us.length = ps.length := r.length.symm.trans (F.len _ _ _ _ h)
  have b := hb s us I.kIn (by rw [List.append_nil]; exact hl)
  rw [List.append_nil] at b
  refine wpAny_call (codeAny_mono (F.run X.A X.stack s H ⟨us, []⟩ us vs Q E hr I.env0 b r h) fun r s' hq => ?_)
  cases r with
  | error e => exact hx pins σ H s e s' I hq
  | ok fl =>
    cases fl with
    | ret u => exact I.after hq
    | next => exact hq.elim
    | brk => exact hq.elim
    | cont => exact hq.elim
/-- f(e, ..) -/
theorem pe_callW (F : FnW X.prog X.w X.K X.mg X.base CX k f fd ps sp) (hr : RoomH k X.A) (hg : Gl X x) (hm : X.mg x = some (.ref f)) (hk : PySem.W.keepIn X.K (.ref f) = true) (hb : Binds X.K fd ps []) (hx : Passes CX X E)
    (ha : PA X (e :: es) t) (hdb : (x == ("__debug__" : Str)) = false := by decide) (he : starEach (e :: es) X.env = (false, eval e X.env) :: starEach es X.env := by rfl) (hpl : (backTo pos (starEach es X.env)).any (·.1) = false := by rfl) :
    PE X (.Call (.Name x q) (e :: es) [] pos) (tCall sp [] E t) := by
  refine ⟨fun pins s σ H Q I h => wpAny_Call_Name_kw (ld_glob I hg hm ?_ hdb)⟩
  refine PySem.W.callWith_K (h₀ := X.base) I.ok.mod.kin hk (thn (ha.run pos pins s σ H _ I h) fun us s1 ⟨vs, H1, I1, r, q⟩ => ⟨I1.kIn, ?_⟩) he hpl
  have q' : sp (vs ++ []) H1 Q E := q
  rw [List.append_nil] at q'
  exact run_fnW F hr hb hx I1 r q'
end
end Fb

set_option Elab.async false
set_option linter.all false
set_option maxRecDepth 100000
set_option maxHeartbeats 4000000
namespace Fb
open PySem PySem.Spec PyProof.Rows L2
/-! ### try: .. except C as n: .. except D as n: .., the caught error tracked in the suites -/
abbrev hot (X : Cx) (a : Addr) (pn : List (Addr × Obj)) : Cx := X.suite a pn
theorem exk_ok {P : Program} {w : World} {H : Hp} {h : Heap} {e : Addr} {oe : Obj} (he : h.get? e = some oe) : ObjOk P w H h e (exk e oe) := ⟨he, ⟨_, he⟩, fun h1 h2 z k => k _ z⟩
theorem exk_own {e x : Addr} {oe : Obj} : exk e oe ≠ .own x := fun z => by
  have z' : HO.ext _ = HO.own x := z
  cases z'
section
variable {X : Cx} {pins : List (Addr × Obj)} {σ : L2.St} {H : Hp} {s : Shared} {a : Addr} {oe : Obj} {vs : Array Value}
/-- an object that nobody tracked is tracked from now on -/
theorem Inv.track (I : Inv X pins σ H s) (ha : s.heap.get? a = some oe) (hd : oe.data = .fields vs) (na : H a = none) (nL : a ≠ X.env.locals) (n0 : X.s_0.heap.get? a = none) (np : ∀ p ∈ X.pn ++ pins, p.1 ≠ a) : Inv X pins σ (upd H a (exk a oe)) s := by
  have old : ∀ {b : Addr} {v : HO}, H b = some v → b ≠ a := fun q => ne_of_none q na
  refine ⟨I.ok, I.os, I.bare, ⟨I.base.keep, I.base.slot, fun b o e n hx => ?_, I.base.there, fun b xs q => ?_, fun b o v q => ?_, fun b ps q => ?_⟩, I.loc, I.cell, (upd_ne (Ne.symm nL)).trans I.free, fun x c e => ?_, fun p hp => ?_, fun b o q => ?_, I.len⟩
  · refine (upd_ne fun z => ?_).trans (I.base.free b o e n hx)
    rw [z, n0] at e
    cases e
  · have q' := I.base.tups b xs q
    exact (upd_ne (old q')).trans q'
  · have q' := I.base.frzs b o v q
    exact (upd_ne (old q')).trans q'
  · obtain ⟨more, q'⟩ := I.base.tbls b ps q
    exact ⟨more, (upd_ne (old q')).trans q'⟩
  · refine (upd_ne fun z => ?_).trans (I.freeC x c e)
    obtain ⟨v, o, ho, hdc⟩ := I.cell x c e
    rw [z, ha] at ho
    cases ho
    rw [hd] at hdc
    cases hdc
  · obtain ⟨p1, p2, p3, p4, p5⟩ := I.pin p hp
    exact ⟨p1, (upd_ne (np p hp)).trans p2, p3, p4, p5⟩
  · by_cases hb : b = a
    · subst hb
      rw [upd_same] at q
      cases q
      exact exk_ok ha
    · rw [upd_ne hb] at q
      exact (I.hok b o q).stay (fun c v _ z => z) (fun c hc => (upd_ne (old hc)).trans hc) fun c xs hc => (upd_ne (old hc)).trans hc
end
/-- what the clauses wish of an error of the body, one after the other; the i: the slot of the clause's name -/
def wTry (K : PySem.W.Frag) (Wout : WX) (D : Ends) : List (Value × Nat × TS) → WX
  | [] => Wout
  | (c, i, ts) :: r => fun cls d σ H => ∃ b, PySem.W.exmOne K cls c = some b ∧
      (b = true → ∀ (a : Addr) (oe : Obj) (vs : Array Value), H a = none → oe.cls = cls → oe.dict = d → oe.data = .fields vs →
        ts { nx := fun σ' H' => D.nx (σ'.set i none) H', rt := D.rt, bk := fun σ' H' => D.bk (σ'.set i none) H', ct := fun σ' H' => D.ct (σ'.set i none) H' } (σ.set i (some (.ref a))) (upd H a (exk a oe))) ∧
      (b = false → wTry K Wout D r cls d σ H)
inductive Cls3 (X : Cx) : List ExceptHandler → List (Value × Nat × TS) → Prop
  | nil : Cls3 X [] []
  | cons {x n : Str} {c : Value} {i : Nat} {ts : TS} {b₀ : Stmt} {suite : List Stmt} {np pos' : Pos} {hds : List ExceptHandler} {l : List (Value × Nat × TS)} (hi : X.N[i]? = some n) (hln : X.env.kindOf n = some .local) (hc : Names X x c)
      (hsu : ∀ (a : Addr) (pn : List (Addr × Obj)), PSs (hot X a pn) (b₀ :: suite) ts) (r : Cls3 X hds l) : Cls3 X (.ExceptHandler (some (.Name x np)) (some n) (b₀ :: suite) pos' :: hds) ((c, i, ts) :: l)
section
variable {X : Cx} {body : List Stmt} {h0 : ExceptHandler} {hds : List ExceptHandler} {l : List (Value × Nat × TS)} {pos : Pos} {tb : WX → TS} {Wout : WX}
theorem ps_tryN (hs : X.stack = X.env :: X.outer) (hf : X.env.frame = some X.env.locals) (hN : X.N.Nodup) (hex : X.ex = []) (tk : Takes X Wout)
    (hb : ∀ (W : WX) (pn : List (Addr × Obj)) (xe : Value → Shared → Prop), Takes (X.tr pn xe) W → PassesOwn (model X.prog X.w) X.A X.env xe → PSs (X.tr pn xe) body (tb W))
    (hh : Cls3 X (h0 :: hds) l) : PS X (.Try body (h0 :: hds) [] [] pos) (fun D σ H => tb (wTry X.K Wout D l) D σ H) := by
  refine ⟨fun pins s σ H D I h => ?_⟩
  have ok := I.ok
  have hfr : X.A.frames = some (X.env :: X.outer) := by rw [ok.frames, hs]
  have through : ∀ (f : Flow) (s1 : Shared), SP (X.tr (X.pn ++ pins) fun e s₁ => wpAny (model X.prog X.w) X.A (noteFrame e X.env) (fun _ s₂ => wpAny (model X.prog X.w) X.A (setFlight e none) (fun _ s₃ => wpAny (model X.prog X.w) X.A (handleBy e X.env (h0 :: hds)) (SP X pins D) X.xe s₃) X.xe s₂) X.xe s₁) [] D f s1 → SP X pins D f s1 := fun f s1 hsp => by
    cases f with
    | next => exact let ⟨σ', H', J', q⟩ := hsp; ⟨σ', H', J'.ofTry ok, q⟩
    | brk => exact let ⟨σ', H', J', q⟩ := hsp; ⟨σ', H', J'.ofTry ok, q⟩
    | cont => exact let ⟨σ', H', J', q⟩ := hsp; ⟨σ', H', J'.ofTry ok, q⟩
    | ret u => exact let ⟨v, σ', H', J', r, q⟩ := hsp; ⟨v, σ', H', J'.ofTry ok, r, q⟩
  refine wpAny_Try_except (wpAny_mono ((hb (wTry X.K Wout D l) (X.pn ++ pins) _ (fun u s' xx => ?_) PassesOwn.looking).run [] s σ H D (I.toTry _) h) (fun f s1 hsp => ?_) (fun e s1 he => he))
  · obtain ⟨a, B, sI, pins', σ', H', cls, d, rfl, J', nb, up, sky, na, os, ag, w⟩ := xx
    have J : Inv X pins σ' H' sI := J'.ofTry ok
    have sky' : Sky B (X.env :: X.outer) a (Zc cls d) X.env.locals s'.heap := by rw [← hs]; exact sky
    show wpAny (model X.prog X.w) X.A (noteFrame (.ref a) X.env) _ _ _
    refine Sky.land Zc.steady hfr hf sky' fun h3 fl3 up3 => ?_
    have J3 : Inv X pins σ' H' { s' with heap := h3 } := J.landed nb fl3.1 (up.trans up3) os ag
    obtain ⟨oe3, vs3, he3, hz3, hd3⟩ := fl3.there
    have nfr : a ∉ frs (X.env :: X.outer) := fun hm => by
      obtain ⟨_, o', e', hnf⟩ := fl3.2.2.1.mem hm
      rw [he3] at e'
      cases e'
      exact hnf _ hd3
    have nL : a ≠ X.env.locals := fun z => nfr (List.mem_filterMap.mpr ⟨X.env, List.mem_cons_self, by rw [hf, z]⟩)
    have nst : a ∉ frs X.stack := by rw [hs]; exact nfr
    -- the error is new: nothing stood at its place
    have noSI : sI.heap.get? a = none := by
      cases e : sI.heap.get? a with
      | none => rfl
      | some o =>
        have z := nb a o e nst
        rw [fl3.2.1] at z
        cases z
    have n0 : X.s_0.heap.get? a = none := by
      cases e : X.s_0.heap.get? a with
      | none => rfl
      | some o =>
        obtain ⟨o', z⟩ := J.base.there a o e (by rw [hex]; simp)
        rw [noSI] at z
        cases z
    have npn : ∀ p ∈ X.pn ++ pins, p.1 ≠ a := fun p hp z => by
      have e := (J.pin p hp).1
      rw [z, noSI] at e
      cases e
    have nF : a ∉ X.fs := fun hm => by
      obtain ⟨e, he, q⟩ := List.mem_filterMap.mp hm
      exact nfr (List.mem_filterMap.mpr ⟨e, List.mem_cons_of_mem _ he, q⟩)
    have S3 := J3.suite he3 hd3 na nL nF
    have go : ∀ {hds' : List ExceptHandler} {l' : List (Value × Nat × TS)}, Cls3 X hds' l' → wTry X.K Wout D l' cls d σ' H' → wpAny (model X.prog X.w) X.A (handleBy (.ref a) X.env hds') (SP X pins D) X.xe { s' with heap := h3 } := by
      intro hds' l' hk
      induction hk with
      | nil =>
        intro w
        refine wpAny_handleBy_nil ?_
        obtain ⟨k1, k2, k3, oe, vs, T, oT, ts', he, hz, hd, h1, hr⟩ := id fl3
        unfold PySem.passOn
        refine wpAny_bind (wpAny_field he hd h1 ?_)
        rw [if_neg (show ¬ ((Value.ref T == Value.none) = true) from by simp)]
        have fin : wpAny (model X.prog X.w) X.A (setFlight (.ref a) X.env.frame) (fun _ s4 => wpAny (model X.prog X.w) X.A (throw (.ref a) : Sem Flow) (SP X pins D) X.xe s4) X.xe { s' with heap := h3 } := by
          rw [hf]
          exact HandSPX.setFlight_upZ fl3 fun h4 hh4 up4 => wpAny_throw (tk _ _ ⟨a, B, sI, pins, σ', H', cls, d, rfl, J, nb, (up.trans up3).trans up4, .inr (.inr (by rw [hs]; exact hh4)), na, os, ag, w⟩)
        first | exact wpAny_bind (wpAny_pure (wpAny_bind fin)) | exact wpAny_bind fin
      | @cons x n c i ts b₀ suite np pos' hds2 l2 hi hln hc hsu r ih =>
        intro w
        obtain ⟨b, hb1, hyes, hno⟩ := w
        refine wpAny_handleBy_cons (codeAny_handlers_test ?_) (by intro q; cases q)
        have LT : PySem.W.Looks (model X.prog X.w) h3 (typeOf (.ref a)) cls := fun A Q E s k q => wpAny_typeOf_ref (k _ _ he3) (by rw [hz3.1]; exact q)
        have LM := PySem.W.exm_one (M := model X.prog X.w) (J3.kIn) LT hb1
        have test : ∀ {Q : Value → Shared → Prop} {E : Value → Shared → Prop}, Q c { s' with heap := h3 } → wpAny (model X.prog X.w) (X.A.mark (some (.ref a))) (eval (.Name x np) X.env) Q E { s' with heap := h3 } := fun {Q E} q => by
          obtain ⟨hg, hdbg, hm | ⟨hm, hv, hnn⟩⟩ := hc
          · exact ld_glob (X := X.suite a ((a, oe3) :: (X.pn ++ pins))) S3 hg hm q hdbg
          · exact ld_blt (X := X.suite a ((a, oe3) :: (X.pn ++ pins))) S3 hg hm hv q hnn hdbg
        refine test (LM.here ?_)
        cases b with
        | true =>
          refine codeAny_handlers_suite_as (HandSPX.lands_againZ fl3 fun h4 fl4 up4 => ?_)
          have J4 : Inv X pins σ' H' { s' with heap := h4 } := J.landed nb fl4.1 ((up.trans up3).trans up4) os ag
          obtain ⟨oe4, vs4, he4, hz4, hd4⟩ := fl4.there
          have T4 : Inv X pins σ' (upd H' a (exk a oe4)) { s' with heap := h4 } := Inv.track J4 he4 hd4 na nL n0 npn
          have S4 : Inv (hot X a (X.pn ++ pins)) [] σ' (upd H' a (exk a oe4)) { s' with heap := h4 } :=
            ⟨ok.suite _ _, T4.os, T4.bare, T4.base, T4.loc, T4.cell, T4.free, T4.freeC, fun p hp => T4.pin p (by rw [List.append_nil] at hp; exact hp), T4.hok, T4.len⟩
          refine store_ok (X := hot X a (X.pn ++ pins)) (v := .ref a) S4 hN hi (.inl hln) rfl (fun s5 S5 => ?_) (.inr hln)
          refine wpAny_mono ((hsu a (X.pn ++ pins)).run [] s5 _ _ _ S5 (hyes rfl a oe4 vs4 na hz4.1 hz4.2 hd4)) (fun f s6 hsp => ?_) (fun _ _ z => False.elim z)
          have back : ∀ {σ6 : L2.St} {H6 : Hp}, Inv (hot X a (X.pn ++ pins)) [] σ6 H6 s6 → Inv X pins σ6 H6 s6 := fun S6 => ⟨ok, S6.os, S6.bare, S6.base, S6.loc, S6.cell, S6.free, S6.freeC, fun p hp => S6.pin p (by rw [List.append_nil]; exact hp), S6.hok, S6.len⟩
          have end_ : ∀ {σ6 : L2.St} {H6 : Hp} {Q : Shared → Prop}, Inv (hot X a (X.pn ++ pins)) [] σ6 H6 s6 → (∀ s7, Inv X pins (σ6.set i none) H6 s7 → Q s7) →
              wpAny (model X.prog X.w) X.A (do bindName X.env n .none; unbindBehindTheSuite X.env n pos') (fun _ s7 => Q s7) X.xe s6 := fun S6 hq => gone_ok (back S6) hN hi hln hq
          cases f with
          | next =>
            obtain ⟨σ6, H6, S6, q6⟩ := hsp
            exact end_ S6 fun s7 J7 => ⟨_, _, J7, q6⟩
          | brk =>
            obtain ⟨σ6, H6, S6, q6⟩ := hsp
            exact end_ S6 fun s7 J7 => ⟨_, _, J7, q6⟩
          | cont =>
            obtain ⟨σ6, H6, S6, q6⟩ := hsp
            exact end_ S6 fun s7 J7 => ⟨_, _, J7, q6⟩
          | ret u =>
            obtain ⟨v6, σ6, H6, S6, r6, q6⟩ := hsp
            exact end_ S6 fun s7 J7 => ⟨_, _, _, J7, r6, q6⟩
        | false =>
          show wpAny _ X.A (handleBy (.ref a) X.env hds2) _ _ _
          exact ih (hno rfl)
    exact go hh w
  · have z := through f s1 hsp
    cases f with
    | next => exact wpAny_execs_nil z
    | brk => exact z
    | cont => exact z
    | ret u => exact z
end
end Fb

set_option Elab.async false
set_option linter.all false
set_option maxRecDepth 100000
set_option maxHeartbeats 4000000
namespace Fb
open PySem PySem.Spec
open Builtin Builtin.List Builtin.Tuple
/-! ### the text of nested data: some text, of bounded length, whatever is under way -/
def RW (P : Program) (w : World) (h₀ : Heap) (d : Nat) (x : Value) (n : Nat) : Prop :=
  ∀ (base : Nat), base + n ≤ sizeLine → ∀ (A : Around) (E : Value → Shared → Prop) (s : Shared) (Q : Str → Shared → Prop), A.units + d < cLine → (∀ b o, h₀.get? b = some o → s.heap.get? b = some o) →
    (∀ h' tk (t : Str), (∀ b o, s.heap.get? b = some o → h'.get? b = some o) → t.length ≤ n → Q t { s with heap := h', toks := tk }) → wpAny (model P w) A (pyReprUnder base x) Q E s
theorem RW.is {P : Program} {w : World} {h₀ : Heap} {d n : Nat} {x : Value} {t : Str} (h : ReprIs P w x t) (hn : t.length ≤ n) : RW P w h₀ d x n := fun base hb A E s Q _ _ hQ =>
  h base (by omega) A E s Q fun tk => hQ s.heap tk t (fun _ _ e => e) hn
theorem textFrom_le : ∀ (ts : List Str) (k : Nat) (acc : Str), (textFrom k acc ts).length ≤ acc.length + piled ts
  | [], _, acc => Nat.le_refl _
  | t :: r, k, acc => by
    have ih := textFrom_le r (k + 1) (acc ++ (if k > 0 then ", " else "" : String) ++ t)
    have e : (acc ++ (if k > 0 then ", " else "" : String) ++ t).length ≤ acc.length + 2 + t.length := by
      rw [strLen_append, strLen_append]
      split
      · exact Nat.le_refl _
      · exact Nat.add_le_add_right (Nat.add_le_add_left (Nat.zero_le 2) _) _
    rw [piled_cons]
    exact Nat.le_trans ih (by omega)
theorem piled_le : ∀ (ts : List Str) (m : Nat), (∀ t ∈ ts, t.length ≤ m) → piled ts ≤ ts.length * (m + 2)
  | [], _, _ => Nat.zero_le _
  | t :: r, m, h => by
    have h1 := h t List.mem_cons_self
    have h2 := piled_le r m fun u hu => h u (List.mem_cons_of_mem _ hu)
    rw [piled_cons, List.length_cons, Nat.succ_mul]
    omega
section
variable {P : Program} {w : World} {A : Around} {R : Result → Shared → Prop}
theorem loopW {a p : Addr} {items : Array Value} {h₀ : Heap} {d base m : Nat} (hne : a ≠ p) (hu : A.units + (d + 1) < cLine) (hPf : h₀.get? p = none) (hT : ∀ (i : Nat) (x : Value), items[i]? = some x → RW P w h₀ d x m) (hsz : base + items.size * (m + 2) + 2 ≤ sizeLine) :
    ∀ (k i : Nat) (s : Shared) (oa : Obj) (na : Nat) (acc : Array Value) (c : Nat) (done : List (Str × Tok)) (signs : Nat), items.size - i = k → i ≤ items.size → (∀ b o, h₀.get? b = some o → s.heap.get? b = some o) → s.heap.get? a = some oa → oa.data = .seq items na →
    s.heap.get? p = some { cls := .type "list", dict := none, data := .seq acc c, slots := #[] } → acc.toList = strValues done → done.length = i → (∀ t ∈ done.map (·.1), t.length ≤ m) → signs ≤ base + i * (m + 2) →
    (∀ h' u tk (t : Str), (∀ b o, b ≠ p → s.heap.get? b = some o → h'.get? b = some o) → t.length ≤ items.size * (m + 2) + 2 → R (.ok (.ret (.str t u))) { s with heap := h', toks := tk }) →
    codeAny (model P w) A (.builtin "list.__repr__.loop" ⟨[.ref a, rawInt i, .ref p, rawInt ((signs : Nat) : Int)], []⟩) R s := by
  intro k
  induction k with
  | zero =>
    intro i s oa na acc c done signs hk hi hk0 ha hda hP hacc hlen hdone hs hR
    have hin : i = items.size := by omega
    refine codeAny_builtin F.entry_list_repr_loop ?_
    show wpAny _ _ («list.__repr__.loop» ⟨[.ref a, .int i 0, .ref p, .int (signs : Int) 0], []⟩) _ _ s
    rw [repr_loop_tree]
    refine wpAny_bind (wpAny_listItems ha hda ?_)
    have hnone : items[(i : Int).toNat]? = none := by simp [hin]
    simp only [hnone]
    unfold reprEnd
    refine wpAny_bind (wpAny_listItems hP rfl ?_)
    rw [hacc, repr_fold]
    have h1 := textFrom_le (done.map (·.1)) 0 "["
    have h2 := piled_le _ m hdone
    rw [List.length_map, hlen, hin] at h2
    have h3 : (textFrom 0 "[" (done.map (·.1)) ++ ("]" : Str)).length ≤ items.size * (m + 2) + 2 := by
      rw [strLen_append]
      have e1 : (("[" : String) : Str).length = 1 := rfl
      have e2 : (("]" : String) : Str).length = 1 := rfl
      rw [e1] at h1
      rw [e2]
      omega
    exact wpAny_bind (wpAny_pure (wpAny_bind (wpAny_mkStr (wpAny_pure (hR s.heap _ _ _ (fun _ _ _ e => e) h3)) (by omega))))
  | succ k ih =>
    intro i s oa na acc c done signs hk hi hk0 ha hda hP hacc hlen hdone hs hR
    have hlt : i < items.size := by omega
    have hrep := hT i items[i] (by simp [hlt])
    have hm : (i + 1) * (m + 2) ≤ items.size * (m + 2) := Nat.mul_le_mul_right _ hlt
    rw [Nat.succ_mul] at hm
    refine codeAny_builtin F.entry_list_repr_loop ?_
    show wpAny _ _ («list.__repr__.loop» ⟨[.ref a, .int i 0, .ref p, .int (signs : Int) 0], []⟩) _ _ s
    rw [repr_loop_tree]
    refine wpAny_bind (wpAny_listItems ha hda ?_)
    have hsome : items[(i : Int).toNat]? = some items[i] := by simp [hlt]
    simp only [hsome]
    rw [Int.toNat_natCast]
    refine wpAny_bind (wpAny_holding (hrep (signs + 1) (by omega) _ _ _ _ (by rw [units_under_list_loop]; omega) hk0 fun h' tk t hkp ht => ?_))
    refine wpAny_bind (wpAny_mkStr (wpAny_bind ?_) (by omega))
    show wpAny _ _ (updateSeq p _) _ _ _
    have hasz : acc.size ≤ sizeLine := by
      have e1 : acc.size = done.length := by
        rw [← Array.length_toList, hacc]
        simp [strValues]
      rw [e1, hlen]
      have : items.size ≤ items.size * (m + 2) := Nat.le_mul_of_pos_right _ (by omega)
      omega
    refine wpAny_updateSeq (hkp _ _ hP) rfl (wpAny_pure ⟨F.quiet_list_repr_loop _, ?_⟩) hasz
    have e1 : ((i : Int) + 1) = ((i + 1 : Nat) : Int) := by omega
    rw [e1]
    have np : ∀ {b : Addr} {o : Obj}, h₀.get? b = some o → p ≠ b := fun e h => by rw [← h, hPf] at e; cases e
    refine ih (i + 1) _ oa na (acc.push (.str t tk)) _ (done ++ [(t, tk)]) _ (by omega) hlt (fun b o e => (Heap.get?_update_other _ _ (np e)).trans (hkp _ _ (hk0 _ _ e))) ((Heap.get?_update_other _ _ (fun h : p = a => hne h.symm)).trans (hkp _ _ ha)) hda
      (Heap.get?_update_self _ (hkp _ _ hP) rfl) (by simp [hacc, strValues]) (by simp [hlen]) (fun u hu => ?_) (by rw [Nat.succ_mul]; omega) fun h'' u tk' t' hh => ?_
    · rw [List.map_append] at hu
      rcases List.mem_append.mp hu with hu | hu
      · exact hdone u hu
      · have e : u = t := by simpa using hu
        rw [e]
        exact ht
    · exact hR h'' u tk' t' fun b o hb e => hh b o hb ((Heap.get?_update_other _ _ (fun h : p = b => hb h.symm)).trans (hkp _ _ e))

theorem listAtW {a : Addr} {oa : Obj} {items : Array Value} {na : Nat} {h₀ : Heap} {d base m : Nat} {s : Shared} (ha : h₀.get? a = some oa) (hda : oa.data = .seq items na) (hu : A.units + (d + 1) < cLine) (hT : ∀ (i : Nat) (x : Value), items[i]? = some x → RW P w h₀ d x m)
    (hsz : base + (items.size * (m + 2) + 7) ≤ sizeLine) (hk0 : ∀ b o, h₀.get? b = some o → s.heap.get? b = some o)
    (hR : ∀ h' u tk (t : Str), (∀ b o, s.heap.get? b = some o → h'.get? b = some o) → t.length ≤ items.size * (m + 2) + 7 → R (.ok (.ret (.str t u))) { s with heap := h', toks := tk }) :
    wpAny (model P w) A.in1 (Builtin.listReprAt base ⟨[.ref a], []⟩) (fun fin s' => match fin with | .done f => R (.ok f) s' | .again c' => c'.quiet = true ∧ codeAny (model P w) A c' R s') (fun e s' => R (.error e) s') s := by
  have w1 : (("[]" : String) : Str).length ≤ items.size * (m + 2) + 7 := Nat.le_trans (by decide +kernel : (("[]" : String) : Str).length ≤ 7) (Nat.le_add_left _ _)
  have w2 : (("[...]" : String) : Str).length ≤ items.size * (m + 2) + 7 := Nat.le_trans (by decide +kernel : (("[...]" : String) : Str).length ≤ 7) (Nat.le_add_left _ _)
  unfold Builtin.listReprAt
  refine wpAny_bind (wpAny_of_eq (a := ((Value.ref a : Value), ([] : List Value))) (by first | rfl | (simp only [slotArgs]; rfl)) ?_)
  refine wpAny_bind (wpAny_listItems (hk0 _ _ ha) hda ?_)
  by_cases he : items.isEmpty = true
  · rw [if_pos he]
    refine wpAny_bind (wpAny_rule (wpAny_bind (wpAny_mkStr (wpAny_pure ?_) (by decide +kernel))))
    exact hR s.heap _ _ _ (fun _ _ e => e) w1
  · rw [if_neg he]
    refine wpAny_bind (wpAny_stack_any fun st => ?_)
    dsimp only
    generalize (st.tail.any _) = running
    cases running
    rotate_left
    all_goals simp only [Bool.false_eq_true, if_false, if_true]
    · refine wpAny_bind (wpAny_rule (wpAny_bind (wpAny_mkStr (wpAny_pure ?_) (by decide +kernel))))
      exact hR s.heap _ _ _ (fun _ _ e => e) w2
    · refine wpAny_bind (m := newList []) (wpAny_newObj_type (wpAny_pure ⟨F.quiet_list_repr_loop _, ?_⟩))
      have hPf : h₀.get? s.heap.objs.size = none := by
        cases e : h₀.get? s.heap.objs.size with
        | none => rfl
        | some o => exact absurd (Heap.lt_size (hk0 _ _ e)) (Nat.lt_irrefl _)
      refine loopW (p := s.heap.objs.size) (base := base) (m := m) (Nat.ne_of_lt (Heap.lt_size (hk0 _ _ ha))) hu hPf hT (by omega) _ 0 _ oa na #[] _ [] base rfl (Nat.zero_le _) (fun b o e => Heap.get?_push_of_some _ (hk0 _ _ e)) (Heap.get?_push_of_some _ (hk0 _ _ ha)) hda
        (Heap.get?_push_size _ rfl) rfl rfl (fun t ht => by simp at ht) (by omega) fun h' u tk t hk ht => ?_
      exact hR h' u tk t (fun b o e => hk b o (Nat.ne_of_lt (Heap.lt_size e)) (Heap.get?_push_of_some _ e)) (by omega)

theorem tupFoldW {h₀ : Heap} {d m : Nat} {E : Value → Shared → Prop} (hu : A.units + d < cLine) : ∀ (l : List Value) (acc : Array Str) (n : Nat) (s : Shared) (Q : (Array Str × Nat) → Shared → Prop), (∀ x ∈ l, RW P w h₀ d x m) → n + l.length * (m + 2) ≤ sizeLine →
    (∀ b o, h₀.get? b = some o → s.heap.get? b = some o) → (∀ h' tk (ts : List Str) n', (∀ b o, s.heap.get? b = some o → h'.get? b = some o) → ts.length = l.length → (∀ t ∈ ts, t.length ≤ m) → Q ⟨acc ++ ts.toArray, n'⟩ { s with heap := h', toks := tk }) →
    wpAny (model P w) A (forIn l (⟨acc, n⟩ : (Array Str × Nat)) tupBody) Q E s := by
  intro l
  induction l with
  | nil =>
    intro acc n s Q _ _ _ h
    have h0 := h s.heap s.toks [] n (fun _ _ e => e) rfl (fun _ z => by simp at z)
    rw [List.forIn_nil]
    exact wpAny_pure (by simpa using h0)
  | cons x l ih =>
    intro acc n s Q hT hn hk0 h
    rw [List.length_cons, Nat.succ_mul] at hn
    rw [List.forIn_cons]
    refine wpAny_bind (wpAny_bind (hT x List.mem_cons_self (n + 1) (by omega) _ _ _ _ hu hk0 fun h' tk t hkp ht => wpAny_pure ?_))
    refine ih (acc.push t) (n + (t.length + 2)) _ Q (fun y hy => hT y (List.mem_cons_of_mem _ hy)) (by omega) (fun b o e => hkp _ _ (hk0 _ _ e)) fun h'' tk' ts n' hk2 hl hts => ?_
    have h1 := h h'' tk' (t :: ts) n' (fun b o e => hk2 _ _ (hkp _ _ e)) (by rw [List.length_cons, hl, List.length_cons]) fun u hu => (List.mem_cons.mp hu).elim (fun z => z ▸ ht) (hts u)
    simpa using h1
theorem tupAtW {a : Addr} {o : Obj} {items : Array Value} {n : Nat} {h₀ : Heap} {d base m : Nat} {s : Shared} {Q : Fin → Shared → Prop} {E : Value → Shared → Prop} (ha : h₀.get? a = some o) (hd : o.data = .seq items n) (hu : A.units + d < cLine) (hT : ∀ x ∈ items.toList, RW P w h₀ d x m)
    (hsz : base + (items.size * (m + 2) + 7) ≤ sizeLine) (hk0 : ∀ b o, h₀.get? b = some o → s.heap.get? b = some o)
    (hQ : ∀ h' u tk (t : Str), (∀ b o, s.heap.get? b = some o → h'.get? b = some o) → t.length ≤ items.size * (m + 2) + 7 → Q (.done (.ret (.str t u))) { s with heap := h', toks := tk }) :
    wpAny (model P w) A (Builtin.tupleReprAt base ⟨[.ref a], []⟩) Q E s := by
  have w2 : (("(...)" : String) : Str).length ≤ items.size * (m + 2) + 7 := Nat.le_trans (by decide +kernel : (("(...)" : String) : Str).length ≤ 7) (Nat.le_add_left _ _)
  rw [tuple_repr_tree]
  refine wpAny_bind (fmt_underWay fun b => ?_)
  cases b with
  | true =>
    refine PySem.W.KFB.if_so rfl (wpAny_bind (wpAny_rule (wpAny_bind (wpAny_mkStr (wpAny_pure ?_) (by decide +kernel)))))
    exact hQ s.heap _ _ _ (fun _ _ e => e) w2
  | false =>
    refine PySem.W.KFB.if_not rfl ?_
    unfold tupleReprRest
    unfold Builtin.Tuple.tupleItemsOf
    refine wpAny_bind (wpAny_bind (wpAny_seqItems (hk0 _ _ ha) hd (wpAny_pure ?_)))
    rw [← Array.forIn_toList]
    have hz : items.toList.length = items.size := by simp
    refine wpAny_bind (tupFoldW hu _ _ _ _ _ hT (by rw [hz]; omega) hk0 fun h' tk ts n' hkp hl hts => ?_)
    have h1 := fmt_text ts
    have h2 := piled_le ts m hts
    rw [hl, hz] at h2
    have e0 : (if items.size == 1 then ",)" else ")" : String) = (if ts.length == 1 then ",)" else ")" : String) := by rw [hl, hz]
    rw [e0]
    have e1 : ((#[] : Array Str) ++ ts.toArray).toList = ts := by simp
    rw [e1]
    show wpAny _ _ (retStr (tupleText ts)) _ _ _
    exact wpAny_bind (wpAny_mkStr (wpAny_pure (hQ h' _ _ _ hkp (by omega))) (by omega))
end
end Fb
namespace Fb
open PySem PySem.Spec
open Builtin Builtin.List Builtin.Tuple
section
variable {P : Program} {w : World}
theorem RW.mono {h₀ : Heap} {d n n' : Nat} {x : Value} (h : RW P w h₀ d x n) (hn : n ≤ n') : RW P w h₀ d x n' := fun base hb A E s Q hu hk hQ => h base (by omega) A E s Q hu hk fun h' tk t kp ht => hQ h' tk t kp (Nat.le_trans ht hn)
theorem RW.deep {h₀ : Heap} {d d' n : Nat} {x : Value} (h : RW P w h₀ d x n) (hd : d ≤ d') : RW P w h₀ d' x n := fun base hb A E s Q hu hk hQ => h base hb A E s Q (by omega) hk hQ
theorem RW.list {h₀ : Heap} {d m : Nat} {a : Addr} {oa : Obj} {items : Array Value} {na : Nat} (ha : h₀.get? a = some oa) (hc : oa.cls = .type "list") (hda : oa.data = .seq items na) (hT : ∀ (i : Nat) (x : Value), items[i]? = some x → RW P w h₀ d x m) :
    RW P w h₀ (d + 1) (.ref a) (items.size * (m + 2) + 7) := fun base hb A E s Q hu hk hQ => by
  refine wpAny_pyReprUnder_ref (by omega) (wpAny_pyReprObjUnder_twin (twin := "list.__repr__.under") ⟨oa, hk _ _ ha, hc⟩ F.slot_list_repr.toG rfl (by omega) ?_)
  exact call_twin_plain F.plain_list_repr_under F.entry_list_repr_under F.check_list_repr_under ⟨oa, hk _ _ ha, hc⟩ F.slot_list_repr.toG (F.args_list_repr_1 _)
    (listAtW (R := callEnd _ E) ha hda hu hT hb hk fun h' u tk t kp ht => ⟨⟨_, _, rfl⟩, _, _, rfl, hQ h' tk t kp ht⟩)
theorem RW.tuple {h₀ : Heap} {d m : Nat} {a : Addr} {oa : Obj} {items : Array Value} {na : Nat} (ha : h₀.get? a = some oa) (hc : oa.cls = .type "tuple") (hda : oa.data = .seq items na) (hT : ∀ x ∈ items.toList, RW P w h₀ d x m) :
    RW P w h₀ (d + 1) (.ref a) (items.size * (m + 2) + 7) := fun base hb A E s Q hu hk hQ => by
  refine wpAny_pyReprUnder_ref (by omega) (wpAny_pyReprObjUnder_twin (twin := "tuple.__repr__.under") ⟨oa, hk _ _ ha, hc⟩ F.slot_tuple_repr rfl (by omega) ?_)
  refine call_twin_own (F.quiet_tuple_repr_under _) F.entry_tuple_repr_under F.check_tuple_repr_under ⟨oa, hk _ _ ha, hc⟩ F.slot_tuple_repr (F.args_tuple_repr_1 _) (wpOwn_of_wpAny ?_)
  exact tupAtW ha hda (by rw [units_under_tuple_repr_under]; omega) hT hb hk fun h' u tk t kp ht => ⟨⟨_, _, rfl⟩, _, _, rfl, hQ h' tk t kp ht⟩
end
/-- what the text of data may come to: at most c items a level, leaves of at most m signs, k levels -/
def wid (c m : Nat) : Nat → Nat
  | 0 => m
  | k + 1 => (c + 1) * (wid c m k + 2) + 7
theorem wid_le (c m : Nat) : ∀ k, m ≤ wid c m k
  | 0 => Nat.le_refl _
  | k + 1 => by
    have := wid_le c m k
    have e : wid c m (k + 1) = (c + 1) * (wid c m k + 2) + 7 := rfl
    rw [e, Nat.succ_mul]
    omega
inductive Dk (c m : Nat) : Nat → PyData → Prop
  | non {k : Nat} : Dk c m k .none
  | bl {k : Nat} (b : Bool) : Dk c m k (.bool b)
  | int {k : Nat} (i : Int) (h1 : i.natAbs.log2 < 1920) (h2 : ((toString i : String) : Str).length ≤ m) : Dk c m k (.int i)
  | str {k : Nat} (x : Str) (h1 : x.length ≤ m) (h2 : (reprText x).length ≤ m) : Dk c m k (.str x)
  | lst {k : Nat} {ds : List PyData} (h1 : ds.length ≤ c) (h2 : ∀ d ∈ ds, Dk c m k d) : Dk c m (k + 1) (.list ds)
  | tup {k : Nat} {ds : List PyData} (h1 : ds.length ≤ c) (h2 : ∀ d ∈ ds, Dk c m k d) : Dk c m (k + 1) (.tuple ds)
open L2 in
theorem dpAll_get {K : PySem.W.Frag} {H : Hp} : ∀ {vs : List V} {ds : List PyData} {i : Nat} {v : V}, DpAll K H vs ds → vs[i]? = some v → ∃ d, ds[i]? = some d ∧ Dp K H v d
  | _, _, _, _, .nil, e => by simp at e
  | _, _, 0, _, .cons h _, e => by
    simp at e
    subst e
    exact ⟨_, rfl, h⟩
  | _, _, i + 1, v, .cons _ t, e => by
    obtain ⟨d, h1, h2⟩ := dpAll_get (i := i) (v := v) t (by simpa using e)
    exact ⟨d, by simpa using h1, h2⟩
open L2 in
theorem dpAll_len {K : PySem.W.Frag} {H : Hp} : ∀ {vs : List V} {ds : List PyData}, DpAll K H vs ds → vs.length = ds.length
  | _, _, .nil => rfl
  | _, _, .cons _ t => congrArg Nat.succ (dpAll_len t)
section
open L2
variable {X : Cx} {pins : List (Addr × Obj)} {σ : L2.St} {H : Hp} {s : Shared} {c m : Nat}
theorem each {k : Nat} {vs : List V} {its : List Value} {ds : List PyData} (ih : ∀ (d : PyData), Dk c m k d → ∀ (v : V) (u : Value), Dp X.K H v d → L2.RelV v u → wid c m k ≤ sizeLine → RW X.prog X.w s.heap k u (wid c m k)) (wk : wid c m k ≤ sizeLine)
    (rv : Vals vs its) (ha : DpAll X.K H vs ds) (h2 : ∀ d ∈ ds, Dk c m k d) {i : Nat} {x : Value} (hx : its[i]? = some x) : RW X.prog X.w s.heap k x (wid c m k) := by
  have hi : i < vs.length := by
    rw [rv.length]
    exact (List.getElem?_eq_some_iff.mp hx).1
  have hv : vs[i]? = some vs[i] := List.getElem?_eq_getElem hi
  obtain ⟨u, hu, ru⟩ := rv.get hv
  rw [hx] at hu
  cases hu
  obtain ⟨d, hd, dd⟩ := dpAll_get ha hv
  exact ih d (h2 d (List.mem_of_getElem? hd)) _ _ dd ru wk
theorem dk_repr (I : Inv X pins σ H s) (hm : 5 ≤ m) : ∀ (k : Nat) (d : PyData), Dk c m k d → ∀ (v : V) (u : Value), Dp X.K H v d → L2.RelV v u → wid c m k ≤ sizeLine → RW X.prog X.w s.heap k u (wid c m k) := by
  intro k
  induction k with
  | zero =>
    intro d hd v u hv r hz
    cases hd with
    | non => cases hv; cases r; exact RW.is ReprIs.none (Nat.le_trans (by decide +kernel : (("None" : String) : Str).length ≤ 5) hm)
    | bl b => cases hv; cases r; exact RW.is (ReprIs.bool b) (Nat.le_trans (by cases b <;> decide +kernel) hm)
    | int i h1 h2 => cases hv; obtain ⟨t, rfl⟩ := r; exact RW.is (ReprIs.int t h1) h2
    | str x h1 h2 => cases hv; obtain ⟨t, rfl⟩ := r; exact RW.is (ReprIs.str x t (Nat.le_trans h2 hz)) h2
  | succ k ih =>
    intro d hd v u hv r hz
    have wl := wid_le c m (k + 1)
    have we : wid c m (k + 1) = (c + 1) * (wid c m k + 2) + 7 := rfl
    have wk : wid c m k ≤ sizeLine := by
      rw [we, Nat.succ_mul] at hz
      omega
    cases hd with
    | non => cases hv; cases r; exact RW.is ReprIs.none (Nat.le_trans (by decide +kernel : (("None" : String) : Str).length ≤ 5) (Nat.le_trans hm wl))
    | bl b => cases hv; cases r; exact RW.is (ReprIs.bool b) (Nat.le_trans (by cases b <;> decide +kernel) (Nat.le_trans hm wl))
    | int i h1 h2 => cases hv; obtain ⟨t, rfl⟩ := r; exact RW.is (ReprIs.int t h1) (Nat.le_trans h2 wl)
    | str x h1 h2 => cases hv; obtain ⟨t, rfl⟩ := r; exact RW.is (ReprIs.str x t (Nat.le_trans h2 (Nat.le_trans wl hz))) (Nat.le_trans h2 wl)
    | lst h1 h2 =>
      cases hv with
      | lst hs ha =>
        cases r
        obtain ⟨its, rv, ⟨o, n, ho, hc, _, hdat⟩, _⟩ := I.list hs
        refine (RW.list ho hc hdat fun i x hx => each ih wk rv ha h2 (by simpa using hx)).mono ?_
        rw [we]
        refine Nat.add_le_add_right (Nat.mul_le_mul_right _ ?_) _
        have e1 : its.toArray.size = its.length := by simp
        rw [e1, ← rv.length, dpAll_len ha]
        omega
    | tup h1 h2 =>
      cases hv with
      | tup hs ha =>
        cases r
        obtain ⟨its, rv, ⟨o, ho, hc, n, hdat⟩, _⟩ := I.tuple hs
        refine (RW.tuple (m := wid c m k) ho hc hdat fun x hx => ?_).mono ?_
        · obtain ⟨i, hi⟩ := List.getElem?_of_mem hx
          exact each ih wk rv ha h2 (by simpa using hi)
        rw [we]
        refine Nat.add_le_add_right (Nat.mul_le_mul_right _ ?_) _
        have e1 : its.toArray.size = its.length := by simp
        rw [e1, ← rv.length, dpAll_len ha]
        omega

/-- {x} in an f-string: some text -/
def tFmtD (K : PySem.W.Frag) (te : TE) : TE := fun σ H Q => te σ H fun x H1 => ∃ (d : PyData) (c m k : Nat), Dp K H1 x d ∧ Dk c m k d ∧ 5 ≤ m ∧ wid c m k ≤ sizeLine ∧ k ≤ 60 ∧ ∀ t : Str, t.length ≤ wid c m k → Q (.str t) H1
theorem pe_fmtD {e : Expr} {te : TE} {pos : Pos} {k0 : Nat} (hr : RoomH k0 X.A) (he : PE X e te) : PE X (.FormattedValue e (-1) none pos) (tFmtD X.K te) := by
  refine ⟨fun pins s σ H Q I h => wpAny_FormattedValue_plain (thn (he.run pins s σ H _ I h) fun v s1 hv => ?_)⟩
  obtain ⟨x, H1, I1, r1, d, c, m, k, hd, hk, hm, hz, hk0, q⟩ := hv
  have hu := hr.un
  have wl := wid_le c m k
  have fin : ∀ {t : Str} {tk : Tok} {s2 : Shared}, Inv X pins σ H1 s2 → t.length ≤ wid c m k → EP X pins σ Q (.str t tk) s2 := fun J ht => ⟨.str _, H1, J, ⟨_, rfl⟩, q _ ht⟩
  cases hk with
  | non => cases hd; cases r1; exact wpAny_formatField_none (fin (I1.tok _) (Nat.le_trans (by decide +kernel : (("None" : String) : Str).length ≤ 5) (Nat.le_trans hm wl)))
  | bl b => cases hd; cases r1; exact wpAny_formatField_bool (fin (I1.tok _) (Nat.le_trans (by cases b <;> decide +kernel) (Nat.le_trans hm wl)))
  | int i h1 h2 => cases hd; obtain ⟨t, rfl⟩ := r1; exact wpAny_formatField_int h1 (fin (I1.tok _) (Nat.le_trans h2 wl))
  | str y h1 h2 => cases hd; obtain ⟨t, rfl⟩ := r1; exact wpAny_formatField_str (fin I1 (Nat.le_trans h1 wl)) (fin (I1.tok _) (Nat.le_trans h1 wl)) (Nat.le_trans h1 (Nat.le_trans wl hz))
  | @lst k ds h1 h2 =>
    cases hd with
    | lst hs ha =>
      cases r1
      have we : wid c m (k + 1) = (c + 1) * (wid c m k + 2) + 7 := rfl
      have wk : wid c m k ≤ sizeLine := by
        rw [we, Nat.succ_mul] at hz
        omega
      obtain ⟨its, rv, ⟨o, n, ho, hc, _, hdat⟩, _⟩ := I1.list hs
      have e1 : its.toArray.size * (wid c m k + 2) + 7 ≤ wid c m (k + 1) := by
        rw [we]
        refine Nat.add_le_add_right (Nat.mul_le_mul_right _ ?_) _
        have e1 : its.toArray.size = its.length := by simp
        rw [e1, ← rv.length, dpAll_len ha]
        omega
      refine wpAny_formatField_slot (fun _ _ => nofun) (by omega) ⟨o, ho, hc⟩ F.slot_list_format F.slot_list_str F.slot_list_repr.toG ?_
      refine wpAny_call (codeAny_call_builtin F.slot_list_repr.plain F.entry_list_repr (F.slot_list_repr.check _ _ _ _ _ _ _ _ ⟨o, ho, hc⟩ (F.args_list_repr_1 _)
        (listAtW (R := callEnd _ X.xe) (base := 0) (h₀ := s1.heap) (d := k) ho hdat (by show X.A.units + 1 + 1 + (k + 1) < cLine; omega) (fun i x hx => each (dk_repr I1 hm k) wk rv ha h2 (by simpa using hx)) (by omega) (fun _ _ e => e) fun h' u tk t kp ht => ?_)))
      exact ⟨_, _, rfl, fin (I1.kept kp) (Nat.le_trans ht e1)⟩
  | @tup k ds h1 h2 =>
    cases hd with
    | tup hs ha =>
      cases r1
      have we : wid c m (k + 1) = (c + 1) * (wid c m k + 2) + 7 := rfl
      have wk : wid c m k ≤ sizeLine := by
        rw [we, Nat.succ_mul] at hz
        omega
      obtain ⟨its, rv, ⟨o, ho, hc, n, hdat⟩, _⟩ := I1.tuple hs
      have e1 : its.toArray.size * (wid c m k + 2) + 7 ≤ wid c m (k + 1) := by
        rw [we]
        refine Nat.add_le_add_right (Nat.mul_le_mul_right _ ?_) _
        have e1 : its.toArray.size = its.length := by simp
        rw [e1, ← rv.length, dpAll_len ha]
        omega
      refine wpAny_formatField_slot (fun _ _ => nofun) (by omega) ⟨o, ho, hc⟩ F.slot_tuple_format F.slot_tuple_str F.slot_tuple_repr ?_
      refine wpAny_call (codeAny_call_builtin_own (Code.quiet_builtin _ (by decide +kernel)) F.entry_tuple_repr (F.slot_tuple_repr.check _ _ _ _ _ _ _ _ ⟨o, ho, hc⟩ (F.args_tuple_repr_1 _) (wpOwn_of_wpAny ?_)))
      refine tupAtW (base := 0) (m := wid c m k) (h₀ := s1.heap) (d := k) ho hdat ?_ (fun x hx => ?_) (by omega) (fun _ _ e => e) fun h' u tk t kp ht => ?_
      · rw [units_under_tuple_repr]
        show X.A.units + 1 + 1 + 1 + k < cLine
        omega
      · obtain ⟨i, hi⟩ := List.getElem?_of_mem hx
        exact each (dk_repr I1 hm k) wk rv ha h2 (by simpa using hi)
      · exact ⟨_, _, rfl, fin (I1.kept kp) (Nat.le_trans ht e1)⟩
end
end Fb

set_option Elab.async false
set_option linter.all false
set_option maxRecDepth 100000
set_option maxHeartbeats 4000000
namespace Fb
open PySem PySem.Spec PyProof.Rows L2
/-! ### the __init__ of an own error: a message, its fields, its code -/
theorem PE.imp {X : Cx} {e : Expr} {t t' : TE} (h : PE X e t) (k : ∀ σ H Q, t' σ H Q → t σ H Q) : PE X e t' := ⟨fun pins s σ H Q I q => h.run pins s σ H Q I (k σ H Q q)⟩
theorem Same.seqT {K : PySem.W.Frag} {H H' : Hp} {a : Addr} {xs : List V} (e : Same H H') (h : SqT K H a xs) : SqT K H' a xs := by
  rcases h with (h | ⟨o, h⟩) | h
  · exact .inl (.inl (e _ _ h))
  · exact .inl (.inr ⟨o, e _ _ h⟩)
  · exact .inr h
mutual
theorem dpSame {K : PySem.W.Frag} {H H' : Hp} (s : Same H H') : ∀ {v : V} {d : PyData}, Dp K H v d → Dp K H' v d
  | _, _, .non => .non
  | _, _, .bl b => .bl b
  | _, _, .int i => .int i
  | _, _, .str x => .str x
  | _, _, .lst h a => .lst (s.seq h) (dpsSame s a)
  | _, _, .tup h a => .tup (Same.seqT s h) (dpsSame s a)
theorem dpsSame {K : PySem.W.Frag} {H H' : Hp} (s : Same H H') : ∀ {vs : List V} {ds : List PyData}, DpAll K H vs ds → DpAll K H' vs ds
  | _, _, .nil => .nil
  | _, _, .cons h t => .cons (dpSame s h) (dpsSame s t)
end
theorem same_new {H : Hp} {p : Addr} (h : H p = none) (o : HO) : Same H (upd H p o) := fun b u q => (upd_ne (ne_of_none q h)).trans q
/-- data whose text is not too long -/
def Fm (K : PySem.W.Frag) (H : Hp) (y : V) : Prop := ∃ (d : PyData) (c m k : Nat), Dp K H y d ∧ Dk c m k d ∧ 5 ≤ m ∧ wid c m k ≤ 1000000 ∧ k ≤ 60
theorem Fm.same {K : PySem.W.Frag} {H H' : Hp} {y : V} (f : Fm K H y) (s : Same H H') : Fm K H' y := by
  obtain ⟨d, c, m, k, h, r⟩ := f
  exact ⟨d, c, m, k, dpSame s h, r⟩

/-! ### a message of two parts or more: some text -/
section
variable {X : Cx}
/-- a part: under A it is some text of at most a million signs -/
inductive PM (X : Cx) : List Expr → List (L2.St → Hp → Prop) → Prop where
  | nil : PM X [] []
  | cons {e : Expr} {A : L2.St → Hp → Prop} {es : List Expr} {As : List (L2.St → Hp → Prop)} (h : PE X e (fun σ H Q => A σ H ∧ ∀ t : Str, t.length ≤ 1000000 → Q (.str t) H)) (r : PM X es As) : PM X (e :: es) (A :: As)
theorem PM.pj {es : List Expr} {As : List (L2.St → Hp → Prop)} (h : PM X es As) : PJ X es (As.map fun A => fun σ H Q => A σ H ∧ ∀ t : Str, t.length ≤ 1000000 → Q (.str t) H) := by
  induction h with
  | nil => exact .nil
  | cons h r ih => exact .cons h ih
theorem msg_run : ∀ (As : List (L2.St → Hp → Prop)) (acc : Str) (σ : L2.St) (H : Hp) (Q : Str → Hp → Prop), (∀ A ∈ As, A σ H) → acc.length + As.length * 1000000 ≤ sizeLine → (∀ t, Q t H) →
    tJs (As.map fun A => fun σ H Q => A σ H ∧ ∀ t : Str, t.length ≤ 1000000 → Q (.str t) H) acc σ H Q
  | [], acc, σ, H, Q, _, _, q => q acc
  | A :: As, acc, σ, H, Q, h, hz, q => by
    rw [List.length_cons, Nat.succ_mul] at hz
    refine ⟨h A List.mem_cons_self, fun t ht => ⟨t, rfl, ?_, ?_⟩⟩
    · rw [strLen_append]
      omega
    · refine msg_run As (acc ++ t) σ H Q (fun B hB => h B (List.mem_cons_of_mem _ hB)) ?_ q
      rw [strLen_append]
      omega
/-- all of them, one by one -/
def allA : List (L2.St → Hp → Prop) → L2.St → Hp → Prop
  | [], _, _ => True
  | A :: As, σ, H => A σ H ∧ allA As σ H
theorem allA_mem {σ : L2.St} {H : Hp} : ∀ {As : List (L2.St → Hp → Prop)}, allA As σ H → ∀ A ∈ As, A σ H
  | [], _, _, h => absurd h List.not_mem_nil
  | _ :: _, q, A, h => (List.mem_cons.mp h).elim (fun z => z ▸ q.1) (allA_mem q.2 A)
theorem pe_msg {v1 v2 : Expr} {rest : List Expr} {As : List (L2.St → Hp → Prop)} {pos : Pos} (h : PM X (v1 :: v2 :: rest) As) (hz : As.length ≤ 16) : PE X (.JoinedStr (v1 :: v2 :: rest) pos) (fun σ H Q => allA As σ H ∧ ∀ t : Str, Q (.str t) H) :=
  PE.imp (pe_joined h.pj) fun σ H Q q => msg_run As Str.empty σ H _ (allA_mem q.1) (by
    have e : Str.empty.length = 0 := rfl
    rw [e]
    have : As.length * 1000000 ≤ 16 * 1000000 := Nat.mul_le_mul_right _ hz
    exact Nat.le_trans (by omega) (by decide : 16000000 ≤ sizeLine)) q.2
theorem pm_str {x : Str} {j : Nat} {pos : Pos} (hx : x.length ≤ 1000000) : PE X (.Constant (.str x) j pos) (fun σ H Q => True ∧ ∀ t : Str, t.length ≤ 1000000 → Q (.str t) H) := PE.imp pe_str fun σ H Q q => q.2 x hx
theorem pm_fmt {x : Str} {p pos : Pos} {k0 i : Nat} (hr : RoomH k0 X.A) (he : PE X (.Name x p) (tVar i)) : PE X (.FormattedValue (.Name x p) (-1) none pos) (fun σ H Q => (∃ y, σ[i]? = some (some y) ∧ Fm X.K H y) ∧ ∀ t : Str, t.length ≤ 1000000 → Q (.str t) H) :=
  PE.imp (pe_fmtD hr he) fun σ H Q q => by
    obtain ⟨⟨y, hy, d, c, m, k, h1, h2, h3, h4, h5⟩, q2⟩ := q
    exact ⟨y, hy, d, c, m, k, h1, h2, h3, Nat.le_trans h4 (by decide), h5, fun t ht => q2 t (Nat.le_trans ht h4)⟩
/-- self.f = e in an error's __init__ -/
def tXset (K : PySem.W.Frag) (f : Str) (to te : TE) : TS := fun D σ H => te σ H fun y H1 => to σ H1 fun x H2 => ∃ a C : Addr, x = .ref a ∧ EC K C ∧ PySem.W.findIn K (.ref C) f = some none ∧
  ((H2 a = some (exo a C none) ∧ ∀ dx, H2 dx = none → dx ≠ a → D.nx σ (upd (upd H2 dx (exd dx [(f, y)])) a (exo a C (some dx)))) ∨
    ∃ (dx : Addr) (fs : List (Str × V)), H2 a = some (exo a C (some dx)) ∧ H2 dx = some (exd dx fs) ∧ fs.length ≤ 900 ∧ D.nx σ (upd H2 dx (exd dx ((f, y) :: fs))))
theorem ps_xset {o e : Expr} {to te : TE} {f : Str} {p' pos : Pos} (ho : PE X o to) (he : PE X e te) (hs : swapsWith e (some (.Attribute o f p')) pos.line X.env = pure false := by rfl) : PS X (.Assign [.Attribute o f p'] e pos) (tXset X.K f to te) := by
  refine ⟨fun pins s σ H D I h => ?_⟩
  refine plainObj_wpAny_Assign_Attribute (thn (he.run pins s σ H _ I h) fun v s1 ⟨y, H1, I1, r1, q1⟩ => thn (ho.run pins s1 σ H1 _ I1 q1) fun u s2 ⟨x, H2, I2, r2, a, C, ex, T, hno, q⟩ => ?_) hs
  subst ex
  obtain rfl : u = Value.ref a := r2
  rcases q with ⟨ea, q⟩ | ⟨dx, fs, ea, ed, hl, q⟩
  · exact set_new T I2 ea hno r1 fun dx s' n ne J => ⟨σ, _, J, q dx n ne⟩
  · exact set_old T I2 ea ed hl hno r1 fun s' J => ⟨σ, _, J, q⟩
end
/-- what such an __init__ promises: the error has its fields, the first one last -/
def spI (K : PySem.W.Frag) (C : Addr) (code : Str) (fl : List Str) : Sp := fun vs H Q _ => ∃ (a : Addr) (ys : List V), vs = .ref a :: ys ∧ ys.length = fl.length ∧ H a = some (exo a C none) ∧ (∀ y ∈ ys, Fm K H y) ∧
  ∀ (d : Addr) (H' : Hp), H d = none → d ≠ a → (∀ b o, b ≠ a → H b = some o → H' b = some o) → H' a = some (exo a C (some d)) → H' d = some (exd d ((("code" : Str), V.str code) :: (fl.zip ys).reverse)) → Q .non H'
/-- the facts of the class's fields -/
def NoF (K : PySem.W.Frag) (C : Addr) (fl : List Str) : Prop := PySem.W.findIn K (.ref C) "code" = some none ∧ ∀ f ∈ fl, PySem.W.findIn K (.ref C) f = some none
end Fb
namespace Fb
open PySem PySem.Spec PyProof.Rows L2
/-- a class's __init__ as the top has written it -/
structure InitF (P : Program) (K : PySem.W.Frag) (C fI : Addr) (st : Stmt) (qual : Str) (fd : FuncData) : Prop where
  ex : ∃ (oc : Value) (od : Option Addr) (doc pm : Value) (an : Option Addr) (ct : Value) (osl : Array (Option Value)) (c cc : Addr),
    fd = PySem.W.fnX "__init__" qual (defArgs st) (defBody st) (defScope st) [(("__class__" : Str), cc)] .none .none doc pm an (.ref c) ct ∧ K.lookup fI = some ⟨oc, od, .func fd, osl⟩ ∧
    SupIn P K C cc ⟨"__init__", qual, defArgs st, defBody st, defScope st, [(("__class__" : Str), cc)], c⟩
/-- behind some stores into the error at a -/
def Made (H : Hp) (a C dx : Addr) (fs : List (Str × V)) (H' : Hp) : Prop := (∀ b o, b ≠ a → H b = some o → H' b = some o) ∧ H' a = some (exo a C (some dx)) ∧ H' dx = some (exd dx fs)
theorem Made.new {H : Hp} {a C dx : Addr} {fs : List (Str × V)} (nx : H dx = none) (nd : dx ≠ a) : Made H a C dx fs (upd (upd H dx (exd dx fs)) a (exo a C (some dx))) :=
  ⟨fun b o hb e => (upd_two hb (ne_of_none e nx)).trans e, upd_same, (upd_ne nd).trans upd_same⟩
theorem Made.more {H H' : Hp} {a C dx : Addr} {fs fs' : List (Str × V)} (m : Made H a C dx fs H') (nx : H dx = none) (nd : dx ≠ a) : Made H a C dx fs' (upd H' dx (exd dx fs')) :=
  ⟨fun b o hb e => (upd_ne (ne_of_none e nx)).trans (m.1 b o hb e), (upd_ne (Ne.symm nd)).trans m.2.1, upd_same⟩
theorem InitF.binds {P : Program} {K : PySem.W.Frag} {C fI : Addr} {st : Stmt} {qual : Str} {fd : FuncData} {ps : List Str} (F : InitF P K C fI st qual fd)
    (h : ∀ (doc pm : Value) (an : Option Addr) (ct : Value) (c cc : Addr) (us : List Value), us.length = ps.length → bindArgs (PySem.W.fnX "__init__" qual (defArgs st) (defBody st) (defScope st) [(("__class__" : Str), cc)] .none .none doc pm an (.ref c) ct) ⟨us, []⟩ = pure (ps.zip us)) : Binds K fd ps [] := by
  obtain ⟨oc, od, doc, pm, an, ct, osl, c, cc, rfl, _, _⟩ := F.ex
  exact .all (h doc pm an ct c cc)
end Fb

set_option Elab.async false
set_option linter.all false
set_option maxRecDepth 100000
set_option maxHeartbeats 4000000
namespace Fb
open PySem PySem.Spec PyProof.Rows L2
/-! ### the bag of draws -/
def tCut (t u : TS) : TS := fun D σ H => ∃ Mid : L2.St → Hp → Prop, t { D with nx := Mid } σ H ∧ ∀ σ' H', Mid σ' H' → u D σ' H'
theorem pss_cut {X : Cx} {st : Stmt} {rest : List Stmt} {t u : TS} (h1 : PS X st t) (h2 : PSs X rest u) : PSs X (st :: rest) (tCut t u) := by
  refine ⟨fun pins s σ H D I ⟨Mid, hm, hu⟩ => wpAny_execs_cons (thn (h1.run pins s σ H { D with nx := Mid } I hm) fun f s1 q => ?_)⟩
  cases f with
  | next => exact let ⟨σ', H', I', q⟩ := q; h2.run pins s1 σ' H' D I' (hu σ' H' q)
  | ret v => exact q
  | brk => exact q
  | cont => exact q
/-- all that was tracked but the object at b is as it was -/
abbrev But (b : Addr) (H H' : Hp) : Prop := Same (L2.del H b) (L2.del H' b)
theorem But.refl {b : Addr} {H : Hp} : But b H H := Same.refl _
theorem But.of {b : Addr} {H H' : Hp} (s : Same H H') : But b H H' := fun c o e => by
  by_cases hb : c = b
  · rw [hb, L2.del_same] at e
    cases e
  · rw [L2.del_ne hb] at e ⊢
    exact s c o e
theorem But.upd {b : Addr} {H : Hp} {o : HO} : But b H (upd H b o) := fun c u e => by
  by_cases hb : c = b
  · rw [hb, L2.del_same] at e
    cases e
  · rw [L2.del_ne hb] at e ⊢
    rw [upd_ne hb]
    exact e
theorem But.trans {b : Addr} {H H' H'' : Hp} (x : But b H H') (y : But b H' H'') : But b H H'' := Same.trans x y
theorem But.at {b c : Addr} {H H' : Hp} {o : HO} (x : But b H H') (hc : c ≠ b) (e : H c = some o) : H' c = some o := by
  have q := x c o ((L2.del_ne hc).trans e)
  rw [L2.del_ne hc] at q
  exact q
theorem Same.undel {b : Addr} {H : Hp} : Same (L2.del H b) H := fun c o e => by
  by_cases hb : c = b
  · rw [hb, L2.del_same] at e
    cases e
  · rwa [L2.del_ne hb] at e
/-- what the five cells are -/
def bagL (l : Addr) (i big seed cnt : Int) : HO := .lst [.ref l, .int i, .int big, .int seed, .int cnt]
structure BagAt (l : Addr) (H : Hp) (b : Addr) : Prop where
  at_ : ∃ (ns : List Int) (i big seed cnt : Int), H b = some (bagL l i big seed cnt) ∧ H l = some (.lst (ns.map V.int)) ∧ l ≠ b ∧ 0 ≤ i ∧ 0 ≤ big ∧ 0 ≤ seed ∧ seed < 2147483629
theorem BagAt.same {l : Addr} {H H' : Hp} {b : Addr} (x : BagAt l H b) (s : Same H H') : BagAt l H' b := by
  obtain ⟨ns, i, big, seed, cnt, h1, h2, r⟩ := x.at_
  exact ⟨ns, i, big, seed, cnt, s _ _ h1, s _ _ h2, r⟩
theorem BagAt.new {l : Addr} {H : Hp} {b p : Addr} (x : BagAt l H b) (np : H p = none) (o : HO) : BagAt l (upd H p o) b := x.same (same_new np o)
theorem BagAt.skip {l : Addr} {H : Hp} {b p : Addr} (x : BagAt l H b) (h1 : p ≠ b) (h2 : p ≠ l) (o : HO) : BagAt l (upd H p o) b := by
  obtain ⟨ns, i, big, seed, cnt, g1, g2, r⟩ := x.at_
  exact ⟨ns, i, big, seed, cnt, (upd_ne h1.symm).trans g1, (upd_ne h2.symm).trans g2, r⟩
theorem BagAt.cell {l : Addr} {H : Hp} {b p : Addr} (x : BagAt l H b) (h : H p = none) : p ≠ l := fun z => by
  obtain ⟨ns, i, big, seed, cnt, g1, g2, r⟩ := x.at_
  rw [z, g2] at h
  cases h
def spBag (K : PySem.W.Frag) : Sp := fun vs H Q _ => ∃ (a : Addr) (ns : List Int), vs = [.ref a] ∧ SqL K H a (ns.map V.int) ∧ ns.length ≤ 63 ∧ ∀ (b l : Addr) (H' : Hp), Same H H' → H b = none → H l = none → BagAt l H' b → Q (.ref b) H'
def spDraw : Sp := fun vs H Q _ => ∃ (b l : Addr) (n : Int), vs = [.ref b, .int n] ∧ BagAt l H b ∧ 0 < n ∧ n < 1073741824 ∧ ∀ (r : Int) (H' : Hp), 0 ≤ r → r < n → BagAt l H' b → But b H H' → Q (.int r) H'
/-- what a thing of a list, a tuple, a text is -/
def Among (K : PySem.W.Frag) (H : Hp) (b : Addr) (x : V) (n : Nat) (P : V → Prop) : Prop := (∃ (p : Addr) (xs : List V), x = .ref p ∧ p ≠ b ∧ (SqL K H p xs ∨ SqT K H p xs) ∧ xs.length = n ∧ ∀ y ∈ xs, P y) ∨ ∃ z : Str, x = .str z ∧ z.cps.toList.length = n ∧ ∀ c ∈ z.cps.toList, P (.str ⟨#[c]⟩)
def spOf (K : PySem.W.Frag) : Sp := fun vs H Q _ => ∃ (b l : Addr) (x : V) (n : Nat) (P : V → Prop), vs = [.ref b, x] ∧ BagAt l H b ∧ 0 < n ∧ n ≤ 100000 ∧ Among K H b x n P ∧ ∀ (y : V) (H' : Hp), P y → BagAt l H' b → But b H H' → Q y H'
theorem seqBut {K : PySem.W.Frag} {H H' : Hp} {b p : Addr} {xs : List V} (x : But b H H') (hp : p ≠ b) (h : SqL K H p xs ∨ SqT K H p xs) : SqL K H' p xs ∨ SqT K H' p xs := by
  refine h.imp (fun h => ?_) fun h => ?_
  · rcases h with (h | ⟨o, h⟩) | h
    · exact .inl (.inl (x.at hp h))
    · exact .inl (.inr ⟨o, x.at hp h⟩)
    · exact .inr h
  · rcases h with (h | ⟨o, h⟩) | h
    · exact .inl (.inl (x.at hp h))
    · exact .inl (.inr ⟨o, x.at hp h⟩)
    · exact .inr h
theorem fmodR {i n : Int} (h : 0 < n) : 0 ≤ i.fmod n ∧ i.fmod n < n := by
  rw [Int.fmod_eq_emod_of_nonneg _ (by omega)]
  exact ⟨Int.emod_nonneg _ (by omega), Int.emod_lt_of_pos _ h⟩
theorem fdivR {i n : Int} (h0 : 0 ≤ i) (h : 0 < n) : 0 ≤ i.fdiv n := by
  rw [Int.fdiv_eq_ediv_of_nonneg _ (by omega)]
  exact Int.ediv_nonneg h0 (by omega)
end Fb

set_option Elab.async false
set_option linter.all false
set_option maxRecDepth 100000
set_option maxHeartbeats 4000000
namespace Fb
open PySem PySem.Spec PyProof.Rows L2
/-- a def of the top that may be called by its name -/
structure Rd (P : Program) (w : World) (K : PySem.W.Frag) (mg : Str → Option Value) (base : Heap) (CX : CXT) (k : Nat) (x : Str) (ps : List Str) (sp : Sp) : Prop where
  ex : ∃ (f : Addr) (fd : FuncData), FnOk P w K mg base CX k f fd ps sp ∧ mg x = some (.ref f) ∧ PySem.W.keepIn K (.ref f) = true ∧ Binds K fd ps []
structure RdW (P : Program) (w : World) (K : PySem.W.Frag) (mg : Str → Option Value) (base : Heap) (CX : CXT) (k : Nat) (x : Str) (ps : List Str) (sp : Sp) : Prop where
  ex : ∃ (f : Addr) (fd : FuncData), FnW P w K mg base CX k f fd ps sp ∧ mg x = some (.ref f) ∧ PySem.W.keepIn K (.ref f) = true ∧ Binds K fd ps []
theorem RdW.rd {P : Program} {w : World} {K : PySem.W.Frag} {mg : Str → Option Value} {base : Heap} {CX : CXT} {k : Nat} {x : Str} {ps : List Str} {sp : Sp} (R : RdW P w K mg base CX k x ps sp) : Rd P w K mg base CX k x ps sp := by
  obtain ⟨f, fd, F, r⟩ := R.ex
  exact ⟨f, fd, F.ok, r⟩
/-- where it stands, of what it is -/
structure Sat (K : PySem.W.Frag) (mg : Str → Option Value) (x : Str) (st : Stmt) (ps : List Str) : Prop where
  ex : ∃ (f : Addr) (fd : FuncData), Fun K x x st f fd ∧ mg x = some (.ref f) ∧ PySem.W.keepIn K (.ref f) = true ∧ Binds K fd ps []
section
variable {X : Cx} {CX : CXT} {k : Nat} {ps : List Str} {sp : Sp} {E : XK} {x : Str} {q pos : Pos} {e : Expr} {es : List Expr} {t : TA}
theorem pe_rd (R : Rd X.prog X.w X.K X.mg X.base CX k x ps sp) (hr : Room k X.A) (hg : Gl X x) (hx : Passes CX X E) (ha : PA X (e :: es) t) (hdb : (x == ("__debug__" : Str)) = false := by decide)
    (he : starEach (e :: es) X.env = (false, eval e X.env) :: starEach es X.env := by rfl) (hpl : (backTo pos (starEach es X.env)).any (·.1) = false := by rfl) : PE X (.Call (.Name x q) (e :: es) [] pos) (tCall sp [] E t) := by
  obtain ⟨f, fd, F, hm, hk, hb⟩ := R.ex
  exact pe_call F hr hg hm hk hb .nil hx ha hdb he hpl
theorem pe_rdW (R : RdW X.prog X.w X.K X.mg X.base CX k x ps sp) (hr : RoomH k X.A) (hg : Gl X x) (hx : Passes CX X E) (ha : PA X (e :: es) t) (hdb : (x == ("__debug__" : Str)) = false := by decide)
    (he : starEach (e :: es) X.env = (false, eval e X.env) :: starEach es X.env := by rfl) (hpl : (backTo pos (starEach es X.env)).any (·.1) = false := by rfl) : PE X (.Call (.Name x q) (e :: es) [] pos) (tCall sp [] E t) := by
  obtain ⟨f, fd, F, hm, hk, hb⟩ := R.ex
  exact pe_callW F hr hg hm hk hb hx ha hdb he hpl
end
theorem atI_mem {α : Type} {xs : List α} {i : Int} {v : α} (h : atI xs i = some v) : v ∈ xs := by
  obtain ⟨j, _, h⟩ := Option.bind_eq_some_iff.mp h
  exact List.mem_of_getElem? h
theorem atI_some {α : Type} {xs : List α} {i : Int} (h0 : 0 ≤ i) (h : i < xs.length) : ∃ v, v ∈ xs ∧ atI xs i = some v := by
  have hk : i.toNat < xs.length := by omega
  have e : i = ((i.toNat : Nat) : Int) := by omega
  refine ⟨xs[i.toNat], List.getElem_mem hk, ?_⟩
  have y : atI xs ((i.toNat : Nat) : Int) = some xs[i.toNat] := atI_nat (List.getElem?_eq_getElem hk)
  rw [← e] at y
  exact y
end Fb

set_option Elab.async false
set_option linter.all false
set_option maxRecDepth 100000
set_option maxHeartbeats 4000000
namespace Fb
open PySem PySem.Spec PyProof.Rows L2
/-- what is new in H' -/
def fresh (H H' : Hp) : Hp := fun a => match H a with
  | none => H' a
  | some _ => none
theorem fresh_some {H H' : Hp} {a : Addr} {o : HO} (h : fresh H H' a = some o) : H a = none ∧ H' a = some o := by
  unfold fresh at h
  split at h
  · exact ⟨‹_›, h⟩
  · cases h
theorem fresh_of {H H' : Hp} {a : Addr} {o : HO} (h1 : H a = none) (h2 : H' a = some o) : fresh H H' a = some o := by
  unfold fresh
  rw [h1]
  exact h2
theorem fresh_sub {H H' : Hp} : Same (fresh H H') H' := fun a o h => (fresh_some h).2
theorem but_new {b p : Addr} {H H' : Hp} {o : HO} (x : But b H H') (h : H p = none) : But b H (upd H' p o) := fun c u e => by
  have y := x c u e
  by_cases hb : c = b
  · rw [hb, L2.del_same] at e
    cases e
  · rw [L2.del_ne hb] at e y ⊢
    rw [upd_ne (ne_of_none e h)]
    exact y
theorem but_sub {b : Addr} {H H' : Hp} (x : But b H H') {a : Addr} {o : HO} (hb : H b = none ∨ a ≠ b) (h : H a = some o) : H' a = some o := by
  refine x.at ?_ h
  rcases hb with hb | hb
  · intro z
    rw [z, hb] at h
    cases h
  · exact hb
theorem BagAt.some {l : Addr} {H : Hp} {b : Addr} (B : BagAt l H b) : ∃ o, H b = some o := by
  obtain ⟨ns, i, big, seed, cnt, h, _⟩ := B.at_
  exact ⟨_, h⟩
theorem BagAt.ne {l : Addr} {H : Hp} {b p : Addr} (B : BagAt l H b) (h : H p = none) : p ≠ b := fun z => by
  obtain ⟨o, e⟩ := B.some
  rw [z, e] at h
  cases h
/-- new things stay, the bag and the list in the making aside -/
theorem fresh_step {H H1 H2 : Hp} {b D : Addr} (hb : ∃ o, H b = some o) (x : But b H1 H2) : Same (L2.del (fresh H H1) D) (L2.del (fresh H H2) D) := fun a o h => by
  by_cases hD : a = D
  · rw [hD, L2.del_same] at h
    cases h
  · rw [L2.del_ne hD] at h ⊢
    obtain ⟨h1, h2⟩ := fresh_some h
    refine fresh_of h1 (x.at (fun z => ?_) h2)
    obtain ⟨u, hu⟩ := hb
    rw [z, hu] at h1
    cases h1
theorem fresh_in {H H1 H2 : Hp} {b D : Addr} (x : But b H H1) (hb : ∃ o, H1 b = some o) (hD : ∃ o, H1 D = some o) : Same (fresh H1 H2) (L2.del (fresh H H2) D) := fun a o h => by
  obtain ⟨h1, h2⟩ := fresh_some h
  have hne : a ≠ D := fun z => by
    obtain ⟨u, hu⟩ := hD
    rw [z, hu] at h1
    cases h1
  rw [L2.del_ne hne]
  refine fresh_of ?_ h2
  cases e : H a with
  | none => rfl
  | some u =>
    exfalso
    have hab : a ≠ b := fun z => by
      obtain ⟨u, hu⟩ := hb
      rw [z, hu] at h1
      cases h1
    rw [x.at hab e] at h1
    cases h1
theorem del_upd {H : Hp} {D : Addr} {o : HO} : L2.del (upd H D o) D = L2.del H D := by
  funext a
  by_cases h : a = D
  · rw [h, L2.del_same, L2.del_same]
  · rw [L2.del_ne h, L2.del_ne h, upd_ne h]
theorem fresh_del_upd {H H1 : Hp} {D : Addr} {o : HO} : L2.del (fresh H (upd H1 D o)) D = L2.del (fresh H H1) D := by
  funext a
  by_cases h : a = D
  · rw [h, L2.del_same, L2.del_same]
  · rw [L2.del_ne h, L2.del_ne h]
    unfold fresh
    rw [upd_ne h]
theorem del_sub {H : Hp} {D : Addr} : Same (L2.del H D) H := Same.undel
theorem dpAll_snoc {K : PySem.W.Frag} {H : Hp} : ∀ {vs : List V} {ds : List PyData} {v : V} {d : PyData}, DpAll K H vs ds → Dp K H v d → DpAll K H (vs ++ [v]) (ds ++ [d])
  | _, _, _, _, .nil, h => .cons h .nil
  | _, _, _, _, .cons a t, h => .cons a (dpAll_snoc t h)
theorem but_free {b l D : Addr} {H H1 : Hp} (x : But b H H1) (B : BagAt l H1 b) (h : H1 D = none) : H D = none := by
  cases e : H D with
  | none => rfl
  | some u =>
    rw [x.at (B.ne h) e] at h
    cases h
theorem fresh_back {b l : Addr} {H H1 H2 : Hp} (x : But b H H1) (B : BagAt l H1 b) : Same (fresh H1 H2) (fresh H H2) := fun a o h => by
  obtain ⟨h1, h2⟩ := fresh_some h
  exact fresh_of (but_free x B h1) h2
theorem fresh_new {D : Addr} {H H1 : Hp} {o : HO} (h : H1 D = none) : Same (fresh H H1) (fresh H (upd H1 D o)) := fun a u e => by
  obtain ⟨h1, h2⟩ := fresh_some e
  exact fresh_of h1 ((upd_ne (ne_of_none h2 h)).trans h2)
theorem sum_ones : ∀ (ys : List Str), (∀ y ∈ ys, y.length = 1) → (ys.map (·.length)).sum = ys.length
  | [], _ => rfl
  | y :: r, h => by
    rw [List.map_cons, List.sum_cons, sum_ones r fun z hz => h z (List.mem_cons_of_mem _ hz), h y List.mem_cons_self, List.length_cons]
    exact Nat.add_comm _ _
/-! ### a text joined of signs -/
theorem joinL_signs {N : Nat} : ∀ (ps : List (List Nat)), (∀ p ∈ ps, p.length = 1 ∧ ∀ c ∈ p, c < N) → (TL.joinL [] ps).length = ps.length ∧ ∀ c ∈ TL.joinL [] ps, c < N
  | [], _ => ⟨rfl, fun c h => nomatch h⟩
  | [p], h => ⟨(h p (by simp)).1, (h p (by simp)).2⟩
  | p :: q :: r, h => by
    have ih := joinL_signs (q :: r) fun x hx => h x (List.mem_cons_of_mem _ hx)
    have hp := h p List.mem_cons_self
    constructor
    · show (p ++ ([] ++ TL.joinL [] (q :: r))).length = _
      rw [List.length_append, List.nil_append, ih.1, hp.1]
      exact Nat.add_comm _ _
    · intro c hc
      have hc : c ∈ p ++ ([] ++ TL.joinL [] (q :: r)) := hc
      rw [List.nil_append] at hc
      rcases List.mem_append.mp hc with z | z
      · exact hp.2 c z
      · exact ih.2 c z
theorem join_signs {N : Nat} (ys : List Str) (h : ∀ y ∈ ys, y.length = 1 ∧ ∀ c ∈ TL.tl y, c < N) : (Txt.join ⟨#[]⟩ ys).length = ys.length ∧ ∀ c ∈ TL.tl (Txt.join ⟨#[]⟩ ys), c < N := by
  have e : TL.tl (Txt.join ⟨#[]⟩ ys) = TL.joinL [] (ys.map TL.tl) := by
    rw [TL.join_eq, TL.tl_join]
  have q := joinL_signs (N := N) (ys.map TL.tl) fun p hp => by
    obtain ⟨y, hy, rfl⟩ := List.mem_map.mp hp
    refine ⟨?_, (h y hy).2⟩
    have := (h y hy).1
    simpa [Str.length] using this
  rw [← e] at q
  refine ⟨?_, q.2⟩
  have := q.1
  simpa [Str.length] using this
theorem int_small {i : Int} {k : Nat} (hk : 0 < k) (h1 : -(10 : Int) ^ k < i) (h2 : i < 10 ^ k) : ((toString i : String) : Str).length ≤ k + 1 := by
  have q := int_text_length_le10 (a := i) (k := k) hk (by
    have e : ((10 ^ k : Nat) : Int) = (10 : Int) ^ k := by norm_cast
    omega)
  exact Nat.le_trans (Nat.le_of_eq (PySem.ofString_length (toString i))) q
end Fb

set_option Elab.async false
set_option linter.all false
set_option maxRecDepth 100000
set_option maxHeartbeats 4000000
namespace Fb
open PySem PySem.Spec PyProof.Rows L2 RZ
theorem ty_seqL {K : PySem.W.Frag} {H : Hp} {a : Addr} {xs : List V} (h : SqL K H a xs) : TyX K H (.ref a) (.type "list") := by
  rcases h with (h | ⟨o, h⟩) | ⟨o, its, n, hk, hc, _⟩
  · exact .base (.lst h)
  · exact .base (.frz h)
  · exact .kList hk hc
theorem ty_seqT {K : PySem.W.Frag} {H : Hp} {a : Addr} {xs : List V} (h : SqT K H a xs) : TyX K H (.ref a) (.type "tuple") := by
  rcases h with (h | ⟨o, h⟩) | ⟨o, its, n, hk, hc, _⟩
  · exact .base (.tup h)
  · exact .fTuple h
  · exact .kTuple hk hc
theorem iteN {A B : Prop} {c : Bool} (e : c = false) (h : B) : if c = true then A else B := by
  rw [e]
  exact iteF h
theorem iteY {A B : Prop} {c : Bool} (e : c = true) (h : A) : if c = true then A else B := by
  rw [e]
  exact iteT h
theorem any_lt {K : PySem.W.Frag} {tx : String} {b1 b2 : Bool} (h1 : kitB tx "list" = some b1) (h2 : kitB tx "tuple" = some b2) : PySem.W.kitAny K (.type tx) [.type "list", .type "tuple"] = some (b1 || b2) := by
  refine kitAny_cons (kit_ty h1) (fun e => kitAny_cons (kit_ty h2) (fun e2 => ?_) (fun e2 => ?_)) (fun e => ?_)
  · rw [e, e2]
    rfl
  · rw [e, e2]
    rfl
  · rw [e]
    rfl
theorem all_true : ∀ n : Nat, (List.replicate n true).all id = true
  | 0 => rfl
  | n + 1 => by
    rw [List.replicate_succ, List.all_cons, all_true n]
    rfl
theorem rep_snoc {n : Nat} : (List.replicate n true).map V.bl ++ [V.bl true] = (List.replicate (n + 1) true).map V.bl := by
  rw [List.replicate_succ', List.map_append]
  rfl
/-- the walk over zip of two tuples -/
theorem walk_zipTT {K : PySem.W.Frag} {a b : Addr} {xs ys : List V} (hl : xs.length = ys.length) : Walk (ItzT K a b) xs.length (fun H => SqT K H a xs ∧ SqT K H b ys) (YPair (fun i => xs[i]?) (fun i => ys[i]?)) :=
  ⟨fun i H hi q => ⟨xs, ys, xs[i], ys[i], q.1, q.2, List.getElem?_eq_getElem hi, List.getElem?_eq_getElem (by omega)⟩, fun H q => ⟨xs, ys, q.1, q.2, .inl (Nat.le_refl _)⟩,
    fun i H x H' hi q y => by
      obtain ⟨T, x, y, e1, e2, e3, h1, h2⟩ := y
      exact ⟨T, x, y, e1, e2, e3, h1 xs q.1, h2 ys q.2⟩⟩
end Fb

set_option Elab.async false
set_option linter.all false
set_option maxRecDepth 100000
set_option maxHeartbeats 4000000
namespace Fb
open PySem PySem.Spec PyProof.Rows L2
/-- a list of truths in the making, a sign of z each -/
def PvSigns (z : Str) (f : Nat → Bool) (H : Hp) (D : Addr) (i : Nat) (Hi : Hp) : Prop := Hi D = some (.lst (((z.cps.toList.take i).map f).map V.bl)) ∧ Same H Hi
theorem PvSigns.start {z : Str} {f : Nat → Bool} {H : Hp} {D : Addr} (hD : H D = none) : PvSigns z f H D 0 (upd H D (.lst [])) := ⟨by rw [List.take_zero]; exact upd_same, same_new hD _⟩
theorem PvSigns.step {z : Str} {f : Nat → Bool} {H H2 : Hp} {D : Addr} {i : Nat} {c : Nat} (hD : H D = none) (p : PvSigns z f H D i H2) (hc : z.cps[i]? = some c) :
    PvSigns z f H D (i + 1) (upd H2 D (.lst (((z.cps.toList.take i).map f).map V.bl ++ [.bl (f c)]))) := by
  refine ⟨?_, fun a o e => (upd_ne (ne_of_none e hD)).trans (p.2 _ _ e)⟩
  have e : z.cps.toList.take (i + 1) = z.cps.toList.take i ++ [c] := by
    rw [List.take_succ]
    have : z.cps.toList[i]? = some c := by simpa using hc
    rw [this]
    rfl
  rw [e, List.map_append, List.map_append]
  exact upd_same
theorem PvSigns.len {z : Str} {f : Nat → Bool} {i : Nat} (hz : z.length ≤ 1000000) : (((z.cps.toList.take i).map f).map V.bl).length < sizeLine := by
  rw [List.length_map, List.length_map, List.length_take]
  have h : z.cps.toList.length = z.length := by simp [Str.length]
  have hz2 : sizeLine = 16777216 := sizeLine_eq
  omega
theorem PvSigns.fin {z : Str} {f : Nat → Bool} {H H2 : Hp} {D : Addr} (p : PvSigns z f H D z.cps.size H2) : H2 D = some (.lst ((z.cps.toList.map f).map V.bl)) := by
  have e : z.cps.toList.take z.cps.size = z.cps.toList := List.take_of_length_le (by simp)
  have q := p.1
  rwa [e] at q
theorem joinL_all {R : Nat → Prop} : ∀ (ps : List (List Nat)), (∀ p ∈ ps, p.length = 1 ∧ ∀ c ∈ p, R c) → (TL.joinL [] ps).length = ps.length ∧ ∀ c ∈ TL.joinL [] ps, R c
  | [], _ => ⟨rfl, fun c h => nomatch h⟩
  | [p], h => ⟨(h p (by simp)).1, (h p (by simp)).2⟩
  | p :: q :: r, h => by
    have ih := joinL_all (q :: r) fun x hx => h x (List.mem_cons_of_mem _ hx)
    have hp := h p List.mem_cons_self
    constructor
    · show (p ++ ([] ++ TL.joinL [] (q :: r))).length = _
      rw [List.length_append, List.nil_append, ih.1, hp.1]
      exact Nat.add_comm _ _
    · intro c hc
      have hc : c ∈ p ++ ([] ++ TL.joinL [] (q :: r)) := hc
      rw [List.nil_append] at hc
      rcases List.mem_append.mp hc with z | z
      · exact hp.2 c z
      · exact ih.2 c z
theorem join_all {R : Nat → Prop} (ys : List Str) (h : ∀ y ∈ ys, y.length = 1 ∧ ∀ c ∈ TL.tl y, R c) : (Txt.join ⟨#[]⟩ ys).length = ys.length ∧ ∀ c ∈ TL.tl (Txt.join ⟨#[]⟩ ys), R c := by
  have e : TL.tl (Txt.join ⟨#[]⟩ ys) = TL.joinL [] (ys.map TL.tl) := by
    rw [TL.join_eq, TL.tl_join]
  have q := joinL_all (R := R) (ys.map TL.tl) fun p hp => by
    obtain ⟨y, hy, rfl⟩ := List.mem_map.mp hp
    refine ⟨?_, (h y hy).2⟩
    have := (h y hy).1
    simpa [Str.length] using this
  rw [← e] at q
  refine ⟨?_, q.2⟩
  have := q.1
  simpa [Str.length] using this
/-- a comprehension of drawn signs in the making -/
def PvDrawn (R : Nat → Prop) (b l D : Addr) (H : Hp) (i : Nat) (Hi : Hp) : Prop := ∃ ys : List Str, Hi D = some (.lst (ys.map V.str)) ∧ ys.length = i ∧ (∀ y ∈ ys, y.length = 1 ∧ ∀ c ∈ TL.tl y, R c) ∧ BagAt l Hi b ∧ But b H Hi
theorem PvDrawn.start {R : Nat → Prop} {b l D : Addr} {H : Hp} (B : BagAt l H b) (hD : H D = none) : PvDrawn R b l D H 0 (upd H D (.lst [])) := ⟨[], upd_same, rfl, (fun y hy => nomatch hy), B.new hD _, But.of (same_new hD _)⟩
theorem PvDrawn.step {R : Nat → Prop} {b l D : Addr} {H Hi H3 : Hp} {i c : Nat} {ys : List Str} (B : BagAt l H b) (hD : H D = none) (hy : Hi D = some (.lst (ys.map V.str))) (hl : ys.length = i) (hs : ∀ y ∈ ys, y.length = 1 ∧ ∀ c ∈ TL.tl y, R c) (bi : But b H Hi) (hc : R c)
    (B3 : BagAt l H3 b) (bt3 : But b Hi H3) (hi : i < 1000) : ∃ acc, H3 D = some (.lst acc) ∧ acc.length < sizeLine ∧ PvDrawn R b l D H (i + 1) (upd H3 D (.lst (acc ++ [.str ⟨#[c]⟩]))) := by
  have hDb : D ≠ b := B.ne hD
  refine ⟨ys.map V.str, bt3.at hDb hy, (by rw [List.length_map, hl]; have : sizeLine = 16777216 := sizeLine_eq; omega), ys ++ [⟨#[c]⟩], ?_, by rw [List.length_append, hl]; rfl, ?_, B3.skip hDb (B.cell hD) _, but_new (bi.trans bt3) hD⟩
  · rw [List.map_append]
    exact upd_same
  · intro y hy
    rcases List.mem_append.mp hy with z | z
    · exact hs y z
    · obtain rfl : y = ⟨#[c]⟩ := by simpa using z
      exact ⟨rfl, fun x hx => by
        have : x = c := by simpa using hx
        rw [this]
        exact hc⟩
def lowers : Str := "abcdefghijklmnopqrstuvwxyz"
def isName (z : Str) : Bool := decide (1 ≤ z.length) && (decide (z.length ≤ 6) && z.cps.toList.all fun c => decide (c ∈ lowers.cps.toList))
def spTold (g : Str → Bool) : Sp := fun vs H Q _ => ∃ z : Str, vs = [.str z] ∧ z.length ≤ 1000000 ∧ ∀ H', Same H H' → Q (.bl (g z)) H'
theorem isName_of {z : Str} (h1 : 1 ≤ z.length) (h2 : z.length ≤ 6) (h : ∀ c ∈ TL.tl z, c ∈ lowers.cps.toList) : isName z = true := by
  unfold isName
  rw [decide_eq_true h1, decide_eq_true h2]
  exact List.all_eq_true.mpr fun c hc => decide_eq_true (h c hc)
end Fb

set_option Elab.async false
set_option linter.all false
set_option maxRecDepth 100000
set_option maxHeartbeats 4000000
namespace Fb
open PySem PySem.Spec PyProof.Rows L2
theorem but_in2 {b : Addr} {H H' : Hp} (x : But b H H') : Same (L2.del H b) H' := L2.Same.trans x Same.undel
theorem inV_strs {z : Str} {ns : List Str} : inV (.str z) (ns.map V.str) = decide (z ∈ ns) := by
  unfold inV
  rw [Bool.eq_iff_iff, List.any_eq_true, decide_eq_true_iff]
  constructor
  · rintro ⟨y, hy, e⟩
    obtain ⟨s, hs, rfl⟩ := List.mem_map.mp hy
    have e2 : (s == z) = true := e
    rw [beq_iff_eq] at e2
    rwa [← e2]
  · intro h
    refine ⟨.str z, List.mem_map.mpr ⟨z, h, rfl⟩, ?_⟩
    show (z == z) = true
    exact beq_self_eq_true z
theorem flat_strs : ∀ ns : List Str, (ns.map V.str).all flatV = true
  | [] => rfl
  | n :: r => by
    rw [List.map_cons, List.all_cons, flat_strs r]
    rfl
/-- no more different things than the list has that holds them all -/
theorem nodup_le {α : Type} [DecidableEq α] : ∀ (l m : List α), l.Nodup → (∀ x ∈ l, x ∈ m) → l.length ≤ m.length
  | [], _, _, _ => Nat.zero_le _
  | x :: r, m, h, s => by
    rw [List.nodup_cons] at h
    have hx := s x List.mem_cons_self
    have ih := nodup_le r (m.erase x) h.2 fun y hy => by
      have hy2 := s y (List.mem_cons_of_mem _ hy)
      have ne : y ≠ x := fun e => h.1 (e ▸ hy)
      exact (List.mem_erase_of_ne ne).mpr hy2
    rw [List.length_erase_of_mem hx] at ih
    have := List.length_pos_of_mem hx
    rw [List.length_cons]
    omega
theorem cut5 {z : Str} : TL.tl (cutS z none (some 5)) = (TL.tl z).take 5 := by
  show ((z.cps.toList.drop 0).take (min 5 z.length - 0)) = _
  rw [List.drop_zero, Nat.sub_zero]
  have h : z.cps.toList.length = z.length := by simp [Str.length]
  by_cases h5 : 5 ≤ z.length
  · rw [Nat.min_eq_left h5]
  · rw [Nat.min_eq_right (by omega), List.take_of_length_le (by omega), List.take_of_length_le (by show z.cps.toList.length ≤ 5; omega)]
/-- the k-th other name -/
def other (z : Str) (s : Int) (k : Nat) : Str := cutS z none (some 5) ++ ⟨#[97 + ((s + (k : Int)).fmod 26).toNat]⟩
theorem other_tl {z : Str} {s : Int} {k : Nat} : TL.tl (other z s k) = (TL.tl z).take 5 ++ [97 + ((s + (k : Int)).fmod 26).toNat] := by
  unfold other
  rw [TL.tl_append, cut5]
theorem other_inj {z : Str} {s : Int} {j k : Nat} (h0 : 0 ≤ s) (hj : j < 26) (hk : k < 26) (e : other z s j = other z s k) : j = k := by
  have e2 : TL.tl (other z s j) = TL.tl (other z s k) := by rw [e]
  rw [other_tl, other_tl] at e2
  have e3 := List.append_cancel_left e2
  have e4 : 97 + ((s + (j : Int)).fmod 26).toNat = 97 + ((s + (k : Int)).fmod 26).toNat := by simpa using e3
  rw [Int.fmod_eq_emod_of_nonneg _ (by omega), Int.fmod_eq_emod_of_nonneg _ (by omega)] at e4
  omega
theorem low_at {i : Nat} (h : i < 26) : lowers.cps.toList[i]? = some (97 + i) := by
  have e : ∀ i < 26, lowers.cps.toList[i]? = some (97 + i) := by decide +kernel
  exact e i h
theorem other_name {z : Str} {s : Int} {k : Nat} (hz : isName z = true) (h0 : 0 ≤ s) : isName (other z s k) = true := by
  unfold isName at hz
  rw [Bool.and_eq_true, Bool.and_eq_true, decide_eq_true_iff, decide_eq_true_iff, List.all_eq_true] at hz
  have hl : (TL.tl (other z s k)).length = (other z s k).length := by simp [Str.length]
  rw [other_tl, List.length_append, List.length_take] at hl
  have hm : min 5 (TL.tl z).length + [97 + ((s + (k : Int)).fmod 26).toNat].length = (other z s k).length := hl
  have h1 : [97 + ((s + (k : Int)).fmod 26).toNat].length = 1 := rfl
  refine isName_of (by omega) (by omega) fun c hc => ?_
  rw [other_tl] at hc
  rcases List.mem_append.mp hc with hc | hc
  · exact of_decide_eq_true (hz.2.2 c (List.mem_of_mem_take hc))
  · have e : c = 97 + ((s + (k : Int)).fmod 26).toNat := by simpa using hc
    rw [e]
    have hb := fmodR (i := s + (k : Int)) (n := 26) (by decide)
    exact List.mem_of_getElem? (low_at (i := ((s + (k : Int)).fmod 26).toNat) (by omega))
theorem other_free {z : Str} {s : Int} {ns : List Str} (h0 : 0 ≤ s) (hn : ns.length < 26) (h : ∀ k < 26, other z s k ∈ ns) : False := by
  have hd : ((List.range 26).map (other z s)).Nodup := by
    unfold List.Nodup
    rw [List.pairwise_map]
    refine List.Pairwise.imp_of_mem (fun {j k} hj hk hne e => hne ?_) (List.nodup_range (n := 26))
    exact other_inj h0 (List.mem_range.mp hj) (List.mem_range.mp hk) e
  have q := nodup_le _ ns hd fun x hx => by
    obtain ⟨k, hk, rfl⟩ := List.mem_map.mp hx
    exact h k (List.mem_range.mp hk)
  rw [List.length_map, List.length_range] at q
  omega
end Fb

set_option Elab.async false
set_option linter.all false
set_option maxRecDepth 100000
set_option maxHeartbeats 4000000
namespace Fb
open PySem PySem.Spec PyProof.Rows L2
/-- parts: pairs of a name and of signs -/
def PairsAt (K : PySem.W.Frag) (H : Hp) : List Addr → List (Str × Str) → Prop
  | [], [] => True
  | t :: ts, p :: ps => SqT K H t [.str p.1, .str p.2] ∧ PairsAt K H ts ps
  | _, _ => False
theorem PairsAt.same {K : PySem.W.Frag} {H H' : Hp} (s : Same H H') : ∀ {ts : List Addr} {ps : List (Str × Str)}, PairsAt K H ts ps → PairsAt K H' ts ps
  | [], [], _ => trivial
  | _ :: _, _ :: _, h => ⟨Same.seqT s h.1, h.2.same s⟩
theorem PairsAt.len {K : PySem.W.Frag} {H : Hp} : ∀ {ts : List Addr} {ps : List (Str × Str)}, PairsAt K H ts ps → ts.length = ps.length
  | [], [], _ => rfl
  | _ :: _, _ :: _, h => congrArg Nat.succ h.2.len
theorem PairsAt.get {K : PySem.W.Frag} {H : Hp} : ∀ {ts : List Addr} {ps : List (Str × Str)} {i : Nat} {t : Addr}, PairsAt K H ts ps → ts[i]? = some t → ∃ p, ps[i]? = some p ∧ SqT K H t [.str p.1, .str p.2]
  | _ :: _, p :: _, 0, _, h, e => by
    cases e
    exact ⟨p, rfl, h.1⟩
  | _ :: _, _ :: _, i + 1, _, h, e => PairsAt.get (i := i) h.2 e
theorem PairsAt.snoc {K : PySem.W.Frag} {H : Hp} {t : Addr} {p : Str × Str} (ht : SqT K H t [.str p.1, .str p.2]) : ∀ {ts : List Addr} {ps : List (Str × Str)}, PairsAt K H ts ps → PairsAt K H (ts ++ [t]) (ps ++ [p])
  | [], [], _ => ⟨ht, trivial⟩
  | _ :: _, _ :: _, h => ⟨h.1, PairsAt.snoc ht h.2⟩
/-- the list at p of such pairs -/
def PartsAt (K : PySem.W.Frag) (H : Hp) (p : Addr) (ps : List (Str × Str)) : Prop := ∃ ts : List Addr, SqL K H p (ts.map V.ref) ∧ PairsAt K H ts ps
theorem PartsAt.same {K : PySem.W.Frag} {H H' : Hp} {p : Addr} {ps : List (Str × Str)} (h : PartsAt K H p ps) (s : Same H H') : PartsAt K H' p ps := by
  obtain ⟨ts, h1, h2⟩ := h
  exact ⟨ts, s.seq h1, h2.same s⟩
/-- the reading of + on two texts -/
abbrev rAddS : R2 := fun x y H Q => ∃ i j, x = .str i ∧ y = .str j ∧ i.length + j.length ≤ sizeLine ∧ Q (.str (i ++ j)) H
/-- a part's text -/
def ptext (p : Str × Str) : Str := p.1 ++ ":" ++ p.2
def partsText (ps : List (Str × Str)) : Str := Txt.join " " (ps.map ptext)
/-- texts in the making -/
def PvTexts (f : Str × Str → Str) (ps : List (Str × Str)) (H : Hp) (D : Addr) (i : Nat) (Hi : Hp) : Prop := Hi D = some (.lst (((ps.take i).map f).map V.str)) ∧ Same H Hi
theorem PvTexts.step {f : Str × Str → Str} {ps : List (Str × Str)} {H Hi : Hp} {D : Addr} {i : Nat} {q : Str × Str} (hD : H D = none) (p : PvTexts f ps H D i Hi) (hq : ps[i]? = some q) :
    PvTexts f ps H D (i + 1) (upd Hi D (.lst (((ps.take i).map f).map V.str ++ [.str (f q)]))) := by
  refine ⟨?_, fun a o e => (upd_ne (ne_of_none e hD)).trans (p.2 _ _ e)⟩
  have e : ps.take (i + 1) = ps.take i ++ [q] := by rw [List.take_succ, hq]; rfl
  rw [e, List.map_append, List.map_append]
  exact upd_same
theorem strlen_sum {m : Nat} : ∀ (ys : List Str), (∀ y ∈ ys, y.length ≤ m) → (ys.map (·.length)).sum ≤ ys.length * m
  | [], _ => by simp
  | y :: r, h => by
    have ih := strlen_sum r fun z hz => h z (List.mem_cons_of_mem _ hz)
    have hy := h y List.mem_cons_self
    rw [List.map_cons, List.sum_cons, List.length_cons, Nat.succ_mul]
    omega
end Fb

set_option Elab.async false
set_option linter.all false
set_option maxRecDepth 100000
set_option maxHeartbeats 4000000
namespace Fb
open PySem PySem.Spec PyProof.Rows L2
/-- list(s) of a text: its signs -/
def signV (z : Str) : List V := z.cps.toList.map fun c => V.str ⟨#[c]⟩
theorem call_listS {X : Cx} (hc : X.calm = true) : CallR X (.type "list") (fun xs H Q => ∃ z : Str, xs = [.str z] ∧ z.length ≤ sizeLine ∧ ∀ l, H l = none → Q (.ref l) (upd H l (.lst (signV z)))) := by
  intro pins s σ H xs us Q I r h
  obtain ⟨z, rfl, hz, q⟩ := h
  obtain ⟨u, rfl, rx⟩ := vals1 r
  obtain ⟨t, rfl⟩ := rx
  refine call_list_str (I.ok.hd hc) z t (fun h' tk acc' c' kp e it => ?_) hz
  have rv : Vals (signV z) acc'.toList := by
    refine vals_of_at ?_ fun j x v hx hv => ?_
    · have := it.1
      simp [signV, this]
    · obtain ⟨c, w, h1, rfl⟩ := it.2 j v (by simpa using hv)
      unfold signV at hx
      rw [List.getElem?_map] at hx
      obtain ⟨c', hc', rfl⟩ := Option.map_eq_some_iff.mp hx
      have e3 : z.cps.toList[j]? = some c := by simpa using h1
      rw [e3] at hc'
      cases hc'
      exact ⟨_, rfl⟩
  have hlen : (signV z).length ≤ sizeLine := by
    unfold signV
    rw [List.length_map]
    have : z.cps.toList.length = z.length := by simp [Str.length]
    omega
  exact ⟨.ref s.heap.objs.size, _, I.laid (t' := tk) kp (Nat.le_refl _) (show ObjOk X.prog X.w _ h' _ (.lst (signV z)) from ⟨hlen, acc'.toList, c', rv, e⟩), rfl, q _ (I.hok.fresh (Nat.le_refl _))⟩
end Fb


set_option Elab.async false
set_option linter.all false
set_option maxRecDepth 100000
set_option maxHeartbeats 4000000
/-! len(set(x)), x a text or a list of texts, any number -/
namespace Fb
open PySem PySem.Spec PyProof.Rows L2
/-- one more, if it is another one -/
def more (l : List Str) (x : Str) : List Str := if x ∈ l then l else l ++ [x]
/-- the unlike ones of some texts -/
def unlike (xs : List Str) : List Str := xs.foldl more []
theorem unlike_snoc (xs : List Str) (x : Str) : unlike (xs ++ [x]) = more (unlike xs) x := by
  unfold unlike
  rw [List.foldl_append]
  rfl
theorem unlike_take {xs : List Str} {i : Nat} (h : i < xs.length) : unlike (xs.take (i + 1)) = more (unlike (xs.take i)) (xs.getD i Str.empty) := by
  have e : xs.take (i + 1) = xs.take i ++ [xs.getD i Str.empty] := by
    rw [List.take_succ, List.getElem?_eq_getElem h, List.getD_eq_getElem?_getD, List.getElem?_eq_getElem h]
    rfl
  rw [e, unlike_snoc]
theorem more_mem (l : List Str) (x k : Str) : (decide (k ∈ l) || decide (k = x)) = decide (k ∈ more l x) := by
  unfold more
  by_cases h : x ∈ l
  · rw [if_pos h]
    by_cases e : k = x
    · rw [e, decide_eq_true h]
      rfl
    · rw [decide_eq_false e, Bool.or_false]
  · rw [if_neg h]
    rw [Bool.eq_iff_iff]
    simp [List.mem_append]
theorem more_len (l : List Str) (x : Str) : (if decide (x ∈ l) = true then l.length else l.length + 1) = (more l x).length := by
  unfold more
  by_cases h : x ∈ l
  · rw [if_pos h, if_pos (decide_eq_true h)]
  · rw [if_neg h, if_neg (fun z => h (of_decide_eq_true z)), List.length_append]
    rfl
theorem more_nodup {l : List Str} (x : Str) (h : l.Nodup) : (more l x).Nodup := by
  unfold more
  by_cases e : x ∈ l
  · rwa [if_pos e]
  · rw [if_neg e, List.nodup_append]
    refine ⟨h, by simp, fun a ha b hb z => ?_⟩
    have : b = x := by simpa using hb
    rw [z, this] at ha
    exact e ha
theorem fold_len : ∀ (xs acc : List Str), (xs.foldl more acc).length ≤ acc.length + xs.length
  | [], acc => Nat.le_refl _
  | x :: r, acc => by
    have ih := fold_len r (more acc x)
    have h : (more acc x).length ≤ acc.length + 1 := by
      unfold more
      split
      · omega
      · rw [List.length_append]
        exact Nat.le_refl _
    rw [List.foldl_cons, List.length_cons]
    omega
theorem unlike_len (xs : List Str) : (unlike xs).length ≤ xs.length := by
  have h := fold_len xs []
  rw [List.length_nil, Nat.zero_add] at h
  exact h
section
variable {prog : Program} {w : World} {A : Around} {R : Result → Shared → Prop} {I : Addr} {fp wr : List Addr} {G : Array GenState → Array GenState → Prop} {n : Nat} {P : Nat → Value → Prop} {St : Nat → Shared → Prop}
/-- the loop that fills a set with texts -/
theorem set_fill (W : WalksS prog w A.in1 I fp wr G n P St) (S : Addr) (hSf : S ∉ fp) (xs : List Str) (hn : xs.length = n) (hb : n + 1 < scanBound) (hv : ∀ i v, P i v → ∃ t, v = .str (xs.getD i Str.empty) t) : ∀ (k i : Nat) (s : Shared), n - i = k → i ≤ n → St i s →
    s.heap.SetOf (PySem.strKind prog w) S (fun y => decide (y ∈ unlike (xs.take i))) (unlike (xs.take i)).length →
    (∀ s', Moved (S :: wr) G s s' → s'.heap.SetOf (PySem.strKind prog w) S (fun y => decide (y ∈ unlike (xs.take n))) (unlike (xs.take n)).length → R (.ok (.ret .none)) s') → codeAny (model prog w) A (.builtin "set.update.loop" ⟨[.ref S, .ref I], []⟩) R s := by
  have nw : S ∉ wr := fun z => hSf (W.sub _ z)
  have up : ∀ b ∈ wr, b ∈ S :: wr := fun b z => List.mem_cons_of_mem _ z
  have goes : ∀ {s s' : Shared} {T : Str → Bool} {m : Nat}, Moved wr G s s' → s.heap.SetOf (PySem.strKind prog w) S T m → s'.heap.SetOf (PySem.strKind prog w) S T m := fun mv q => by
    obtain ⟨o, es, ep, tb, ho, z⟩ := q
    exact ⟨o, es, ep, tb, mv.heap S _ nw ho, z⟩
  intro k
  induction k with
  | zero =>
    intro i s hk hi st q hR
    have e : i = n := by omega
    subst e
    refine codeAny_builtin PyProof.Rows.F.entry_set_update_loop ?_
    rw [Around.under_plainId PyProof.Rows.F.plain_set_update_loop _]
    show wpAny _ A.in1 (pyNext (.ref I) >>= _) _ _ s
    exact wpAny_bind (W.done s _ _ st fun s' mv => wpAny_pure (hR s' (mv.mono up) (goes mv q)))
  | succ k ih =>
    intro i s hk hi st q hR
    have lt : i < n := by omega
    refine codeAny_builtin PyProof.Rows.F.entry_set_update_loop ?_
    rw [Around.under_plainId PyProof.Rows.F.plain_set_update_loop _]
    show wpAny _ A.in1 (pyNext (.ref I) >>= _) _ _ s
    refine wpAny_bind (W.item i s _ _ lt st fun v s' hP st' mv => ?_)
    obtain ⟨t, rfl⟩ := hv i v hP
    have q' := goes mv q
    show wpAny _ A.in1 (holding [Value.str (xs.getD i Str.empty) t] (setAdd S (.str (xs.getD i Str.empty) t)) >>= _) _ _ s'
    refine wpAny_bind (wpAny_holding ?_)
    unfold setAdd
    refine wpAny_holding (wpAny_bind ((PySem.strKind prog w).pyHash (k := xs.getD i Str.empty) (strKind_is _ _ _ _) ?_))
    have room : (unlike (xs.take i)).length + 1 < scanBound := by
      have h1 := unlike_len (xs.take i)
      rw [List.length_take] at h1
      omega
    refine wpAny_setAddHashed_of (knd := PySem.strKind prog w) (s := { s' with toks := s'.toks + 1 }) (strKind_is _ _ _ _) rfl q' room fun h' sb q2 => ?_
    have q3 : h'.SetOf (PySem.strKind prog w) S (fun y => decide (y ∈ unlike (xs.take (i + 1)))) (unlike (xs.take (i + 1))).length := by
      rw [unlike_take (by omega)]
      exact SetOf_congr q2 (fun y => more_mem _ _ y) (more_len _ _)
    refine wpAny_pure ⟨plainId_quiet PyProof.Rows.F.plain_set_update_loop _, ih (i + 1) _ (by omega) lt (W.frame _ s' _ _ st' (Nat.le_succ _) fun b hb o e => ?_) q3 fun s'' mv2 q4 => ?_⟩
    · exact (sb.2 b (fun z : b = S => hSf (z ▸ hb))).trans e
    · refine hR s'' (Moved.trans W.gtrans ((mv.mono up).then_heap (Nat.le_succ _) fun b o hb e => ?_) mv2) q4
      exact (sb.2 b (fun z : b = S => hb (z ▸ List.mem_cons_self))).trans e
end
section
variable {prog : Program} {w : World} {A : Around} {E : Value → Shared → Prop} {s : Shared}
abbrev setO (led : Bool) : Obj := { cls := .type "set", dict := none, data := .set #[] 0 (.fresh 0 0 led) }
set_option maxHeartbeats 8000000 in
theorem call_set_S {z : Str} {t : Tok} {Q : Value → Shared → Prop} (hh : A.handled = none) (hb : z.cps.size + 1 < scanBound)
    (h : ∀ (h' : Heap) (tk : Nat), h'.SetOf (PySem.strKind prog w) s.heap.objs.size (fun y => decide (y ∈ unlike ((z.cps.toList.map fun c => (⟨#[c]⟩ : Str)).take z.cps.size))) (unlike ((z.cps.toList.map fun c => (⟨#[c]⟩ : Str)).take z.cps.size)).length → (∀ b o, b < s.heap.objs.size → s.heap.get? b = some o → h'.get? b = some o) → Q (.ref s.heap.objs.size) { s with heap := h', toks := tk }) :
    wpAny (model prog w) A (call (.type "set") [.str z t]) Q E s := by
  obtain ⟨c0, tl, hmro⟩ := PySem.F.called_set.mro
  have hmade := PySem.F.called_set.made
  have hsub := PySem.F.called_set.sub
  refine wpAny_call (codeAny_of_tree ?_)
  show wpAny _ _ (callAny (.type "set") _) _ _ _
  refine wpAny_pure ⟨Code.quiet_builtin _ (by decide +kernel), codeAny_builtin PySem.F.entry_type_call ?_⟩
  rw [Around.under_plain (weight_type_call_type "set" [.str z t] []) rfl]
  have h1 := PySem.F.called_set.notType
  have h2 := PySem.F.called_set.canCreate
  have hct := PySem.F.typeCall_set_1 (.str z t)
  repeat (any_goals (first | assumption | wp_step))
  refine codeAny_mono (code_set_new_1 (.str z t) (E := E) (Q₁ := fun obj s₁ => ∃ led : Bool, obj = .ref s.heap.objs.size ∧ s₁ = { s with heap := s.heap.push (setO led) }) fun led => ⟨led, rfl, rfl⟩) fun r s₁ hr => ?_
  match r, hr with
  | .error e, hr => exact hr
  | .ok .next, hr => exact hr.elim
  | .ok .brk, hr => exact hr.elim
  | .ok .cont, hr => exact hr.elim
  | .ok (.ret obj), hr =>
    obtain ⟨led, rfl, rfl⟩ := hr
    have hS : (s.heap.push (setO led)).get? s.heap.objs.size = some (setO led) := Heap.get?_push_size _ rfl
    have hT : Shared.TypeIs { s with heap := s.heap.push (setO led) } (.ref s.heap.objs.size) "set" := ⟨_, hS, rfl⟩
    have hli := PySem.F.called_set.init.lookup
    have hbi := PySem.F.called_set.init.bind (.ref s.heap.objs.size)
    repeat (any_goals (first | assumption | wp_step))
    refine codeAny_mono (codeAny_call_builtin (R := wants (fun r s₂ => r = .none ∧ ∃ h' tk, s₂ = { s with heap := h', toks := tk } ∧ h'.SetOf (PySem.strKind prog w) s.heap.objs.size (fun y => decide (y ∈ unlike ((z.cps.toList.map fun c => (⟨#[c]⟩ : Str)).take z.cps.size))) (unlike ((z.cps.toList.map fun c => (⟨#[c]⟩ : Str)).take z.cps.size)).length ∧ (∀ b o, b < s.heap.objs.size → s.heap.get? b = some o → h'.get? b = some o)) E)
        PySem.F.called_set.init.plain PySem.F.entry_set_init (check_set_init_1 hT ?_)) fun r₂ s₂ hr₂ => ?_
    · have hs1 : isSubtype (.type "str") (.type "set") = pure false := by rw [isSubtype_type]; kernel_rfl
      have hs2 : isSubtype (.type "str") (.type "frozenset") = pure false := by rw [isSubtype_type]; kernel_rfl
      have hs3 : (Value.type "str" == Value.type "dict") = false := by decide
      unfold Builtin.«set.__init__» noKeywords Builtin.Frozenset.updateFrom
      generalize hPI : pyIter = PI
      wp_walk
      subst hPI
      refine wpAny_pyIter_str fun o St W hst => ?_
      refine wpAny_bind (wpAny_runValue ?_)
      have hSf : s.heap.objs.size ∉ [(s.heap.push (setO led)).objs.size] := by
        rw [Heap.size_push, List.mem_singleton]
        exact Nat.ne_of_lt (Nat.lt_succ_self _)
      have hv : ∀ (i : Nat) (v : Value), SignAt z i v → ∃ t, v = .str ((z.cps.toList.map fun c => (⟨#[c]⟩ : Str)).getD i Str.empty) t := fun i v ⟨c, u, hc, e⟩ => by
        refine ⟨u, ?_⟩
        rw [e, List.getD_eq_getElem?_getD, List.getElem?_map]
        have : z.cps.toList[i]? = some c := by simpa using hc
        rw [this]
        rfl
      refine set_fill (W _ (by simp [hh])).toS s.heap.objs.size hSf _ (by simp) hb hv (z.cps.size - 0) 0 _ (by omega) (Nat.zero_le _) hst ?_ ?_
      · exact PyProof.Rows.SetOf_congr ((PyProof.Rows.setObjOf_fresh (knd := PySem.strKind prog w) led).setOf (Heap.get?_push_of_some _ hS) (by unfold scanBound; omega)) (fun _ => rfl) rfl
      · intro s' mv q'
        obtain ⟨h', g', d', tk', os'⟩ := s'
        obtain rfl : g' = s.gens := mv.gens
        obtain rfl : d' = s.drawn := mv.drawn
        obtain rfl : os' = s.os := mv.os
        show wpAny _ _ _ _ _ _
        refine wpAny_pure ?_
        show wpAny _ _ (ret Value.none) _ _ _
        refine wpAny_pure ⟨rfl, h', tk', rfl, q', fun b o lt e => ?_⟩
        refine mv.heap b o (fun zm => ?_) (Heap.get?_push_of_some _ (Heap.get?_push_of_some _ e))
        have z1 : (s.heap.push (setO led)).objs.size = s.heap.objs.size + 1 := Heap.size_push _ _
        rcases List.mem_cons.mp zm with e1 | zm
        · exact absurd e1 (Nat.ne_of_lt lt)
        · exact absurd ((List.mem_singleton.mp zm).trans z1) (Nat.ne_of_lt (Nat.lt_succ_of_lt lt))
    · match r₂, hr₂ with
      | .error e, hr₂ => exact hr₂
      | .ok .next, hr₂ => exact hr₂.elim
      | .ok .brk, hr₂ => exact hr₂.elim
      | .ok .cont, hr₂ => exact hr₂.elim
      | .ok (.ret r), hr₂ =>
        obtain ⟨rfl, h', tk, rfl, q', k'⟩ := hr₂
        repeat (any_goals (first | assumption | wp_step))
        exact h _ _ q' k'
set_option maxHeartbeats 8000000 in
theorem call_set_L {l : Addr} {items : Array Value} {xs : List Str} {Q : Value → Shared → Prop} (hh : A.handled = none) (hl : s.heap.IsList l items) (hi : PyProof.Rows.StrsAre items.toList xs) (hb : items.size + 1 < scanBound)
    (h : ∀ (h' : Heap) (tk : Nat), h'.SetOf (PySem.strKind prog w) s.heap.objs.size (fun y => decide (y ∈ unlike (xs.take items.size))) (unlike (xs.take items.size)).length → (∀ b o, b < s.heap.objs.size → s.heap.get? b = some o → h'.get? b = some o) → Q (.ref s.heap.objs.size) { s with heap := h', toks := tk }) :
    wpAny (model prog w) A (call (.type "set") [.ref l]) Q E s := by
  obtain ⟨c0, tl, hmro⟩ := PySem.F.called_set.mro
  have hmade := PySem.F.called_set.made
  have hsub := PySem.F.called_set.sub
  refine wpAny_call (codeAny_of_tree ?_)
  show wpAny _ _ (callAny (.type "set") _) _ _ _
  refine wpAny_pure ⟨Code.quiet_builtin _ (by decide +kernel), codeAny_builtin PySem.F.entry_type_call ?_⟩
  rw [Around.under_plain (weight_type_call_type "set" [.ref l] []) rfl]
  have h1 := PySem.F.called_set.notType
  have h2 := PySem.F.called_set.canCreate
  have hct := PySem.F.typeCall_set_1 (.ref l)
  repeat (any_goals (first | assumption | wp_step))
  refine codeAny_mono (code_set_new_1 (.ref l) (E := E) (Q₁ := fun obj s₁ => ∃ led : Bool, obj = .ref s.heap.objs.size ∧ s₁ = { s with heap := s.heap.push (setO led) }) fun led => ⟨led, rfl, rfl⟩) fun r s₁ hr => ?_
  match r, hr with
  | .error e, hr => exact hr
  | .ok .next, hr => exact hr.elim
  | .ok .brk, hr => exact hr.elim
  | .ok .cont, hr => exact hr.elim
  | .ok (.ret obj), hr =>
    obtain ⟨led, rfl, rfl⟩ := hr
    have hS : (s.heap.push (setO led)).get? s.heap.objs.size = some (setO led) := Heap.get?_push_size _ rfl
    have hT : Shared.TypeIs { s with heap := s.heap.push (setO led) } (.ref s.heap.objs.size) "set" := ⟨_, hS, rfl⟩
    have hli := PySem.F.called_set.init.lookup
    have hbi := PySem.F.called_set.init.bind (.ref s.heap.objs.size)
    repeat (any_goals (first | assumption | wp_step))
    refine codeAny_mono (codeAny_call_builtin (R := wants (fun r s₂ => r = .none ∧ ∃ h' tk, s₂ = { s with heap := h', toks := tk } ∧ h'.SetOf (PySem.strKind prog w) s.heap.objs.size (fun y => decide (y ∈ unlike (xs.take items.size))) (unlike (xs.take items.size)).length ∧ (∀ b o, b < s.heap.objs.size → s.heap.get? b = some o → h'.get? b = some o)) E)
        PySem.F.called_set.init.plain PySem.F.entry_set_init (check_set_init_1 hT ?_)) fun r₂ s₂ hr₂ => ?_
    · obtain ⟨⟨ocls, odict, odata, oslots⟩, hol, hcl, nl, hdl⟩ := hl
      simp only at hcl hdl
      subst hcl
      subst hdl
      have hol' : (s.heap.push (setO led)).get? l = some { cls := .type "list", dict := odict, data := .seq items nl, slots := oslots } := Heap.get?_push_of_some _ hol
      have hs1 := PySem.F.sub_list_set
      have hs2 := PySem.F.sub_list_frozenset
      have hs3 : (Value.type "list" == Value.type "dict") = false := by decide
      have hl1 : (s.heap.push (setO led)).IsList l items := ⟨_, hol', rfl, nl, rfl⟩
      unfold Builtin.«set.__init__» noKeywords Builtin.Frozenset.updateFrom
      generalize hPI : pyIter = PI
      wp_walk
      subst hPI
      refine wpAny_pyIter_list hl1 ?_
      refine wpAny_bind (wpAny_runValue ?_)
      have hlS : l < s.heap.objs.size := Heap.lt_size hol
      have z0 : (s.heap.push (setO led)).objs.size = s.heap.objs.size + 1 := Heap.size_push _ _
      have hne : l ≠ (s.heap.push (setO led)).objs.size := fun z => absurd (z.trans z0) (Nat.ne_of_lt (Nat.lt_succ_of_lt hlS))
      have hSf : s.heap.objs.size ∉ [(s.heap.push (setO led)).objs.size, l] := fun zm => by
        rcases List.mem_cons.mp zm with e1 | zm
        · exact absurd (e1.trans z0) (Nat.ne_of_lt (Nat.lt_succ_self _))
        · exact absurd (List.mem_singleton.mp zm) (Nat.ne_of_gt hlS)
      have hsz : xs.length = items.size := by rw [← StrsAre.len_eq hi, Array.length_toList]
      have hv : ∀ (i : Nat) (v : Value), items[i]? = some v → ∃ t, v = .str (xs.getD i Str.empty) t := fun i v hv => SS.strs_at hi i v (by rw [Array.getElem?_toList]; exact hv)
      refine set_fill (Walks.list (by simp [hh]) _ l hne items).toS s.heap.objs.size hSf xs hsz hb hv (items.size - 0) 0 _ (by omega) (Nat.zero_le _) ⟨⟨_, Heap.get?_push_size _ rfl, rfl, rfl⟩, hl1.push _⟩ ?_ ?_
      · exact PyProof.Rows.SetOf_congr ((PyProof.Rows.setObjOf_fresh (knd := PySem.strKind prog w) led).setOf (Heap.get?_push_of_some _ hS) (by unfold scanBound; omega)) (fun _ => rfl) rfl
      · intro s' mv q'
        obtain ⟨h', g', d', tk', os'⟩ := s'
        obtain rfl : g' = s.gens := mv.gens
        obtain rfl : d' = s.drawn := mv.drawn
        obtain rfl : os' = s.os := mv.os
        show wpAny _ _ _ _ _ _
        refine wpAny_pure ?_
        show wpAny _ _ (ret Value.none) _ _ _
        refine wpAny_pure ⟨rfl, h', tk', rfl, q', fun b o lt e => ?_⟩
        refine mv.heap b o (fun zm => ?_) (Heap.get?_push_of_some _ (Heap.get?_push_of_some _ e))
        have z1 : (s.heap.push (setO led)).objs.size = s.heap.objs.size + 1 := Heap.size_push _ _
        rcases List.mem_cons.mp zm with e1 | zm
        · exact absurd e1 (Nat.ne_of_lt lt)
        · exact absurd ((List.mem_singleton.mp zm).trans z1) (Nat.ne_of_lt (Nat.lt_succ_of_lt lt))
    · match r₂, hr₂ with
      | .error e, hr₂ => exact hr₂
      | .ok .next, hr₂ => exact hr₂.elim
      | .ok .brk, hr₂ => exact hr₂.elim
      | .ok .cont, hr₂ => exact hr₂.elim
      | .ok (.ret r), hr₂ =>
        obtain ⟨rfl, h', tk, rfl, q', k'⟩ := hr₂
        repeat (any_goals (first | assumption | wp_step))
        exact h _ _ q' k'
end
end Fb

set_option Elab.async false
set_option linter.all false
set_option maxRecDepth 100000
set_option maxHeartbeats 4000000
namespace Fb
open PySem PySem.Spec PyProof.Rows L2
def signsL (z : Str) : List Str := z.cps.toList.map fun c => (⟨#[c]⟩ : Str)
/-- len(set(x)), x a text or a list of texts -/
def tLenSet (K : PySem.W.Frag) (ta : TE) : TE := fun σ H Q => ta σ H fun x H1 => (∃ z : Str, x = .str z ∧ z.length ≤ 4000 ∧ Q (.int (unlike (signsL z)).length) H1) ∨ ∃ (l : Addr) (xs : List Str), x = .ref l ∧ SqL K H1 l (xs.map V.str) ∧ xs.length ≤ 4000 ∧ Q (.int (unlike xs).length) H1
theorem pe_lenSet {X : Cx} {a : Expr} {ta : TE} {p p2 q pos : Pos} (hg : Gl X "len") (hm : X.mg "len" = none) (hg2 : Gl X "set") (hm2 : X.mg "set" = none) (ha : PE X a ta) (hc : X.calm = true := by rfl)
    (na : starEach [a] X.env = (false, eval a X.env) :: starEach [] X.env := by rfl) : PE X (.Call (.Name "len" p) [.Call (.Name "set" p2) [a] [] q] [] pos) (tLenSet X.K ta) := by
  refine ⟨fun pins s σ H Q I h => ?_⟩
  refine Call_ (ld_blt I hg hm boot_len ?_)
  refine PyProof.Rows.callWith_builtin1 (PyProof.Rows.args_cons ?_ rfl) rfl rfl
  refine Call_ (ld_blt I hg2 hm2 boot_set ?_)
  refine PyProof.Rows.callWith_type1 (PyProof.Rows.args_cons (thn (ha.run pins s σ H _ I h) fun v s1 ⟨x, H1, I1, r1, q1⟩ => PyProof.Rows.args_nil ?_) na) na rfl
  have fin : ∀ (m : Nat) (T : Str → Bool), m ≤ 4000 → (∀ (z : V) , z = .int m → Q z H1) → ∀ (h' : Heap) (tk : Nat), h'.SetOf (PySem.strKind X.prog X.w) s1.heap.objs.size T m → (∀ b o, b < s1.heap.objs.size → s1.heap.get? b = some o → h'.get? b = some o) →
      wpAny (model X.prog X.w) X.A (spliced (backTo pos (starEach [] X.env))) (fun vs s₂ => wpAny (model X.prog X.w) X.A (call (.builtin "len") (Value.ref s1.heap.objs.size :: vs)) (EP X pins σ Q) X.xe s₂) X.xe { s1 with heap := h', toks := tk } := fun m T hm q2 h' tk hS hk => by
    refine PyProof.Rows.args_nil ?_
    obtain ⟨o, es, ep, t, ho, hex, hd, _, _, _, hf, hn⟩ := hS
    have I2 : Inv X pins σ H1 { s1 with heap := h', toks := tk } := I1.kept fun b o e => hk b o (Heap.lt_size e) e
    have hz2 : sizeLine = 16777216 := sizeLine_eq
    exact call_len_set ho hex hd hf (by rw [hn]; omega) ⟨.int m, H1, I2.tok _, ⟨_, by rw [hn]⟩, q2 _ rfl⟩
  rcases q1 with ⟨z, rfl, hz, q1⟩ | ⟨l, xs, rfl, hq, hz, q1⟩
  · obtain ⟨t, rfl⟩ := r1
    have hl : z.cps.toList.length = z.cps.size := by simp
    have hz0 : z.cps.size ≤ 4000 := hz
    refine call_set_S (I1.ok.hd hc) (by unfold scanBound; omega) fun h' tk hS hk => ?_
    have e : (z.cps.toList.map fun c => (⟨#[c]⟩ : Str)).take z.cps.size = signsL z := List.take_of_length_le (by rw [List.length_map]; omega)
    rw [e] at hS
    refine fin _ _ ?_ (fun y e => by rw [e]; exact q1) h' tk hS hk
    have h1 := unlike_len (signsL z)
    have h2 : (signsL z).length = z.cps.size := by unfold signsL; rw [List.length_map, hl]
    omega
  · obtain rfl := r1
    obtain ⟨its, r, pl, hz3⟩ := I1.list hq
    have hl : its.toArray.size = xs.length := by rw [List.size_toArray, ← r.length, List.length_map]
    refine call_set_L (I1.ok.hd hc) pl.isList (by simpa using strsAre_of r) (by rw [hl]; unfold scanBound; omega) fun h' tk hS hk => ?_
    have e : xs.take its.toArray.size = xs := List.take_of_length_le (by omega)
    rw [e] at hS
    refine fin _ _ ?_ (fun y e => by rw [e]; exact q1) h' tk hS hk
    have h1 := unlike_len xs
    omega
end Fb

set_option Elab.async false
set_option linter.all false
set_option maxRecDepth 100000
set_option maxHeartbeats 4000000
namespace Fb
open PySem PySem.Spec PyProof.Rows L2
theorem fold_len_iff : ∀ (xs acc : List Str), acc.Nodup → ((xs.foldl more acc).length = acc.length + xs.length ↔ (acc ++ xs).Nodup)
  | [], acc, h => by
    rw [List.append_nil]
    exact ⟨fun _ => h, fun _ => rfl⟩
  | x :: r, acc, h => by
    rw [List.foldl_cons, List.length_cons]
    by_cases e : x ∈ acc
    · have e1 : more acc x = acc := if_pos e
      have l := fold_len r acc
      rw [e1]
      refine ⟨fun q => by omega, fun q => ?_⟩
      rw [List.nodup_append] at q
      exact absurd rfl (q.2.2 x e x List.mem_cons_self)
    · have e1 : more acc x = acc ++ [x] := if_neg e
      have hn : (acc ++ [x]).Nodup := by
        have := more_nodup x h
        rwa [e1] at this
      have ih := fold_len_iff r (acc ++ [x]) hn
      rw [e1]
      rw [List.length_append, List.append_assoc] at ih
      have h1 : [x].length = 1 := rfl
      refine Iff.trans ⟨fun q => by omega, fun q => by omega⟩ ih
theorem unlike_iff (xs : List Str) : (unlike xs).length = xs.length ↔ xs.Nodup := by
  have h := fold_len_iff xs [] List.nodup_nil
  rw [List.length_nil, Nat.zero_add, List.nil_append] at h
  exact h
theorem one_inj {c d : Nat} (h : (⟨#[c]⟩ : Str) = ⟨#[d]⟩) : c = d := by
  have e : TL.tl (⟨#[c]⟩ : Str) = TL.tl ⟨#[d]⟩ := by rw [h]
  simpa using e
theorem signsL_nodup {z : Str} : (signsL z).Nodup ↔ (TL.tl z).Nodup := by
  unfold signsL List.Nodup
  rw [List.pairwise_map]
  constructor
  · intro h
    exact h.imp fun {a b} q e => q (by rw [e])
  · intro h
    exact h.imp fun {a b} q e => q (one_inj e)
theorem signsL_len {z : Str} : (signsL z).length = z.length := by
  unfold signsL
  simp [Str.length]
def signsS : Str := "0123456789abcdefghijklmnopqrstuvwxyz"
/-- good signs of a part -/
def areSigns (z : Str) : Bool := decide (1 ≤ z.length) && (decide (z.length ≤ 16) && (decide (TL.tl z).Nodup && z.cps.toList.all fun c => decide (c ∈ signsS.cps.toList)))
end Fb

set_option Elab.async false
set_option linter.all false
set_option maxRecDepth 100000
set_option maxHeartbeats 4000000
namespace K1
open PySem PySem.Spec PyProof.Rows L2 Fb
def top (i : Nat) : Stmt := PySem.Challenge.pw_fewbreak_k01_letters_told_and_refused.main.body.getD i (.Pass ⟨0, 0, 0, 0⟩)
section
variable {P : Program} {w : World} {K : PySem.W.Frag} {mg : Str → Option Value} {base : Heap} {C fI : Addr} {fd : FuncData}

abbrev sBadText : Stmt := inClass (top 2) 0
theorem sc_BadText : NdefX.NScope ["self", "line", "why", "__class__"] ["self", "line", "why"] ["__class__"] (defScope sBadText) := NdefX.nscope_by (by decide +kernel)
theorem ok_BadText (T : EC K C) (S : InitF P K C fI sBadText "BadText.__init__" fd) (no : NoF K C ["line", "why"]) (ms : mg "super" = none) : FnOk P w K mg base CX0 1 fI fd ["self", "line", "why"] (spI K C "BadText" ["line", "why"]) := by
  obtain ⟨oc, od, doc, pm, an, ct, osl, c, cc, rfl, lk, SI⟩ := S.ex
  refine super_def (N := ["self", "line", "why", "__class__"]) (ar := ⟨"self", none, _⟩) T SI sc_BadText rfl lk rfl rfl rfl ms (fun vs H Q E h => ?_) fun A outer s H vs Q E hr h => ?_
  · obtain ⟨a, ys, rfl, hl, _⟩ := h
    exact congrArg Nat.succ hl
  obtain ⟨a, ys, rfl, hl, ha, hf, q⟩ := h
  match ys, hl with
  | [y0, y1], _ =>
    refine ⟨a, _, _, rfl, ha, pa_cons (pe_msg (.cons (pm_str (by decide +kernel)) (.cons (pm_fmt (i := 1) (RoomH.of hr) (pv 1)) (.cons (pm_str (by decide +kernel)) (.cons (pm_fmt (i := 2) (RoomH.of hr) (pv 2)) .nil)))) (by show 4 ≤ 16; decide)) pa_nil, (pss_cons (ps_xset (pv 0) (pv 1)) (pss_cons (ps_xset (pv 0) (pv 2)) (pss_one (ps_xset (pv 0) pe_str)))), ?_⟩
    refine ⟨⟨trivial, ⟨_, rfl, hf _ (by simp)⟩, trivial, ⟨_, rfl, hf _ (by simp)⟩, trivial⟩, fun t => ⟨by show 1 ≤ 1000; decide, ha, ?_⟩⟩
    refine ⟨_, rfl, _, rfl, a, C, rfl, T, (no.2 _ (by simp)), .inl ⟨ha, fun dx nx nd => ?_⟩⟩
    have m0 := Made.new (C := C) (fs := [(("line" : Str), y0)]) nx nd
    refine ⟨_, rfl, _, rfl, a, C, rfl, T, (no.2 _ (by simp)), .inr ⟨dx, _, m0.2.1, m0.2.2, (by show 1 ≤ 900; decide), ?_⟩⟩
    have m1 := Made.more (fs' := (("why" : Str), y1) :: [(("line" : Str), y0)]) m0 nx nd
    refine ⟨_, rfl, a, C, rfl, T, no.1, .inr ⟨dx, _, m1.2.1, m1.2.2, (by show 2 ≤ 900; decide), ?_⟩⟩
    have m2 := Made.more (fs' := (("code" : Str), V.str "BadText") :: [(("why" : Str), y1), (("line" : Str), y0)]) m1 nx nd
    exact q dx _ nx nd m2.1 m2.2.1 m2.2.2

abbrev sBadLetters : Stmt := inClass (top 3) 0
theorem sc_BadLetters : NdefX.NScope ["self", "at", "__class__"] ["self", "at"] ["__class__"] (defScope sBadLetters) := NdefX.nscope_by (by decide +kernel)
theorem ok_BadLetters (T : EC K C) (S : InitF P K C fI sBadLetters "BadLetters.__init__" fd) (no : NoF K C ["at"]) (ms : mg "super" = none) : FnOk P w K mg base CX0 1 fI fd ["self", "at"] (spI K C "BadLetters" ["at"]) := by
  obtain ⟨oc, od, doc, pm, an, ct, osl, c, cc, rfl, lk, SI⟩ := S.ex
  refine super_def (N := ["self", "at", "__class__"]) (ar := ⟨"self", none, _⟩) T SI sc_BadLetters rfl lk rfl rfl rfl ms (fun vs H Q E h => ?_) fun A outer s H vs Q E hr h => ?_
  · obtain ⟨a, ys, rfl, hl, _⟩ := h
    exact congrArg Nat.succ hl
  obtain ⟨a, ys, rfl, hl, ha, hf, q⟩ := h
  match ys, hl with
  | [y0], _ =>
    refine ⟨a, _, _, rfl, ha, pa_cons (pe_msg (.cons (pm_str (by decide +kernel)) (.cons (pm_fmt (i := 1) (RoomH.of hr) (pv 1)) (.cons (pm_str (by decide +kernel)) .nil))) (by show 3 ≤ 16; decide)) pa_nil, (pss_cons (ps_xset (pv 0) (pv 1)) (pss_one (ps_xset (pv 0) pe_str))), ?_⟩
    refine ⟨⟨trivial, ⟨_, rfl, hf _ (by simp)⟩, trivial, trivial⟩, fun t => ⟨by show 1 ≤ 1000; decide, ha, ?_⟩⟩
    refine ⟨_, rfl, _, rfl, a, C, rfl, T, (no.2 _ (by simp)), .inl ⟨ha, fun dx nx nd => ?_⟩⟩
    have m0 := Made.new (C := C) (fs := [(("at" : Str), y0)]) nx nd
    refine ⟨_, rfl, a, C, rfl, T, no.1, .inr ⟨dx, _, m0.2.1, m0.2.2, (by show 1 ≤ 900; decide), ?_⟩⟩
    have m1 := Made.more (fs' := (("code" : Str), V.str "BadLetters") :: [(("at" : Str), y0)]) m0 nx nd
    exact q dx _ nx nd m1.1 m1.2.1 m1.2.2

abbrev sBadNumber : Stmt := inClass (top 4) 0
theorem sc_BadNumber : NdefX.NScope ["self", "value", "__class__"] ["self", "value"] ["__class__"] (defScope sBadNumber) := NdefX.nscope_by (by decide +kernel)
theorem ok_BadNumber (T : EC K C) (S : InitF P K C fI sBadNumber "BadNumber.__init__" fd) (no : NoF K C ["value"]) (ms : mg "super" = none) : FnOk P w K mg base CX0 1 fI fd ["self", "value"] (spI K C "BadNumber" ["value"]) := by
  obtain ⟨oc, od, doc, pm, an, ct, osl, c, cc, rfl, lk, SI⟩ := S.ex
  refine super_def (N := ["self", "value", "__class__"]) (ar := ⟨"self", none, _⟩) T SI sc_BadNumber rfl lk rfl rfl rfl ms (fun vs H Q E h => ?_) fun A outer s H vs Q E hr h => ?_
  · obtain ⟨a, ys, rfl, hl, _⟩ := h
    exact congrArg Nat.succ hl
  obtain ⟨a, ys, rfl, hl, ha, hf, q⟩ := h
  match ys, hl with
  | [y0], _ =>
    refine ⟨a, _, _, rfl, ha, pa_cons (pe_msg (.cons (pm_str (by decide +kernel)) (.cons (pm_fmt (i := 1) (RoomH.of hr) (pv 1)) .nil)) (by show 2 ≤ 16; decide)) pa_nil, (pss_cons (ps_xset (pv 0) (pv 1)) (pss_one (ps_xset (pv 0) pe_str))), ?_⟩
    refine ⟨⟨trivial, ⟨_, rfl, hf _ (by simp)⟩, trivial⟩, fun t => ⟨by show 1 ≤ 1000; decide, ha, ?_⟩⟩
    refine ⟨_, rfl, _, rfl, a, C, rfl, T, (no.2 _ (by simp)), .inl ⟨ha, fun dx nx nd => ?_⟩⟩
    have m0 := Made.new (C := C) (fs := [(("value" : Str), y0)]) nx nd
    refine ⟨_, rfl, a, C, rfl, T, no.1, .inr ⟨dx, _, m0.2.1, m0.2.2, (by show 1 ≤ 900; decide), ?_⟩⟩
    have m1 := Made.more (fs' := (("code" : Str), V.str "BadNumber") :: [(("value" : Str), y0)]) m0 nx nd
    exact q dx _ nx nd m1.1 m1.2.1 m1.2.2

abbrev sTooMany : Stmt := inClass (top 5) 0
theorem sc_TooMany : NdefX.NScope ["self", "what", "found", "__class__"] ["self", "what", "found"] ["__class__"] (defScope sTooMany) := NdefX.nscope_by (by decide +kernel)
theorem ok_TooMany (T : EC K C) (S : InitF P K C fI sTooMany "TooMany.__init__" fd) (no : NoF K C ["what", "found"]) (ms : mg "super" = none) : FnOk P w K mg base CX0 1 fI fd ["self", "what", "found"] (spI K C "TooMany" ["what", "found"]) := by
  obtain ⟨oc, od, doc, pm, an, ct, osl, c, cc, rfl, lk, SI⟩ := S.ex
  refine super_def (N := ["self", "what", "found", "__class__"]) (ar := ⟨"self", none, _⟩) T SI sc_TooMany rfl lk rfl rfl rfl ms (fun vs H Q E h => ?_) fun A outer s H vs Q E hr h => ?_
  · obtain ⟨a, ys, rfl, hl, _⟩ := h
    exact congrArg Nat.succ hl
  obtain ⟨a, ys, rfl, hl, ha, hf, q⟩ := h
  match ys, hl with
  | [y0, y1], _ =>
    refine ⟨a, _, _, rfl, ha, pa_cons (pe_msg (.cons (pm_str (by decide +kernel)) (.cons (pm_fmt (i := 1) (RoomH.of hr) (pv 1)) (.cons (pm_str (by decide +kernel)) (.cons (pm_fmt (i := 2) (RoomH.of hr) (pv 2)) .nil)))) (by show 4 ≤ 16; decide)) pa_nil, (pss_cons (ps_xset (pv 0) (pv 1)) (pss_cons (ps_xset (pv 0) (pv 2)) (pss_one (ps_xset (pv 0) pe_str)))), ?_⟩
    refine ⟨⟨trivial, ⟨_, rfl, hf _ (by simp)⟩, trivial, ⟨_, rfl, hf _ (by simp)⟩, trivial⟩, fun t => ⟨by show 1 ≤ 1000; decide, ha, ?_⟩⟩
    refine ⟨_, rfl, _, rfl, a, C, rfl, T, (no.2 _ (by simp)), .inl ⟨ha, fun dx nx nd => ?_⟩⟩
    have m0 := Made.new (C := C) (fs := [(("what" : Str), y0)]) nx nd
    refine ⟨_, rfl, _, rfl, a, C, rfl, T, (no.2 _ (by simp)), .inr ⟨dx, _, m0.2.1, m0.2.2, (by show 1 ≤ 900; decide), ?_⟩⟩
    have m1 := Made.more (fs' := (("found" : Str), y1) :: [(("what" : Str), y0)]) m0 nx nd
    refine ⟨_, rfl, a, C, rfl, T, no.1, .inr ⟨dx, _, m1.2.1, m1.2.2, (by show 2 ≤ 900; decide), ?_⟩⟩
    have m2 := Made.more (fs' := (("code" : Str), V.str "TooMany") :: [(("found" : Str), y1), (("what" : Str), y0)]) m1 nx nd
    exact q dx _ nx nd m2.1 m2.2.1 m2.2.2

abbrev sUnknownPart : Stmt := inClass (top 7) 0
theorem sc_UnknownPart : NdefX.NScope ["self", "name", "__class__"] ["self", "name"] ["__class__"] (defScope sUnknownPart) := NdefX.nscope_by (by decide +kernel)
theorem ok_UnknownPart (T : EC K C) (S : InitF P K C fI sUnknownPart "UnknownPart.__init__" fd) (no : NoF K C ["name"]) (ms : mg "super" = none) : FnOk P w K mg base CX0 1 fI fd ["self", "name"] (spI K C "UnknownPart" ["name"]) := by
  obtain ⟨oc, od, doc, pm, an, ct, osl, c, cc, rfl, lk, SI⟩ := S.ex
  refine super_def (N := ["self", "name", "__class__"]) (ar := ⟨"self", none, _⟩) T SI sc_UnknownPart rfl lk rfl rfl rfl ms (fun vs H Q E h => ?_) fun A outer s H vs Q E hr h => ?_
  · obtain ⟨a, ys, rfl, hl, _⟩ := h
    exact congrArg Nat.succ hl
  obtain ⟨a, ys, rfl, hl, ha, hf, q⟩ := h
  match ys, hl with
  | [y0], _ =>
    refine ⟨a, _, _, rfl, ha, pa_cons (pe_msg (.cons (pm_str (by decide +kernel)) (.cons (pm_fmt (i := 1) (RoomH.of hr) (pv 1)) .nil)) (by show 2 ≤ 16; decide)) pa_nil, (pss_cons (ps_xset (pv 0) (pv 1)) (pss_one (ps_xset (pv 0) pe_str))), ?_⟩
    refine ⟨⟨trivial, ⟨_, rfl, hf _ (by simp)⟩, trivial⟩, fun t => ⟨by show 1 ≤ 1000; decide, ha, ?_⟩⟩
    refine ⟨_, rfl, _, rfl, a, C, rfl, T, (no.2 _ (by simp)), .inl ⟨ha, fun dx nx nd => ?_⟩⟩
    have m0 := Made.new (C := C) (fs := [(("name" : Str), y0)]) nx nd
    refine ⟨_, rfl, a, C, rfl, T, no.1, .inr ⟨dx, _, m0.2.1, m0.2.2, (by show 1 ≤ 900; decide), ?_⟩⟩
    have m1 := Made.more (fs' := (("code" : Str), V.str "UnknownPart") :: [(("name" : Str), y0)]) m0 nx nd
    exact q dx _ nx nd m1.1 m1.2.1 m1.2.2

end
end K1

set_option Elab.async false
set_option linter.all false
set_option maxRecDepth 100000
set_option maxHeartbeats 4000000
namespace K1
open PySem PySem.Spec PyProof.Rows L2 Fb
abbrev sBag : Stmt := top 23
abbrev sDraw : Stmt := top 24
abbrev sOf : Stmt := top 25
section
variable {P : Program} {w : World} {K : PySem.W.Frag} {mg : Str → Option Value} {base : Heap}
theorem scBag : FnScope ["script", "seed", "item"] ["script"] (defScope sBag) := ⟨rfl, rfl, rfl, by decide +kernel, rfl, by decide +kernel, by decide +kernel⟩
theorem ok_bag {f : Addr} {fd : FuncData} (F : Fun K "_law_bag" "_law_bag" sBag f fd) (mi : mg "int" = none) (ml : mg "list" = none) : FnOk P w K mg base CX0 1 f fd ["script"] (spBag K) := by
  refine F.ok scBag (fun vs H Q E h => ?_) (fun cdv A outer s H vs Q E hr h => ?_)
  · obtain ⟨a, ns, rfl, _⟩ := h
    rfl
  obtain ⟨a, ns, rfl, hS, hlen, q⟩ := h
  refine ⟨_, pss_cons (ps_set (i := 1) scBag.nd rfl (Or.inl rfl) pe_int)
    (pss_cons (ps_for PassesOwn.never rfl (pi_list (pe_slice sl_list (pv 0) po_none (po_some pe_int))) (pg_name (i := 2) scBag.nd rfl (Or.inl rfl))
      (pss_one (ps_set (i := 1) scBag.nd rfl (Or.inl rfl) (pe_op op_modN (pe_callTy call_int1 rfl mi (by decide +kernel) (pa_cons (pe_op op_add (pe_op op_add (pe_op op_mul (pv 1) pe_int) (pe_op op_modN (pe_callTy call_int1 rfl mi (by decide +kernel) (pa_cons (pv 2) pa_nil)) pe_int)) pe_int) pa_nil)) pe_int))))
    (pss_one (ps_ret (pe_lst (pa_cons (pe_callTy call_list_of rfl ml (by decide +kernel) (pa_cons (pe_slice sl_list (pv 0) po_none (po_some pe_int)) pa_nil)) (pa_cons pe_int (pa_cons pe_int (pa_cons (pv 1) (pa_cons pe_int pa_nil))))))))), ?_⟩
  refine ⟨_, rfl, 63, rfl, a, _, rfl, hS, fun p hp => ?_⟩
  have cut : ∃ ms : List Int, cutV (ns.map V.int) none (some 63) = ms.map V.int := ⟨(ns.drop (HT.sIx ns.length 0 none)).take (HT.sIx ns.length ns.length (some 63) - HT.sIx ns.length 0 none), by
    unfold cutV
    rw [List.length_map, List.map_take, List.map_drop]⟩
  obtain ⟨ms, hms⟩ := cut
  rw [hms]
  have s1 : Same H (upd H p (.lst (ms.map V.int))) := same_new hp _
  refine ⟨p, rfl, ⟨_, SqL.of upd_same⟩, for_list (K := K) (a := p) (xs := ms.map V.int) (fun i σ H2 => H2 = upd H p (.lst (ms.map V.int)) ∧ ∃ (seed : Int) (v : Option V), σ = [some (.ref a), some (.int seed), v] ∧ 0 ≤ seed ∧ seed < 2147483629)
    ⟨rfl, 12049, none, rfl, by decide, by decide⟩ (fun i σ H2 _ h => by rw [h.1]; exact SqL.of upd_same) ?_ ?_⟩
  · rintro i y σ H2 hi ⟨rfl, seed, v, rfl, h0, h1⟩
    obtain ⟨z, _, rfl⟩ : ∃ z, ms[i]? = some z ∧ V.int z = y := by
      rw [List.getElem?_map] at hi
      exact Option.map_eq_some_iff.mp hi
    refine ⟨_, rfl, _, _, rfl, rfl, .inl ⟨by omega, by omega⟩, _, rfl, .inl ⟨_, rfl, _, _, rfl, rfl, (by show (2147483587 : Int) ≠ 0; decide), _, _, rfl, rfl, _, _, rfl, rfl, .inl ⟨_, rfl, _, _, rfl, rfl, (by show (2147483629 : Int) ≠ 0; decide), ?_⟩⟩⟩
    exact ⟨rfl, _, _, rfl, fmodR (by decide)⟩
  · rintro σ H2 ⟨rfl, seed, v, rfl, h0, h1⟩
    refine ⟨_, rfl, 63, rfl, a, _, rfl, s1.seq hS, fun p2 hp2 => ?_⟩
    rw [hms]
    have s2 := s1.trans (same_new hp2 (.lst (ms.map V.int)))
    refine ⟨p2, _, rfl, .inl (SqL.of upd_same), fun l hl => ?_⟩
    have s3 := s2.trans (same_new hl (.lst (ms.map V.int)))
    refine ⟨_, rfl, (by show 5 ≤ sizeLine; decide), fun b hb => ?_⟩
    refine q b l _ (s3.trans (same_new hb _)) (s3.free hb) (s2.free hl) ⟨ms, 0, 0, seed, 0, upd_same, (upd_ne ?_).trans upd_same, ?_, by decide, by decide, h0, h1⟩
    all_goals
      intro z
      rw [← z, upd_same] at hb
      cases hb
theorem scDraw : FnScope ["bag", "size", "item", "digit"] ["bag", "size"] (defScope sDraw) := ⟨rfl, rfl, rfl, by decide +kernel, rfl, by decide +kernel, by decide +kernel⟩
theorem ok_draw {f : Addr} {fd : FuncData} (F : Fun K "_law_draw" "_law_draw" sDraw f fd) (mi : mg "int" = none) (ml : mg "len" = none) : FnOk P w K mg base CX0 1 f fd ["bag", "size"] spDraw := by
  refine F.ok scDraw (fun vs H Q E h => ?_) (fun cdv A outer s H vs Q E hr h => ?_)
  · obtain ⟨b, l, n, rfl, _⟩ := h
    rfl
  obtain ⟨b, l, n, rfl, B, hn, hn2, q⟩ := h
  refine ⟨_, pss_cons (ps_asg (pe_op op_add (pe_ix ix_list (pv 0) pe_int (fun _ _ => rfl)) pe_int) (pg_sub (pv 0) pe_int set_list))
    (pss_cut (ps_if (PW.pt (pw_and (pt_cmpR op_eq (pe_ix ix_list (pv 0) pe_int (fun _ _ => rfl)) pe_int (nomark _)) (pw_and1 (pt_cmpR op_lt (pe_ix ix_list (pv 0) pe_int (fun _ _ => rfl)) (pe_callB call_len_seq rfl ml PySem.boot_len (pa_cons (pe_ix ix_list (pv 0) pe_int (fun _ _ => rfl)) pa_nil)) (nomark _)))))
        (pss_cons (ps_set (i := 2) scDraw.nd rfl (Or.inl rfl) (pe_ix ix_list (pe_ix ix_list (pv 0) pe_int (fun _ _ => rfl)) (pe_ix ix_list (pv 0) pe_int (fun _ _ => rfl)) (fun _ _ => rfl)))
        (pss_cons (ps_asg (pe_op op_add (pe_ix ix_list (pv 0) pe_int (fun _ _ => rfl)) pe_int) (pg_sub (pv 0) pe_int set_list))
        (pss_one (ps_if (pt_cmpR op_ge (pv 2) (pe_op op_pow pe_int pe_int) (nomark _))
          (pss_one (ps_asg (pv 2) (pg_sub (pv 0) pe_int set_list)))
          (pss_one (ps_asg (pe_op op_modN (pe_callTy call_int1 rfl mi (by decide +kernel) (pa_cons (pe_op op_add (pe_op op_add (pe_op op_mul (pe_ix ix_list (pv 0) pe_int (fun _ _ => rfl)) pe_int) (pe_op op_mul (pe_op op_modN (pe_callTy call_int1 rfl mi (by decide +kernel) (pa_cons (pv 2) pa_nil)) pe_int) pe_int)) pe_int) pa_nil)) pe_int) (pg_sub (pv 0) pe_int set_list)))))))
        pss_nil)
    (pss_cons (ps_if (pt_cmpR op_gt (pe_ix ix_list (pv 0) pe_int (fun _ _ => rfl)) pe_int (nomark _))
        (pss_cons (ps_set (i := 3) scDraw.nd rfl (Or.inl rfl) (pe_op op_modN (pe_callTy call_int1 rfl mi (by decide +kernel) (pa_cons (pe_ix ix_list (pv 0) pe_int (fun _ _ => rfl)) pa_nil)) (pv 1)))
        (pss_cons (ps_asg (pe_op op_fdivN (pe_ix ix_list (pv 0) pe_int (fun _ _ => rfl)) (pv 1)) (pg_sub (pv 0) pe_int set_list))
        (pss_one (ps_ret (pv 3)))))
        pss_nil)
    (pss_cons (ps_asg (pe_op op_modN (pe_callTy call_int1 rfl mi (by decide +kernel) (pa_cons (pe_op op_add (pe_op op_add (pe_op op_pow (pe_ix ix_list (pv 0) pe_int (fun _ _ => rfl)) pe_int) (pe_op op_mul (pe_ix ix_list (pv 0) pe_int (fun _ _ => rfl)) pe_int)) pe_int) pa_nil)) pe_int) (pg_sub (pv 0) pe_int set_list))
    (pss_one (ps_ret (pe_op op_modN (pe_callTy call_int1 rfl mi (by decide +kernel) (pa_cons (pe_op op_add (pe_op op_fdivN (pe_ix ix_list (pv 0) pe_int (fun _ _ => rfl)) pe_int) (pe_op op_mul (pe_op op_modN (pe_callTy call_int1 rfl mi (by decide +kernel) (pa_cons (pe_ix ix_list (pv 0) pe_int (fun _ _ => rfl)) pa_nil)) pe_int) pe_int)) pa_nil)) (pv 1))))))), ?_⟩
  obtain ⟨ns, i, big, seed, cnt, h1, h2, hlb, i0, b0, s0, s1⟩ := B.at_
  have h1' : H b = some (.lst [.ref l, .int i, .int big, .int seed, .int cnt]) := h1
  refine ⟨_, rfl, b, _, 4, _, rfl, rfl, SqL.of h1', rfl, _, _, rfl, rfl, _, rfl, b, _, 4, 4, rfl, rfl, h1', rfl, ?_⟩
  generalize eH : upd H b (.lst (List.set [V.ref l, V.int i, V.int big, V.int seed, V.int cnt] 4 (V.int (cnt + 1)))) = H1
  have g1 : H1 b = some (.lst [.ref l, .int i, .int big, .int seed, .int (cnt + 1)]) := by
    rw [← eH]
    exact upd_same
  have g2 : H1 l = some (.lst (ns.map V.int)) := by
    rw [← eH]
    exact (upd_ne hlb).trans h2
  have g3 : But b H H1 := by
    rw [← eH]
    exact But.upd
  refine ⟨fun σ' H' => ∃ (v : Option V) (i big seed cnt : Int), σ' = [some (.ref b), some (.int n), v, none] ∧ H' b = some (.lst [.ref l, .int i, .int big, .int seed, .int cnt]) ∧ H' l = some (.lst (ns.map V.int)) ∧ But b H H' ∧ 0 ≤ i ∧ 0 ≤ big ∧ 0 ≤ seed ∧ seed < 2147483629, ?_, ?_⟩
  · -- if bag[2] == 0 and bag[1] < len(bag[0])
    refine ⟨_, rfl, b, _, 2, _, rfl, rfl, SqL.of g1, rfl, rfl, _, rfl, ?_⟩
    refine ite2 (fun c => ?_) (fun c => iteF ⟨none, i, big, seed, cnt + 1, rfl, g1, g2, g3, i0, b0, s0, s1⟩)
    refine ⟨_, rfl, b, _, 1, _, rfl, rfl, SqL.of g1, rfl, _, rfl, b, _, 0, _, rfl, rfl, SqL.of g1, rfl, l, _, rfl, .inl (SqL.of g2), _, _, rfl, rfl, _, rfl, ?_⟩
    refine ite2 (fun c2 => ?_) (fun c2 => ⟨none, i, big, seed, cnt + 1, rfl, g1, g2, g3, i0, b0, s0, s1⟩)
    have hi : i < (ns.length : Int) := by
      have e := of_decide_eq_true c2
      rw [List.length_map] at e
      exact e
    obtain ⟨z, hz⟩ : ∃ z, atI (ns.map V.int) i = some (V.int z) := by
      have hk : i.toNat < ns.length := by omega
      have e : i = ((i.toNat : Nat) : Int) := by omega
      refine ⟨ns[i.toNat], ?_⟩
      have y : atI (ns.map V.int) ((i.toNat : Nat) : Int) = some (.int ns[i.toNat]) := atI_nat (by rw [List.getElem?_map, List.getElem?_eq_getElem hk]; rfl)
      rw [← e] at y
      exact y
    refine ⟨_, rfl, b, _, 0, _, rfl, rfl, SqL.of g1, rfl, _, rfl, b, _, 1, _, rfl, rfl, SqL.of g1, rfl, l, _, i, _, rfl, rfl, SqL.of g2, hz, ?_⟩
    refine ⟨_, rfl, b, _, 1, _, rfl, rfl, SqL.of g1, rfl, _, _, rfl, rfl, _, rfl, b, _, 1, 1, rfl, rfl, g1, rfl, ?_⟩
    generalize eH2 : upd H1 b (.lst (List.set [V.ref l, V.int i, V.int big, V.int seed, V.int (cnt + 1)] 1 (V.int (i + 1)))) = H2
    have k1 : H2 b = some (.lst [.ref l, .int (i + 1), .int big, .int seed, .int (cnt + 1)]) := by
      rw [← eH2]
      exact upd_same
    have k2 : H2 l = some (.lst (ns.map V.int)) := by
      rw [← eH2]
      exact (upd_ne hlb).trans g2
    have k3 : But b H H2 := by
      rw [← eH2]
      exact g3.trans But.upd
    refine ⟨_, rfl, _, _, rfl, rfl, ⟨by decide, by decide, by decide⟩, _, _, rfl, rfl, _, rfl, ?_⟩
    refine ite2 (fun c3 => ?_) (fun c3 => ?_)
    · have hz0 : 0 ≤ z := by
        have e := of_decide_eq_true c3
        have e2 : (0 : Int) ≤ 10 ^ (18 : Int).toNat := by decide
        exact Int.le_trans e2 e
      refine ⟨_, rfl, _, rfl, b, _, 2, 2, rfl, rfl, k1, rfl, ?_⟩
      exact ⟨some (.int z), i + 1, z, seed, cnt + 1, rfl, upd_same, (upd_ne hlb).trans k2, k3.trans But.upd, by omega, hz0, s0, s1⟩
    · refine ⟨_, rfl, b, _, 3, _, rfl, rfl, SqL.of k1, rfl, _, _, rfl, rfl, .inl ⟨by omega, by omega⟩, _, rfl, .inl ⟨_, rfl, _, _, rfl, rfl, (by show (2147483549 : Int) ≠ 0; decide), _, _, rfl, rfl, .inr ⟨by decide, by decide⟩, _, _, rfl, rfl, _, _, rfl, rfl,
        .inl ⟨_, rfl, _, _, rfl, rfl, (by show (2147483629 : Int) ≠ 0; decide), _, rfl, b, _, 3, 3, rfl, rfl, k1, rfl, ?_⟩⟩⟩
      have R := fmodR (i := seed * 69621 + z.fmod 2147483549 * 30103 + 89) (n := 2147483629) (by decide)
      exact ⟨some (.int z), i + 1, big, _, cnt + 1, rfl, upd_same, (upd_ne hlb).trans k2, k3.trans But.upd, by omega, b0, R.1, R.2⟩
  · rintro σ' H' ⟨v, i, big, seed, cnt, rfl, g1, g2, g3, i0, b0, s0, s1⟩
    refine ⟨_, rfl, b, _, 2, _, rfl, rfl, SqL.of g1, rfl, _, _, rfl, rfl, _, rfl, ?_⟩
    refine ite2 (fun c => ?_) (fun c => ?_)
    · have hn0 : n ≠ 0 := by omega
      refine ⟨_, rfl, b, _, 2, _, rfl, rfl, SqL.of g1, rfl, .inl ⟨_, rfl, _, rfl, _, _, rfl, rfl, hn0, ?_⟩⟩
      refine ⟨_, rfl, b, _, 2, _, rfl, rfl, SqL.of g1, rfl, _, rfl, _, _, rfl, rfl, ⟨hn0, by omega⟩, _, rfl, b, _, 2, 2, rfl, rfl, g1, rfl, ?_⟩
      refine ⟨_, rfl, ?_⟩
      have R := fmodR (i := big) hn
      exact q _ _ R.1 R.2 ⟨ns, i, _, seed, cnt, upd_same, (upd_ne hlb).trans g2, hlb, i0, fdivR b0 hn, s0, s1⟩ (g3.trans But.upd)
    · have hn0 : n ≠ 0 := by omega
      refine ⟨_, rfl, b, _, 3, _, rfl, rfl, SqL.of g1, rfl, _, _, rfl, rfl, ⟨by decide, by decide, by omega⟩, _, rfl, b, _, 4, _, rfl, rfl, SqL.of g1, rfl, _, _, rfl, rfl, .inr ⟨by decide, by decide⟩, _, _, rfl, rfl, _, _, rfl, rfl,
        .inl ⟨_, rfl, _, _, rfl, rfl, (by show (2147483629 : Int) ≠ 0; decide), _, rfl, b, _, 3, 3, rfl, rfl, g1, rfl, ?_⟩⟩
      have R := fmodR (i := seed ^ (3 : Int).toNat + cnt * 1299709 + 60013) (n := 2147483629) (by decide)
      generalize eH2 : upd H' b (.lst (List.set [V.ref l, V.int i, V.int big, V.int seed, V.int cnt] 3 (V.int (Int.fmod (seed ^ (3 : Int).toNat + cnt * 1299709 + 60013) 2147483629)))) = H2
      generalize Int.fmod (seed ^ (3 : Int).toNat + cnt * 1299709 + 60013) 2147483629 = sd at R eH2
      have k1 : H2 b = some (.lst [.ref l, .int i, .int big, .int sd, .int cnt]) := by
        rw [← eH2]
        exact upd_same
      have k2 : H2 l = some (.lst (ns.map V.int)) := by
        rw [← eH2]
        exact (upd_ne hlb).trans g2
      have k3 : But b H H2 := by
        rw [← eH2]
        exact g3.trans But.upd
      refine ⟨_, rfl, b, _, 3, _, rfl, rfl, SqL.of k1, rfl, _, _, rfl, rfl, ⟨by decide, by decide⟩, _, rfl, b, _, 3, _, rfl, rfl, SqL.of k1, rfl, .inl ⟨_, rfl, _, _, rfl, rfl, (by show (7901 : Int) ≠ 0; decide), _, _, rfl, rfl, .inr ⟨by decide, by decide⟩, _, _, rfl, rfl,
        .inl ⟨_, rfl, _, rfl, _, _, rfl, rfl, hn0, ?_⟩⟩⟩
      have R2 := fmodR (i := sd.fdiv 97 + sd.fmod 7901 * 67) hn
      exact q _ _ R2.1 R2.2 ⟨ns, i, big, sd, cnt, k1, k2, hlb, i0, b0, R.1, R.2⟩ k3
end
end K1

set_option Elab.async false
set_option linter.all false
set_option maxRecDepth 100000
set_option maxHeartbeats 4000000
namespace K1
open PySem PySem.Spec PyProof.Rows L2 Fb
section
variable {P : Program} {w : World} {K : PySem.W.Frag} {mg : Str → Option Value} {base : Heap}
abbrev RD (P : Program) (w : World) (K : PySem.W.Frag) (mg : Str → Option Value) (base : Heap) (k : Nat) (x : Str) (ps : List Str) (sp : Sp) : Prop := Rd P w K mg base CX0 k x ps sp
theorem scOf : FnScope ["bag", "things"] ["bag", "things"] (defScope sOf) := ⟨rfl, rfl, rfl, by decide +kernel, rfl, by decide +kernel, by decide +kernel⟩
theorem ok_of {f : Addr} {fd : FuncData} (F : Fun K "_law_of" "_law_of" sOf f fd) (ml : mg "len" = none) (D : RD P w K mg base 1 "_law_draw" ["bag", "size"] spDraw) : FnOk P w K mg base CX0 2 f fd ["bag", "things"] (spOf K) := by
  refine F.ok scOf (fun vs H Q E h => ?_) (fun cdv A outer s H vs Q E hr h => ?_)
  · obtain ⟨b, l, x, n, P, rfl, _⟩ := h
    rfl
  obtain ⟨b, l, x, n, P, rfl, B, hn, hn2, A, q⟩ := h
  refine ⟨_, pss_one (ps_ret (pe_ix ix_seq (pv 1) (pe_rd D hr rfl pass0 (pa_cons (pv 0) (pa_cons (pe_callB call_len rfl ml PySem.boot_len (pa_cons (pv 1) pa_nil)) pa_nil))) (fun _ _ => rfl))), ?_⟩
  refine ⟨_, rfl, _, rfl, _, rfl, x, n, rfl, ?_, b, l, n, rfl, B, by omega, by omega, fun r H' r0 r1 B' bt => ?_⟩
  · rcases A with ⟨p, xs, rfl, hp, hx, hl, _⟩ | ⟨z, rfl, hl, _⟩
    · rcases hx with hx | hx
      · exact .inl ⟨xs, hx, hl.symm⟩
      · exact .inr ⟨xs, hx, hl.symm⟩
    · have e : z.length = n := by simpa [Str.length] using hl
      exact ⟨by rw [e]; exact Nat.le_trans hn2 (by decide), e.symm⟩
  · rcases A with ⟨p, xs, rfl, hp, hx, hl, hP⟩ | ⟨z, rfl, hl, hP⟩
    · obtain ⟨v, hv, he⟩ := atI_some (xs := xs) r0 (by omega)
      rcases seqBut bt hp hx with hx | hx
      · exact .inl ⟨p, xs, r, v, rfl, rfl, hx, he, q _ _ (hP v hv) B' bt⟩
      · exact .inr (.inl ⟨p, xs, r, v, rfl, rfl, hx, he, q _ _ (hP v hv) B' bt⟩)
    · obtain ⟨v, hv, he⟩ := atI_some (xs := z.cps.toList) r0 (by omega)
      have e : z.length = n := by simpa [Str.length] using hl
      exact .inr (.inr ⟨z, r, v, rfl, rfl, by rw [e]; exact Nat.le_trans hn2 (by decide), he, q _ _ (hP v hv) B' bt⟩)
end
end K1

set_option Elab.async false
set_option linter.all false
set_option maxRecDepth 100000
set_option maxHeartbeats 4000000
namespace K1
open PySem PySem.Spec PyProof.Rows L2 Fb RZ
/-- data at most so deep, no list longer than some thousands -/
inductive DK : Nat → PyData → Prop where
  | non {n : Nat} : DK n .none
  | bl {n : Nat} (b : Bool) : DK n (.bool b)
  | int {n : Nat} (i : Int) : DK n (.int i)
  | str {n : Nat} (z : Str) : DK n (.str z)
  | lst {n : Nat} {ds : List PyData} (h : ds.length ≤ 10000) (a : ∀ d ∈ ds, DK n d) : DK (n + 1) (.list ds)
  | tup {n : Nat} {ds : List PyData} (h : ds.length ≤ 10000) (a : ∀ d ∈ ds, DK n d) : DK (n + 1) (.tuple ds)
abbrev sLike : Stmt := top 26
def spLike (K : PySem.W.Frag) (n : Nat) : Sp := fun vs H Q _ => ∃ (x y : V) (d : PyData), vs = [x, y] ∧ Dp K H x d ∧ Dp K H y d ∧ DK n d ∧ ∀ H', Same H H' → Q (.bl true) H'
def PvLike (H : Hp) (D : Addr) (i : Nat) (Hi : Hp) : Prop := Hi D = some (.lst ((List.replicate i true).map V.bl)) ∧ Same H Hi
section
variable {P : Program} {w : World} {K : PySem.W.Frag} {mg : Str → Option Value} {base : Heap}
theorem scLike : FnScope ["told", "due", "a", "b"] ["told", "due"] (defScope sLike) := ⟨rfl, rfl, rfl, by decide +kernel, rfl, by decide +kernel, by decide +kernel⟩
structure Kinds (mg : Str → Option Value) : Prop where
  is : mg "isinstance" = none
  li : mg "list" = none
  tu : mg "tuple" = none
  bo : mg "bool" = none
  st : mg "str" = none
  it : mg "int" = none
  ln : mg "len" = none
  al : mg "all" = none
  zi : mg "zip" = none
theorem ok_like {f : Addr} {fd : FuncData} {k n : Nat} {spr : Sp} (F : Fun K "_law_like" "_law_like" sLike f fd) (R : RD P w K mg base k "_law_like" ["told", "due"] spr) (hrec : ∀ m, n = m + 1 → spr = spLike K m) (M : Kinds mg) : FnOk P w K mg base CX0 (k + 1) f fd ["told", "due"] (spLike K n) := by
  refine F.ok scLike (fun vs H Q E h => ?_) (fun cdv A outer s H vs Q E hr h => ?_)
  · obtain ⟨x, y, d, rfl, _⟩ := h
    rfl
  obtain ⟨x, y, d, rfl, dx, dy, dd, q⟩ := h
  have eL : ∀ {pos : Pos}, PE (cxOf CX0 P w K mg base ["told", "due", "a", "b"] "_law_like" (defScope sLike) f cdv A outer s H E).nox (.Name "list" pos) (tC (.ty "list")) := pe_bltn (v := .ty "list") rfl M.li (by decide +kernel) rfl
  have eT : ∀ {pos : Pos}, PE (cxOf CX0 P w K mg base ["told", "due", "a", "b"] "_law_like" (defScope sLike) f cdv A outer s H E).nox (.Name "tuple" pos) (tC (.ty "tuple")) := pe_bltn (v := .ty "tuple") rfl M.tu (by decide +kernel) rfl
  have eB : ∀ {pos : Pos}, PE (cxOf CX0 P w K mg base ["told", "due", "a", "b"] "_law_like" (defScope sLike) f cdv A outer s H E).nox (.Name "bool" pos) (tC (.ty "bool")) := pe_bltn (v := .ty "bool") rfl M.bo (by decide +kernel) rfl
  have eS : ∀ {pos : Pos}, PE (cxOf CX0 P w K mg base ["told", "due", "a", "b"] "_law_like" (defScope sLike) f cdv A outer s H E).nox (.Name "str" pos) (tC (.ty "str")) := pe_bltn (v := .ty "str") rfl M.st (by decide +kernel) rfl
  have eI : ∀ {pos : Pos}, PE (cxOf CX0 P w K mg base ["told", "due", "a", "b"] "_law_like" (defScope sLike) f cdv A outer s H E).nox (.Name "int" pos) (tC (.ty "int")) := pe_bltn (v := .ty "int") rfl M.it (by decide +kernel) rfl
  refine ⟨_, pss_cons (ps_if (pt_val (pe_callB call_isiT rfl M.is (by decide +kernel) (pa_cons (pv 1) (pa_cons (pe_tup (pa_cons eL (pa_cons eT pa_nil))) pa_nil))))
      (pss_cons (ps_if (PW.pt (pw_or (pt_cmpR op_ne (pe_callB call_isi rfl M.is (by decide +kernel) (pa_cons (pv 0) (pa_cons eL pa_nil))) (pe_callB call_isi rfl M.is (by decide +kernel) (pa_cons (pv 1) (pa_cons eL pa_nil))) (nomark _))
          (pw_or1 (pt_cmpR op_ne (pe_callB call_isi rfl M.is (by decide +kernel) (pa_cons (pv 0) (pa_cons eT pa_nil))) (pe_callB call_isi rfl M.is (by decide +kernel) (pa_cons (pv 1) (pa_cons eT pa_nil))) (nomark _)))))
        (pss_one (ps_ret pe_bl)) pss_nil)
      (pss_one (ps_ret (pe_and (pe_cmpR op_eq (pe_callB call_len_seq rfl M.ln PySem.boot_len (pa_cons (pv 0) pa_nil)) (pe_callB call_len_seq rfl M.ln PySem.boot_len (pa_cons (pv 1) pa_nil)) (nomark _))
          (pe_one (pe_callB (cr_all rfl) rfl M.al (by decide +kernel) (pa_cons (pe_lc (own := [("a", 2), ("b", 3)]) (g := gTup K 2 (gCons (gName 2) (gCons (gName 3) gNil))) (tt := tYes) rfl scLike.nd (pi_zipA rfl M.zi (pa_cons (pv 0) (pa_cons (pv 1) pa_nil))) (blkOk_by (N := ["told", "due", "a", "b"]) (sc := defScope sLike) (by decide +kernel))
            (fun _ _ _ _ _ => pg_tup rfl (pgs_cons (pg_name (i := 2) scLike.nd rfl (Or.inl rfl) (.inr rfl)) (pgs_cons (pg_name (i := 3) scLike.nd rfl (Or.inl rfl) (.inr rfl)) pgs_nil))) (fun _ _ _ _ _ => pts_nil) (fun _ _ _ _ _ => pe_rd R hr rfl pass0 (pa_cons (pv 2) (pa_cons (pv 3) pa_nil)))) pa_nil))))))) pss_nil)
    (pss_cons (ps_if (PW.pt (pw_or (pt_cmpR op_isN (pv 1) pe_non (nomark _)) (pw_or1 (pt_cmpR op_isN (pv 0) pe_non (nomark _))))) (pss_one (ps_ret (pe_and (pe_cmp (pc_isN (pv 1)) rfl) (pe_one (pe_cmp (pc_isN (pv 0)) rfl))))) pss_nil)
    (pss_cons (ps_if (PW.pt (pw_or (pt_val (pe_callB call_isiT rfl M.is (by decide +kernel) (pa_cons (pv 0) (pa_cons (pe_tup (pa_cons eL (pa_cons eT pa_nil))) pa_nil))))
          (pw_or1 (pt_cmpR op_ne (pe_callB call_isi rfl M.is (by decide +kernel) (pa_cons (pv 0) (pa_cons eB pa_nil))) (pe_callB call_isi rfl M.is (by decide +kernel) (pa_cons (pv 1) (pa_cons eB pa_nil))) (nomark _))))) (pss_one (ps_ret pe_bl)) pss_nil)
    (pss_cons (ps_if (PW.pt (pw_or (pt_cmpR op_ne (pe_callB call_isi rfl M.is (by decide +kernel) (pa_cons (pv 0) (pa_cons eS pa_nil))) (pe_callB call_isi rfl M.is (by decide +kernel) (pa_cons (pv 1) (pa_cons eS pa_nil))) (nomark _))
          (pw_or1 (pt_cmpR op_ne (pe_callB call_isi rfl M.is (by decide +kernel) (pa_cons (pv 0) (pa_cons eI pa_nil))) (pe_callB call_isi rfl M.is (by decide +kernel) (pa_cons (pv 1) (pa_cons eI pa_nil))) (nomark _))))) (pss_one (ps_ret pe_bl)) pss_nil)
    (pss_one (ps_ret (pe_cmpR op_eq (pv 0) (pv 1) (nomark _))))))), ?_⟩
  have sh : (x = .non ∧ y = .non) ∨ (∃ (tx : String) (b1 b2 b3 : Bool), y = x ∧ (∀ H, TyX K H x (.type tx)) ∧ x ≠ .non ∧ scal x x = true ∧ kitB tx "list" = some false ∧ kitB tx "tuple" = some false ∧ kitB tx "bool" = some b1 ∧ kitB tx "str" = some b2 ∧ kitB tx "int" = some b3) ∨
      (∃ (a1 a2 : Addr) (xs ys : List V) (ds : List PyData) (m : Nat), n = m + 1 ∧ x = .ref a1 ∧ y = .ref a2 ∧ ((SqL K H a1 xs ∧ SqL K H a2 ys) ∨ (SqT K H a1 xs ∧ SqT K H a2 ys)) ∧ DpAll K H xs ds ∧ DpAll K H ys ds ∧ ds.length ≤ 10000 ∧ ∀ d ∈ ds, DK m d) := by
    cases dd with
    | non =>
      cases dx
      cases dy
      exact .inl ⟨rfl, rfl⟩
    | bl b =>
      cases dx
      cases dy
      exact .inr (.inl ⟨"bool", true, false, true, rfl, fun _ => .base (.bl b), (fun z => by cases z), rfl, by decide +kernel, by decide +kernel, by decide +kernel, by decide +kernel, by decide +kernel⟩)
    | int i =>
      cases dx
      cases dy
      exact .inr (.inl ⟨"int", false, false, true, rfl, fun _ => .base (.int i), (fun z => by cases z), rfl, by decide +kernel, by decide +kernel, by decide +kernel, by decide +kernel, by decide +kernel⟩)
    | str z =>
      cases dx
      cases dy
      exact .inr (.inl ⟨"str", false, true, false, rfl, fun _ => .base (.str z), (fun z => by cases z), rfl, by decide +kernel, by decide +kernel, by decide +kernel, by decide +kernel, by decide +kernel⟩)
    | lst h1 h2 =>
      cases dx with
      | lst g1 g2 =>
        cases dy with
        | lst g3 g4 => exact .inr (.inr ⟨_, _, _, _, _, _, rfl, rfl, rfl, .inl ⟨g1, g3⟩, g2, g4, h1, h2⟩)
    | tup h1 h2 =>
      cases dx with
      | tup g1 g2 =>
        cases dy with
        | tup g3 g4 => exact .inr (.inr ⟨_, _, _, _, _, _, rfl, rfl, rfl, .inr ⟨g1, g3⟩, g2, g4, h1, h2⟩)
  rcases sh with ⟨rfl, rfl⟩ | ⟨tx, b1, b2, b3, rfl, ty, nn, sc, kl, kt, kb, ks, ki⟩ | ⟨a1, a2, xs, ys, ds, m, rfl, rfl, rfl, hs, ax, ay, hl, hd⟩
  · refine ⟨_, rfl, (by show 2 ≤ sizeLine; decide), fun t ht => ⟨_, t, _, _, [.type "list", .type "tuple"], _, rfl, upd_same, .cons (.ty _) (.cons (.ty _) .nil), .base .non, any_lt (tx := "NoneType") (b1 := false) (b2 := false) (by decide +kernel) (by decide +kernel), _, rfl, iteF ?_⟩⟩
    refine ⟨_, rfl, rfl, _, rfl, iteT (iteT ?_)⟩
    refine ⟨_, rfl, _, rfl, iteT ⟨_, rfl, ?_⟩⟩
    exact q _ (same_new ht _)
  · refine ⟨_, rfl, (by show 2 ≤ sizeLine; decide), fun t ht => ⟨_, t, _, _, [.type "list", .type "tuple"], _, rfl, upd_same, .cons (.ty _) (.cons (.ty _) .nil), ty _, any_lt kl kt, _, rfl, iteF ?_⟩⟩
    refine ⟨_, rfl, rfl, _, rfl, iteN (decide_eq_false nn) ⟨_, rfl, rfl, _, rfl, iteN (decide_eq_false nn) ?_⟩⟩
    refine ⟨_, rfl, (by show 2 ≤ sizeLine; decide), fun t2 ht2 => ⟨_, t2, _, _, [.type "list", .type "tuple"], _, rfl, upd_same, .cons (.ty _) (.cons (.ty _) .nil), ty _, any_lt kl kt, _, rfl, iteF ?_⟩⟩
    have nb : ∀ b : Bool, (!decide (V.bl b = V.bl b)) = false := fun b => by simp
    refine ⟨_, rfl, _, _, _, _, b1, rfl, .ty _, ty _, kit_ty kb, _, rfl, _, _, _, _, b1, rfl, .ty _, ty _, kit_ty kb, rfl, _, rfl, iteN (nb b1) ?_⟩
    refine ⟨_, rfl, _, _, _, _, b2, rfl, .ty _, ty _, kit_ty ks, _, rfl, _, _, _, _, b2, rfl, .ty _, ty _, kit_ty ks, rfl, _, rfl, iteN (nb b2) ?_⟩
    refine ⟨_, rfl, _, _, _, _, b3, rfl, .ty _, ty _, kit_ty ki, _, rfl, _, _, _, _, b3, rfl, .ty _, ty _, kit_ty ki, rfl, _, rfl, iteN (nb b3) ?_⟩
    refine ⟨_, rfl, _, rfl, sc, ?_⟩
    rw [decide_eq_true rfl]
    exact q _ ((same_new ht _).trans (same_new ht2 _))
  · have nb : ∀ b : Bool, (!decide (V.bl b = V.bl b)) = false := fun b => by simp
    have lx := dpAll_len ax
    have ly := dpAll_len ay
    obtain rfl := hrec m rfl
    obtain ⟨tx, b1, b2, hor, ty1, ty2, k1, k2⟩ : ∃ (tx : String) (b1 b2 : Bool), (b1 || b2) = true ∧ (∀ H', Same H H' → TyX K H' (.ref a1) (.type tx)) ∧ (∀ H', Same H H' → TyX K H' (.ref a2) (.type tx)) ∧ kitB tx "list" = some b1 ∧ kitB tx "tuple" = some b2 := by
      rcases hs with ⟨h1, h2⟩ | ⟨h1, h2⟩
      · exact ⟨"list", true, false, rfl, fun H' e => ty_seqL (e.seq h1), fun H' e => ty_seqL (e.seq h2), by decide +kernel, by decide +kernel⟩
      · exact ⟨"tuple", false, true, rfl, fun H' e => ty_seqT (Same.seqT e h1), fun H' e => ty_seqT (Same.seqT e h2), by decide +kernel, by decide +kernel⟩
    refine ⟨_, rfl, (by show 2 ≤ sizeLine; decide), fun t ht => ⟨_, t, _, _, [.type "list", .type "tuple"], _, rfl, upd_same, .cons (.ty _) (.cons (.ty _) .nil), ty2 _ (same_new ht _), any_lt k1 k2, _, rfl, iteY hor ?_⟩⟩
    have s1 : Same H (upd H t (.tup [.ty "list", .ty "tuple"])) := same_new ht _
    refine ⟨_, rfl, _, _, _, _, b1, rfl, .ty _, ty1 _ s1, kit_ty k1, _, rfl, _, _, _, _, b1, rfl, .ty _, ty2 _ s1, kit_ty k1, rfl, _, rfl, iteN (nb b1) ?_⟩
    refine ⟨_, rfl, _, _, _, _, b2, rfl, .ty _, ty1 _ s1, kit_ty k2, _, rfl, _, _, _, _, b2, rfl, .ty _, ty2 _ s1, kit_ty k2, rfl, _, rfl, iteN (nb b2) ?_⟩
    refine ⟨_, rfl, a1, xs, rfl, hs.imp (fun h => s1.seq h.1) (fun h => Same.seqT s1 h.1), _, rfl, a2, ys, rfl, hs.imp (fun h => s1.seq h.2) (fun h => Same.seqT s1 h.2), rfl, true, ?_, iteT ?_⟩
    · rw [lx, ly, decide_eq_true rfl]
    generalize upd H t (.tup [.ty "list", .ty "tuple"]) = H1 at s1
    have xy : xs.length = ys.length := lx.trans ly.symm
    refine ⟨_, rfl, _, rfl, a1, a2, xs, ys, rfl, ?_⟩
    rcases hs with ⟨h1, h2⟩ | ⟨h1, h2⟩
    · refine .inl ⟨s1.seq h1, s1.seq h2, fun D hD => lc_it (walk_zip (n := xs.length) (by omega)) (PvLike H D) ⟨upd_same, s1.trans (same_new hD _)⟩ (fun i Hi _ p => ⟨p.2.seq h1, p.2.seq h2⟩) (fun i v Hi Hj hi p y => ?_) (fun Hi p => ?_)⟩
      · obtain ⟨T, x', y', rfl, hT, rfl, e1, e2⟩ := y
        have s2 : Same H (upd Hi T (.tup [x', y'])) := p.2.trans (same_new hT _)
        obtain ⟨d1, g1, u1⟩ := dpAll_get ax e1
        obtain ⟨d2, g2, u2⟩ := dpAll_get ay e2
        obtain rfl : d1 = d2 := by
          rw [g1] at g2
          exact Option.some.inj g2
        have hDT : D ≠ T := ne_of_none p.1 hT
        refine ⟨T, [x', y'], rfl, SqT.of upd_same, rfl, x', _, rfl, y', _, rfl, rfl, rfl, _, rfl, _, rfl, x', y', d1, rfl, dpSame s2 u1, dpSame s2 u2, hd _ (List.mem_of_getElem? g1), fun H3 s3 => ?_⟩
        refine ⟨_, s3 _ _ ((upd_ne hDT).trans p.1), ?_, ?_⟩
        · rw [List.length_map, List.length_replicate]
          have : sizeLine = 16777216 := sizeLine_eq
          omega
        · exact ⟨by rw [rep_snoc]; exact upd_same, fun c o e => (upd_ne (ne_of_none (s1 _ _ e) hD)).trans (s3 _ _ (s2 _ _ e))⟩
      · refine ⟨D, List.replicate xs.length true, rfl, SqL.of p.1, ?_⟩
        rw [all_true]
        exact q _ p.2
    · refine .inr ⟨Same.seqT s1 h1, Same.seqT s1 h2, fun D hD => lc_it (walk_zipTT xy) (PvLike H D) ⟨upd_same, s1.trans (same_new hD _)⟩ (fun i Hi _ p => ⟨Same.seqT p.2 h1, Same.seqT p.2 h2⟩) (fun i v Hi Hj hi p y => ?_) (fun Hi p => ?_)⟩
      · obtain ⟨T, x', y', rfl, hT, rfl, e1, e2⟩ := y
        have s2 : Same H (upd Hi T (.tup [x', y'])) := p.2.trans (same_new hT _)
        obtain ⟨d1, g1, u1⟩ := dpAll_get ax e1
        obtain ⟨d2, g2, u2⟩ := dpAll_get ay e2
        obtain rfl : d1 = d2 := by
          rw [g1] at g2
          exact Option.some.inj g2
        have hDT : D ≠ T := ne_of_none p.1 hT
        refine ⟨T, [x', y'], rfl, SqT.of upd_same, rfl, x', _, rfl, y', _, rfl, rfl, rfl, _, rfl, _, rfl, x', y', d1, rfl, dpSame s2 u1, dpSame s2 u2, hd _ (List.mem_of_getElem? g1), fun H3 s3 => ?_⟩
        refine ⟨_, s3 _ _ ((upd_ne hDT).trans p.1), ?_, ?_⟩
        · rw [List.length_map, List.length_replicate]
          have : sizeLine = 16777216 := sizeLine_eq
          omega
        · exact ⟨by rw [rep_snoc]; exact upd_same, fun c o e => (upd_ne (ne_of_none (s1 _ _ e) hD)).trans (s3 _ _ (s2 _ _ e))⟩
      · refine ⟨D, List.replicate xs.length true, rfl, SqL.of p.1, ?_⟩
        rw [all_true]
        exact q _ p.2
end
end K1

set_option Elab.async false
set_option linter.all false
set_option maxRecDepth 100000
set_option maxHeartbeats 4000000
namespace K1
open PySem PySem.Spec PyProof.Rows L2 Fb
abbrev sIsName : Stmt := top 15
abbrev sLawIsName : Stmt := top 27
abbrev sName : Stmt := top 28
abbrev sFresh : Stmt := top 29
section
variable {P : Program} {w : World} {K : PySem.W.Frag} {mg : Str → Option Value} {base : Heap}
theorem scIsName : FnScope ["text", "one"] ["text"] (defScope sIsName) := ⟨rfl, rfl, rfl, by decide +kernel, rfl, by decide +kernel, by decide +kernel⟩
theorem ok_is_name {f : Addr} {fd : FuncData} {t1 t2 : Tok} (F : Fun K "is_name" "is_name" sIsName f fd) (ml : mg "len" = none) (ma : mg "all" = none) (g1 : mg "MOST_IN_NAME" = some (.int 6 t1)) (g2 : mg "LOWERCASE" = some (.str lowers t2)) : FnOk P w K mg base CX0 1 f fd ["text"] (spTold isName) := by
  refine F.ok scIsName (fun vs H Q E h => ?_) (fun cdv A outer s H vs Q E hr h => ?_)
  · obtain ⟨z, rfl, _⟩ := h
    rfl
  obtain ⟨z, rfl, hz, q⟩ := h
  have hz2 : sizeLine = 16777216 := sizeLine_eq
  refine ⟨_, pss_one (ps_ret (pe_and (pe_chain op_le op_le pe_int (pe_callB call_len rfl ml PySem.boot_len (pa_cons (pv 0) pa_nil)) (pe_glob (v := .int 6) rfl g1 ⟨_, rfl⟩))
    (pe_one (pe_callB (cr_all rfl) rfl ma (by decide +kernel) (pa_cons (pe_lc (own := [("one", 1)]) (g := gName 1) (tt := tYes) rfl scIsName.nd (pi_str (pv 0)) (blkOk_by (N := ["text", "one"]) (sc := defScope sIsName) (by decide +kernel))
            (fun _ _ _ _ _ => pg_name (i := 1) scIsName.nd rfl (Or.inl rfl)) (fun _ _ _ _ _ => pts_nil) (fun _ _ _ _ _ => pe_cmpR op_in_sign (pv 1) (pe_glob (v := .str lowers) rfl g2 ⟨_, rfl⟩) rfl)) pa_nil))))), ?_⟩
  have no : isName z = false → Q (.bl false) H := fun e => by
    have h := q H (Same.refl _)
    rwa [e] at h
  refine ⟨_, rfl, _, z.length, rfl, ⟨by omega, rfl⟩, _, _, rfl, rfl, _, rfl, ?_⟩
  refine ite2 (fun c1 => ?_) (fun c1 => ?_)
  · refine ⟨_, _, rfl, rfl, _, rfl, ite2 (fun c2 => ?_) (fun c2 => ?_)⟩
    · refine ⟨_, rfl, z, rfl, fun D hD => lc_it walk_str (PvSigns z (fun c => decide (c ∈ lowers.cps.toList)) H D) (PvSigns.start hD) (fun _ _ _ _ => trivial) (fun i y Hi Hj hi p e => ?_) (fun Hi p => ?_)⟩
      · obtain ⟨rfl, c, hc, rfl⟩ := e
        exact ⟨rfl, _, rfl, c, lowers, rfl, rfl, _, p.1, PvSigns.len hz, p.step hD hc⟩
      · refine ⟨D, z.cps.toList.map _, rfl, SqL.of p.fin, ?_⟩
        have h := q Hi p.2
        have e : isName z = (z.cps.toList.map fun c => decide (c ∈ lowers.cps.toList)).all id := by
          have d1 : (1 : Int) ≤ (z.length : Int) := of_decide_eq_true c1
          have d2 : (z.length : Int) ≤ 6 := of_decide_eq_true c2
          unfold isName
          rw [decide_eq_true (by omega : 1 ≤ z.length), decide_eq_true (by omega : z.length ≤ 6), List.all_map]
          rfl
        rwa [e] at h
    · refine no ?_
      have d2 : ¬ (z.length : Int) ≤ 6 := fun h => c2 (decide_eq_true h)
      unfold isName
      rw [decide_eq_false (by omega : ¬ z.length ≤ 6), Bool.false_and, Bool.and_false]
  · refine ⟨_, rfl, iteF (no ?_)⟩
    have d1 : ¬ (1 : Int) ≤ (z.length : Int) := fun h => c1 (decide_eq_true h)
    unfold isName
    rw [decide_eq_false (by omega : ¬ 1 ≤ z.length), Bool.false_and]
theorem scLawIsName : FnScope ["word", "sign"] ["word"] (defScope sLawIsName) := ⟨rfl, rfl, rfl, by decide +kernel, rfl, by decide +kernel, by decide +kernel⟩
theorem ok_law_is_name {f : Addr} {fd : FuncData} (F : Fun K "_law_is_name" "_law_is_name" sLawIsName f fd) (ml : mg "len" = none) (ma : mg "all" = none) : FnOk P w K mg base CX0 1 f fd ["word"] (spTold isName) := by
  refine F.ok scLawIsName (fun vs H Q E h => ?_) (fun cdv A outer s H vs Q E hr h => ?_)
  · obtain ⟨z, rfl, _⟩ := h
    rfl
  obtain ⟨z, rfl, hz, q⟩ := h
  have hz2 : sizeLine = 16777216 := sizeLine_eq
  refine ⟨_, pss_one (ps_ret (pe_and (pe_chain op_le op_le pe_int (pe_callB call_len rfl ml PySem.boot_len (pa_cons (pv 0) pa_nil)) pe_int)
    (pe_one (pe_callB (cr_all rfl) rfl ma (by decide +kernel) (pa_cons (pe_lc (own := [("sign", 1)]) (g := gName 1) (tt := tYes) rfl scLawIsName.nd (pi_str (pv 0)) (blkOk_by (N := ["word", "sign"]) (sc := defScope sLawIsName) (by decide +kernel))
            (fun _ _ _ _ _ => pg_name (i := 1) scLawIsName.nd rfl (Or.inl rfl)) (fun _ _ _ _ _ => pts_nil) (fun _ _ _ _ _ => pe_cmpR op_in_sign (pv 1) pe_str rfl)) pa_nil))))), ?_⟩
  have no : isName z = false → Q (.bl false) H := fun e => by
    have h := q H (Same.refl _)
    rwa [e] at h
  refine ⟨_, rfl, _, z.length, rfl, ⟨by omega, rfl⟩, _, _, rfl, rfl, _, rfl, ?_⟩
  refine ite2 (fun c1 => ?_) (fun c1 => ?_)
  · refine ⟨_, _, rfl, rfl, _, rfl, ite2 (fun c2 => ?_) (fun c2 => ?_)⟩
    · refine ⟨_, rfl, z, rfl, fun D hD => lc_it walk_str (PvSigns z (fun c => decide (c ∈ lowers.cps.toList)) H D) (PvSigns.start hD) (fun _ _ _ _ => trivial) (fun i y Hi Hj hi p e => ?_) (fun Hi p => ?_)⟩
      · obtain ⟨rfl, c, hc, rfl⟩ := e
        exact ⟨rfl, _, rfl, c, lowers, rfl, rfl, _, p.1, PvSigns.len hz, p.step hD hc⟩
      · refine ⟨D, z.cps.toList.map _, rfl, SqL.of p.fin, ?_⟩
        have h := q Hi p.2
        have e : isName z = (z.cps.toList.map fun c => decide (c ∈ lowers.cps.toList)).all id := by
          have d1 : (1 : Int) ≤ (z.length : Int) := of_decide_eq_true c1
          have d2 : (z.length : Int) ≤ 6 := of_decide_eq_true c2
          unfold isName
          rw [decide_eq_true (by omega : 1 ≤ z.length), decide_eq_true (by omega : z.length ≤ 6), List.all_map]
          rfl
        rwa [e] at h
    · refine no ?_
      have d2 : ¬ (z.length : Int) ≤ 6 := fun h => c2 (decide_eq_true h)
      unfold isName
      rw [decide_eq_false (by omega : ¬ z.length ≤ 6), Bool.false_and, Bool.and_false]
  · refine ⟨_, rfl, iteF (no ?_)⟩
    have d1 : ¬ (1 : Int) ≤ (z.length : Int) := fun h => c1 (decide_eq_true h)
    unfold isName
    rw [decide_eq_false (by omega : ¬ 1 ≤ z.length), Bool.false_and]
theorem scName : FnScope ["bag", "size", "k"] ["bag"] (defScope sName) := ⟨rfl, rfl, rfl, by decide +kernel, rfl, by decide +kernel, by decide +kernel⟩
abbrev nine : List Str := ["a", "b", "in", "out", "end", "all", "none", "made", "s"]
theorem nine_ok : ∀ z ∈ nine, isName z = true := by decide +kernel
def spName : Sp := fun vs H Q _ => ∃ b l : Addr, vs = [.ref b] ∧ BagAt l H b ∧ ∀ (z : Str) (H' : Hp), isName z = true → BagAt l H' b → But b H H' → Q (.str z) H'
theorem ok_name {f : Addr} {fd : FuncData} (F : Fun K "_law_name" "_law_name" sName f fd) (D : RD P w K mg base 1 "_law_draw" ["bag", "size"] spDraw) (O : RD P w K mg base 2 "_law_of" ["bag", "things"] (spOf K)) (mr : mg "range" = none) : FnOk P w K mg base CX0 3 f fd ["bag"] spName := by
  refine F.ok scName (fun vs H Q E h => ?_) (fun cdv A outer s H vs Q E hr h => ?_)
  · obtain ⟨b, l, rfl, _⟩ := h
    rfl
  obtain ⟨b, l, rfl, B, q⟩ := h
  have hr1 := hr.mono (by decide : 1 ≤ 2)
  refine ⟨_, pss_cons (ps_if (pt_cmpR op_eq (pe_rd D hr1 rfl pass0 (pa_cons (pv 0) (pa_cons pe_int pa_nil))) pe_int (nomark _))
      (pss_one (ps_ret (pe_rd O hr rfl pass0 (pa_cons (pv 0) (pa_cons (pe_lst (pa_cons pe_str (pa_cons pe_str (pa_cons pe_str (pa_cons pe_str (pa_cons pe_str (pa_cons pe_str (pa_cons pe_str (pa_cons pe_str (pa_cons pe_str pa_nil)))))))))) pa_nil))))) pss_nil)
    (pss_cons (ps_set (i := 1) scName.nd rfl (Or.inl rfl) (pe_op op_add pe_int (pe_rd D hr1 rfl pass0 (pa_cons (pv 0) (pa_cons pe_int pa_nil)))))
    (pss_one (ps_ret (pe_join pe_str (pe_lc (own := [("k", 2)]) (g := gName 2) (tt := tYes) rfl scName.nd (pi_range1 rfl mr (pa_cons (pv 1) pa_nil)) (blkOk_by (N := ["bag", "size", "k"]) (sc := defScope sName) (by decide +kernel))
            (fun _ _ _ _ _ => pg_name (i := 2) scName.nd rfl (Or.inl rfl)) (fun _ _ _ _ _ => pts_nil) (fun _ _ _ _ _ => pe_rd O hr rfl pass0 (pa_cons (pv 0) (pa_cons pe_str pa_nil)))))))), ?_⟩
  refine ⟨_, rfl, b, l, _, rfl, B, by decide, by decide, fun r1 H1 r10 r11 B1 b1 => ?_⟩
  refine ⟨rfl, _, rfl, ite2 (fun c1 => ?_) (fun c1 => ?_)⟩
  · refine ⟨_, rfl, (by show 9 ≤ sizeLine; decide), fun p hp => ⟨b, l, .ref p, 9, (fun y => ∃ z ∈ nine, y = .str z), rfl, B1.new hp _, by decide, by decide, .inl ⟨p, _, rfl, B1.ne hp, .inl (SqL.of upd_same), rfl, ?_⟩, fun y H2 hy B2 b2 => ?_⟩⟩
    · intro y hy
      have hy2 : y ∈ nine.map V.str := hy
      obtain ⟨z, hz, rfl⟩ := List.mem_map.mp hy2
      exact ⟨z, hz, rfl⟩
    · obtain ⟨z, hz, rfl⟩ := hy
      exact q z H2 (nine_ok z hz) B2 ((b1.trans (But.of (same_new hp _))).trans b2)
  · refine ⟨_, rfl, b, l, _, rfl, B1, by decide, by decide, fun r2 H2 r20 r21 B2 b2 => ?_⟩
    refine ⟨_, _, rfl, rfl, ⟨_, rfl⟩, _, rfl, 1 + r2, rfl, by omega, by omega, fun D hD => lc_range (lo := 0) (n := (1 + r2).toNat) (PvDrawn (fun c => c ∈ lowers.cps.toList) b l D H2) (PvDrawn.start B2 hD) (fun i Hi hi p => ?_) (fun Hi p => ?_)⟩
    · obtain ⟨ys, hy, hl, hs, Bi, bi⟩ := p
      refine ⟨rfl, _, rfl, b, l, _, 26, (fun y => ∃ c, y = .str ⟨#[c]⟩ ∧ c ∈ lowers.cps.toList), rfl, Bi, by decide, by decide, .inr ⟨_, rfl, by decide +kernel, fun c hc => ⟨c, rfl, hc⟩⟩, fun y H3 hy3 B3 b3 => ?_⟩
      obtain ⟨c, rfl, hc⟩ := hy3
      exact PvDrawn.step B2 hD hy hl hs bi hc B3 b3 (by omega)
    · obtain ⟨ys, hy, hl, hs, Bi, bi⟩ := p
      have hj := join_all ys hs
      have hj1 : (Txt.join (Str.ofString "") ys).length = ys.length := hj.1
      refine ⟨_, D, ys, rfl, rfl, .inl (SqL.of hy), ?_, q _ Hi (isName_of (by omega) (by omega) hj.2) Bi ((b1.trans b2).trans bi)⟩
      have e : (ys.map (·.length)).sum ≤ ys.length := Nat.le_of_eq (sum_ones ys fun y hy => (hs y hy).1)
      show _ + ys.length * 0 ≤ _
      omega
end
end K1

set_option Elab.async false
set_option linter.all false
set_option maxRecDepth 100000
set_option maxHeartbeats 4000000
namespace K1
open PySem PySem.Spec PyProof.Rows L2 Fb
section
variable {P : Program} {w : World} {K : PySem.W.Frag} {mg : Str → Option Value} {base : Heap}
abbrev NFresh : List Str := ["bag", "taken", "word", "spot", "k", "more"]
theorem scFresh : FnScope NFresh ["bag", "taken"] (defScope sFresh) := ⟨rfl, rfl, rfl, by decide +kernel, rfl, by decide +kernel, by decide +kernel⟩
def spFresh (K : PySem.W.Frag) : Sp := fun vs H Q _ => ∃ (b l p : Addr) (ns : List Str), vs = [.ref b, .ref p] ∧ BagAt l H b ∧ SqL K (L2.del H b) p (ns.map V.str) ∧ ns.length < 26 ∧ ∀ (z : Str) (H' : Hp), isName z = true → z ∉ ns → BagAt l H' b → But b H H' → Q (.str z) H'
theorem ok_fresh {f : Addr} {fd : FuncData} (F : Fun K "_law_fresh" "_law_fresh" sFresh f fd) (D : RD P w K mg base 1 "_law_draw" ["bag", "size"] spDraw) (N : RD P w K mg base 3 "_law_name" ["bag"] spName) (mr : mg "range" = none) (mi : mg "int" = none) : FnOk P w K mg base CX0 4 f fd ["bag", "taken"] (spFresh K) := by
  refine F.ok scFresh (fun vs H Q E h => ?_) (fun cdv A outer s H vs Q E hr h => ?_)
  · obtain ⟨b, l, p, ns, rfl, _⟩ := h
    rfl
  obtain ⟨b, l, p, ns, rfl, B, hp, hn, q⟩ := h
  have hr1 := hr.mono (by decide : 1 ≤ 3)
  refine ⟨_, pss_cons (ps_set (i := 2) scFresh.nd rfl (Or.inl rfl) (pe_rd N hr rfl pass0 (pa_cons (pv 0) pa_nil)))
    (pss_cons (ps_if (pt_cmpR op_notIn_seq (pv 2) (pv 1) rfl) (pss_one (ps_ret (pv 2))) pss_nil)
    (pss_cons (ps_set (i := 3) scFresh.nd rfl (Or.inl rfl) (pe_rd D hr1 rfl pass0 (pa_cons (pv 0) (pa_cons pe_int pa_nil))))
    (pss_cons (ps_for PassesOwn.never rfl (pi_range1 rfl mr (pa_cons pe_int pa_nil)) (pg_name (i := 4) scFresh.nd rfl (Or.inl rfl))
      (pss_cons (ps_set (i := 5) scFresh.nd rfl (Or.inl rfl) (pe_op op_add_str (pe_slice sl_str (pv 2) po_none (po_some pe_int)) (pe_ix ix_str pe_str (pe_op op_modN (pe_callTy call_int1 rfl mi (by decide +kernel) (pa_cons (pe_op op_add (pv 3) (pv 4)) pa_nil)) pe_int) (fun _ _ => rfl))))
      (pss_one (ps_if (pt_cmpR op_notIn_seq (pv 5) (pv 1) rfl) (pss_one (ps_ret (pv 5))) pss_nil))))
    (pss_one (ps_ret (pv 2)))))), ?_⟩
  have hz2 : sizeLine = 16777216 := sizeLine_eq
  refine ⟨_, rfl, b, l, rfl, B, fun z H1 hz B1 b1 => ?_⟩
  have hl : z.length ≤ 6 := by
    unfold isName at hz
    rw [Bool.and_eq_true, Bool.and_eq_true, decide_eq_true_iff, decide_eq_true_iff] at hz
    exact hz.2.1
  have hp1 := (but_in2 b1).seq hp
  refine ⟨_, rfl, _, rfl, p, _, rfl, .inl hp1, rfl, L2.flat_strs ns, _, rfl, ?_⟩
  refine ite2 (fun c => ?_) (fun c => ?_)
  · have hm : z ∉ ns := fun h => by
      have c' : (!inV (.str z) (ns.map V.str)) = true := c
      rw [inV_strs, decide_eq_true h] at c'
      cases c'
    exact ⟨_, rfl, q z H1 hz hm B1 b1⟩
  · refine ⟨_, rfl, b, l, 26, rfl, B1, by decide, by decide, fun r H2 r0 r1 B2 b2 => ?_⟩
    have hp2 := (but_in2 (b1.trans b2)).seq hp
    refine ⟨26, rfl, by decide, by decide, for_range (n := 26) (fun i σ H' => H' = H2 ∧ (∀ k < i, other z r k ∈ ns) ∧ ∃ v4 v5 : Option V, σ = [some (.ref b), some (.ref p), some (.str z), some (.int r), v4, v5]) ⟨rfl, fun k hk => absurd hk (Nat.not_lt_zero k), _, _, rfl⟩ ?_ ?_⟩
    · rintro i _ _ hi ⟨rfl, hin, v4, v5, rfl⟩
      have hb := fmodR (i := r + (i : Int)) (n := 26) (by decide)
      have e0 : ((0 : Int) + (i : Int)) = (i : Int) := by omega
      have hat : atI lowers.cps.toList ((r + (0 + (i : Int))).fmod 26) = some (97 + ((r + (i : Int)).fmod 26).toNat) := by
        rw [e0]
        have e1 : ((((r + (i : Int)).fmod 26).toNat : Nat) : Int) = (r + (i : Int)).fmod 26 := by omega
        rw [← e1]
        exact atI_nat (low_at (by omega))
      refine ⟨_, rfl, 5, rfl, z, rfl, by omega, _, rfl, _, rfl, _, _, rfl, rfl, .inl ⟨_, rfl, _, _, rfl, rfl, (by show (26 : Int) ≠ 0; decide), lowers, _, _, rfl, rfl, (by decide +kernel), hat, _, _, rfl, rfl, ?_, ?_⟩⟩
      · have hc := cutS_length z none (some 5)
        show (cutS z none (some 5)).length + 1 ≤ sizeLine
        omega
      · refine ⟨_, rfl, _, rfl, p, _, rfl, .inl hp2, rfl, L2.flat_strs ns, _, rfl, ?_⟩
        refine ite2 (fun c => ?_) (fun c => ?_)
        · have hm : other z r i ∉ ns := fun h => by
            have c' : (!inV (.str (other z r i)) (ns.map V.str)) = true := c
            rw [inV_strs, decide_eq_true h] at c'
            cases c'
          exact ⟨_, rfl, q _ _ (other_name hz r0) hm B2 (b1.trans b2)⟩
        · have hm : other z r i ∈ ns := by
            by_cases h : other z r i ∈ ns
            · exact h
            · exfalso
              refine c ?_
              show (!inV (.str (other z r i)) (ns.map V.str)) = true
              rw [inV_strs, decide_eq_false h]
              rfl
          refine ⟨rfl, fun k hk => ?_, _, _, rfl⟩
          by_cases hki : k = i
          · rw [hki]
            exact hm
          · exact hin k (by omega)
    · rintro _ _ ⟨rfl, hin, v4, v5, rfl⟩
      exact (other_free r0 hn hin).elim
end
end K1

set_option Elab.async false
set_option linter.all false
set_option maxRecDepth 100000
set_option maxHeartbeats 4000000
namespace K1
open PySem PySem.Spec PyProof.Rows L2 Fb
abbrev sPartsText : Stmt := top 33
/-- parts of moderate size -/
def Small (ps : List (Str × Str)) : Prop := ps.length ≤ 100 ∧ ∀ p ∈ ps, p.1.length ≤ 1000 ∧ p.2.length ≤ 1000
section
variable {P : Program} {w : World} {K : PySem.W.Frag} {mg : Str → Option Value} {base : Heap}
theorem scPartsText : FnScope ["parts", "part"] ["parts"] (defScope sPartsText) := ⟨rfl, rfl, rfl, by decide +kernel, rfl, by decide +kernel, by decide +kernel⟩
def spPartsText (K : PySem.W.Frag) : Sp := fun vs H Q _ => ∃ (p : Addr) (ps : List (Str × Str)), vs = [.ref p] ∧ PartsAt K H p ps ∧ Small ps ∧ ∀ H', Same H H' → Q (.str (partsText ps)) H'
theorem ok_parts_text {f : Addr} {fd : FuncData} (F : Fun K "_law_parts_text" "_law_parts_text" sPartsText f fd) : FnOk P w K mg base CX0 1 f fd ["parts"] (spPartsText K) := by
  refine F.ok scPartsText (fun vs H Q E h => ?_) (fun cdv A outer s H vs Q E hr h => ?_)
  · obtain ⟨p, ps, rfl, _⟩ := h
    rfl
  obtain ⟨p, ps, rfl, ⟨ts, hp, hps⟩, hsm, q⟩ := h
  refine ⟨_, pss_one (ps_ret (pe_join pe_str (pe_lc (own := [("part", 1)]) (g := gName 1) (tt := tYes) (te := tOp rAddS (tOp rAddS (tOp (rIxT K) (tVar 1) (tC (.int 0))) (tC (.str ":"))) (tOp (rIxT K) (tVar 1) (tC (.int 1)))) rfl scPartsText.nd (pi_list (pv 0)) (blkOk_by (N := ["parts", "part"]) (sc := defScope sPartsText) (by decide +kernel))
            (fun _ _ _ _ _ => pg_name (i := 1) scPartsText.nd rfl (Or.inl rfl)) (fun _ _ _ _ _ => pts_nil) (fun _ _ _ _ _ => pe_op op_add_str (pe_op op_add_str (pe_ix ix_tup (pv 1) pe_int (fun _ _ => rfl)) pe_str) (pe_ix ix_tup (pv 1) pe_int (fun _ _ => rfl)))))), ?_⟩
  have hz2 : sizeLine = 16777216 := sizeLine_eq
  have hlen := hps.len
  refine ⟨⟨_, rfl⟩, _, rfl, p, rfl, ⟨_, hp⟩, fun D hD => lc_list (xs := ts.map V.ref) (PvTexts ptext ps H D) ⟨by rw [List.take_zero]; exact upd_same, same_new hD _⟩ (fun i Hi _ pv => pv.2.seq hp) ?_ ?_⟩
  · intro i y Hi hi pv
    obtain ⟨t, ht, rfl⟩ : ∃ t, ts[i]? = some t ∧ V.ref t = y := by
      rw [List.getElem?_map] at hi
      exact Option.map_eq_some_iff.mp hi
    obtain ⟨r, hr, hrt⟩ := (hps.same pv.2).get ht
    have hrm := hsm.2 r (List.mem_of_getElem? hr)
    refine ⟨rfl, _, rfl, t, _, 0, .str r.1, rfl, rfl, hrt, rfl, _, _, rfl, rfl, (by show r.1.length + 1 ≤ sizeLine; omega), _, rfl, t, _, 1, .str r.2, rfl, rfl, hrt, rfl, _, _, rfl, rfl, ?_, _, pv.1, ?_, pv.step hD hr⟩
    · rw [strLen_append]
      show r.1.length + 1 + r.2.length ≤ sizeLine
      omega
    · rw [List.length_map, List.length_map, List.length_take]
      have := hsm.1
      omega
  · rintro Hi ⟨h1, h2⟩
    rw [List.length_map, hlen, List.take_of_length_le (Nat.le_refl _)] at h1
    refine ⟨_, D, ps.map ptext, rfl, rfl, .inl (SqL.of h1), ?_, q Hi h2⟩
    have e := strlen_sum (m := 2001) (ps.map ptext) fun y hy => by
      obtain ⟨r, hr, rfl⟩ := List.mem_map.mp hy
      have := hsm.2 r hr
      unfold ptext
      rw [strLen_append, strLen_append]
      show r.1.length + 1 + r.2.length ≤ 2001
      omega
    rw [List.length_map] at e ⊢
    have h3 := hsm.1
    show _ + ps.length * 1 ≤ _
    have : ps.length * 2001 ≤ 100 * 2001 := Nat.mul_le_mul_right _ h3
    omega
end
end K1

set_option Elab.async false
set_option linter.all false
set_option maxRecDepth 100000
set_option maxHeartbeats 4000000
namespace Fb
open PySem PySem.Spec PyProof.Rows L2
abbrev appU (us ws : List Value) : List Value := us ++ ws
abbrev appV (vs zs : List V) : List V := vs ++ zs
abbrev revU (us ws : List Value) : List Value := us ++ ws.reverse
abbrev revV (vs zs : List V) : List V := vs ++ zs.reverse
/-- the ways with keywords in which such an __init__ is called -/
def KBAll (K : PySem.W.Frag) (fd : FuncData) : List Str → Prop
  | [f1] => KBn K fd ["self", f1] 1 [f1] appU appV
  | [f1, f2] => KBn K fd ["self", f1, f2] 1 [f1, f2] appU appV ∧ KBn K fd ["self", f1, f2] 1 [f2, f1] revU revV ∧ KBn K fd ["self", f1, f2] 2 [f2] appU appV
  | _ => True
/-- an error class of the package: x its name and its code, fl its fields -/
structure Cl (P : Program) (w : World) (K : PySem.W.Frag) (mg : Str → Option Value) (base : Heap) (x : Str) (fl : List Str) (C : Addr) : Prop where
  gC : mg x = some (.ref C)
  mkr : ∃ (fI : Addr) (fd : FuncData), EMk K C fI ∧ FnOk P w K mg base CX0 1 fI fd ("self" :: fl) (spI K C x fl) ∧ Binds K fd ("self" :: fl) [] ∧ KBAll K fd fl
  is : EIs K C
  no : NoF K C fl
theorem Cl.ec {P : Program} {w : World} {K : PySem.W.Frag} {mg : Str → Option Value} {base : Heap} {x : Str} {fl : List Str} {C : Addr} (T : Cl P w K mg base x fl C) : EC K C := by
  obtain ⟨fI, fd, T, _⟩ := T.mkr
  exact T.toEC
/-- the fields of such an error -/
abbrev flds (x : Str) (fl : List Str) (ys : List V) : List (Str × V) := (("code" : Str), V.str x) :: (fl.zip ys).reverse
/-- what is left when an error has been made -/
def tErr (K : PySem.W.Frag) (C : Addr) (x : Str) (fl : List Str) (ys : List V) (H : Hp) (Q : VK) : Prop := ys.length = fl.length ∧ (∀ y ∈ ys, Fm K H y) ∧ ∀ (e : Addr) (H' : Hp), Same H H' → H e = none → Err H' e C (flds x fl ys) → Q (.ref e) H'
theorem err_sp {K : PySem.W.Frag} {C : Addr} {x : Str} {fl : List Str} {ys : List V} {H : Hp} {Q : VK} (h : tErr K C x fl ys H Q) (a : Addr) (ha : H a = none) : spI K C x fl (.ref a :: ys) (upd H a (exo a C none)) (fun v H3 => v = .non ∧ Q (.ref a) H3) E0 := by
  obtain ⟨hl, hf, q⟩ := h
  exact ⟨a, ys, rfl, hl, upd_same, fun y hy => (hf y hy).same (same_new ha _), fun d H' hd hne hs h1 h2 => ⟨rfl, q a H' (fun b o e => hs b o (ne_of_none e ha) ((upd_ne (ne_of_none e ha)).trans e)) ha ⟨d, .inl h1, .inr h2⟩⟩⟩
section
variable {X : Cx} {C : Addr} {x p1 p2 f1 f2 : Str} {fl : List Str} {p pos q1 q2 : Pos} {a b : Expr} {ta tb : TE} {t : TA}
theorem pe_new0 (T : Cl X.prog X.w X.K X.mg X.base x [] C) (hr : Room 2 X.A) (hg : Gl X x) (hx : Passes CX0 X E0) (hdb : (x == ("__debug__" : Str)) = false := by decide) :
    PE X (.Call (.Name x p) [] [] pos) (tMkx C 0 0 (spI X.K C x []) (fun us _ => us) tNil tNil) := by
  obtain ⟨fI, fd, T1, F, b, k⟩ := T.mkr
  exact pe_mkx0 T1 F hr hg T.gC (kbn_pos b) hx hdb
theorem pe_new1 (T : Cl X.prog X.w X.K X.mg X.base x [f1] C) (hr : Room 2 X.A) (hg : Gl X x) (hx : Passes CX0 X E0) (ha : PA X [a] t) (hdb : (x == ("__debug__" : Str)) = false := by decide) (he : starEach [a] X.env = (false, eval a X.env) :: starEach [] X.env := by rfl)
    (hpl : ((backTo pos (starEach [a] X.env)).any (·.1) || (backToKw pos (keywordEach [] X.env)).any (·.1.isNone)) = false := by rfl) :
    PE X (.Call (.Name x p) [a] [] pos) (tMkx C 1 0 (spI X.K C x [f1]) (fun us _ => us) t tNil) := by
  obtain ⟨fI, fd, T1, F, b, k⟩ := T.mkr
  exact pe_mkxN (n := 1) (ks := []) T1 F hr hg T.gC (kbn_pos b) hx (by decide) ha pk_nil rfl rfl hdb he hpl
theorem pe_new1k (T : Cl X.prog X.w X.K X.mg X.base x [f1] C) (hr : Room 2 X.A) (hg : Gl X x) (hx : Passes CX0 X E0) (ha : PE X a ta) (hall : (backToKw pos (keywordEach [⟨some f1, a, q1⟩] X.env)).all (·.1.isSome) = true := by rfl) (hks : (backToKw pos (keywordEach [⟨some f1, a, q1⟩] X.env)).filterMap (·.1) = [f1] := by rfl)
    (hdb : (x == ("__debug__" : Str)) = false := by decide) (hpl : ((backTo pos (starEach [] X.env)).any (·.1) || (backToKw pos (keywordEach [⟨some f1, a, q1⟩] X.env)).any (·.1.isNone)) = false := by rfl) :
    PE X (.Call (.Name x p) [] [⟨some f1, a, q1⟩] pos) (tMkx C 0 1 (spI X.K C x [f1]) appV tNil (tCons ta tNil)) := by
  obtain ⟨fI, fd, T1, F, b, k⟩ := T.mkr
  exact pe_mkxK T1 F hr hg T.gC k hx (pk_cons ha pk_nil) hall hks hdb hpl
theorem pe_new2 (T : Cl X.prog X.w X.K X.mg X.base x [f1, f2] C) (hr : Room 2 X.A) (hg : Gl X x) (hx : Passes CX0 X E0) (ha : PA X [a, b] t) (hdb : (x == ("__debug__" : Str)) = false := by decide)
    (he : starEach [a, b] X.env = (false, eval a X.env) :: starEach [b] X.env := by rfl)
    (hpl : ((backTo pos (starEach [a, b] X.env)).any (·.1) || (backToKw pos (keywordEach [] X.env)).any (·.1.isNone)) = false := by rfl) :
    PE X (.Call (.Name x p) [a, b] [] pos) (tMkx C 2 0 (spI X.K C x [f1, f2]) (fun us _ => us) t tNil) := by
  obtain ⟨fI, fd, T1, F, bi, k⟩ := T.mkr
  exact pe_mkxN (n := 2) (ks := []) T1 F hr hg T.gC (kbn_pos bi) hx (by decide) ha pk_nil rfl rfl hdb he hpl
theorem pe_new2k (T : Cl X.prog X.w X.K X.mg X.base x [f1, f2] C) (hr : Room 2 X.A) (hg : Gl X x) (hx : Passes CX0 X E0) (ha : PE X a ta) (hb : PE X b tb) (hall : (backToKw pos (keywordEach [⟨some f1, a, q1⟩, ⟨some f2, b, q2⟩] X.env)).all (·.1.isSome) = true := by rfl)
    (hks : (backToKw pos (keywordEach [⟨some f1, a, q1⟩, ⟨some f2, b, q2⟩] X.env)).filterMap (·.1) = [f1, f2] := by rfl)
    (hdb : (x == ("__debug__" : Str)) = false := by decide) (hpl : ((backTo pos (starEach [] X.env)).any (·.1) || (backToKw pos (keywordEach [⟨some f1, a, q1⟩, ⟨some f2, b, q2⟩] X.env)).any (·.1.isNone)) = false := by rfl) :
    PE X (.Call (.Name x p) [] [⟨some f1, a, q1⟩, ⟨some f2, b, q2⟩] pos) (tMkx C 0 2 (spI X.K C x [f1, f2]) appV tNil (tCons ta (tCons tb tNil))) := by
  obtain ⟨fI, fd, T1, F, bi, k⟩ := T.mkr
  exact pe_mkxK T1 F hr hg T.gC k.1 hx (pk_cons ha (pk_cons hb pk_nil)) hall hks hdb hpl
theorem pe_new2r (T : Cl X.prog X.w X.K X.mg X.base x [f1, f2] C) (hr : Room 2 X.A) (hg : Gl X x) (hx : Passes CX0 X E0) (ha : PE X a ta) (hb : PE X b tb) (hall : (backToKw pos (keywordEach [⟨some f2, b, q1⟩, ⟨some f1, a, q2⟩] X.env)).all (·.1.isSome) = true := by rfl)
    (hks : (backToKw pos (keywordEach [⟨some f2, b, q1⟩, ⟨some f1, a, q2⟩] X.env)).filterMap (·.1) = [f2, f1] := by rfl)
    (hdb : (x == ("__debug__" : Str)) = false := by decide) (hpl : ((backTo pos (starEach [] X.env)).any (·.1) || (backToKw pos (keywordEach [⟨some f2, b, q1⟩, ⟨some f1, a, q2⟩] X.env)).any (·.1.isNone)) = false := by rfl) :
    PE X (.Call (.Name x p) [] [⟨some f2, b, q1⟩, ⟨some f1, a, q2⟩] pos) (tMkx C 0 2 (spI X.K C x [f1, f2]) revV tNil (tCons tb (tCons ta tNil))) := by
  obtain ⟨fI, fd, T1, F, bi, k⟩ := T.mkr
  exact pe_mkxK T1 F hr hg T.gC k.2.1 hx (pk_cons hb (pk_cons ha pk_nil)) hall hks hdb hpl
theorem pe_new2m (T : Cl X.prog X.w X.K X.mg X.base x [f1, f2] C) (hr : Room 2 X.A) (hg : Gl X x) (hx : Passes CX0 X E0) (ha : PA X [a] t) (hb : PE X b tb) (hall : (backToKw pos (keywordEach [⟨some f2, b, q1⟩] X.env)).all (·.1.isSome) = true := by rfl)
    (hks : (backToKw pos (keywordEach [⟨some f2, b, q1⟩] X.env)).filterMap (·.1) = [f2] := by rfl)
    (hdb : (x == ("__debug__" : Str)) = false := by decide) (he : starEach [a] X.env = (false, eval a X.env) :: starEach [] X.env := by rfl)
    (hpl : ((backTo pos (starEach [a] X.env)).any (·.1) || (backToKw pos (keywordEach [⟨some f2, b, q1⟩] X.env)).any (·.1.isNone)) = false := by rfl) :
    PE X (.Call (.Name x p) [a] [⟨some f2, b, q1⟩] pos) (tMkx C 1 1 (spI X.K C x [f1, f2]) appV t (tCons tb tNil)) := by
  obtain ⟨fI, fd, T1, F, bi, k⟩ := T.mkr
  exact pe_mkxN (n := 1) T1 F hr hg T.gC k.2.2 hx (by decide) ha (pk_cons hb pk_nil) hall hks hdb he hpl
end
/-- the ways with keywords, by the text -/
theorem InitF.kbn {P : Program} {K : PySem.W.Frag} {C fI : Addr} {st : Stmt} {qual : Str} {fd : FuncData} {ps ks : List Str} {n : Nat} {g : List Value → List Value → List Value} {gV : List V → List V → List V} (F : InitF P K C fI st qual fd)
    (h : ∀ (doc pm : Value) (an : Option Addr) (ct : Value) (c cc : Addr) (us ws : List Value), us.length = n → ws.length = ks.length → bindArgs (PySem.W.fnX "__init__" qual (defArgs st) (defBody st) (defScope st) [(("__class__" : Str), cc)] .none .none doc pm an (.ref c) ct) ⟨us, ks.zip ws⟩ = pure (ps.zip (g us ws)))
    (hrel : ∀ {vs : List V} {us : List Value} {zs : List V} {ws : List Value}, Vals vs us → Vals zs ws → Vals (gV vs zs) (g us ws)) : KBn K fd ps n ks g gV := by
  obtain ⟨oc, od, doc, pm, an, ct, osl, c, cc, rfl, _, _⟩ := F.ex
  exact ⟨fun s us ws _ h1 h2 => .of_eq (h doc pm an ct c cc us ws h1 h2), hrel⟩
theorem rel_app {vs : List V} {us : List Value} {zs : List V} {ws : List Value} (a : Vals vs us) (b : Vals zs ws) : Vals (appV vs zs) (appU us ws) := a.append b
theorem rel_rev {vs : List V} {us : List Value} {zs : List V} {ws : List Value} (a : Vals vs us) (b : Vals zs ws) : Vals (revV vs zs) (revU us ws) := a.append b.reverse
end Fb

set_option Elab.async false
set_option linter.all false
set_option maxRecDepth 100000
set_option maxHeartbeats 4000000
namespace Fb
open PySem PySem.Spec PyProof.Rows L2
/-- what is left when an error is raised -/
def tRai (K : PySem.W.Frag) (C : Addr) (x : Str) (fl : List Str) (ys : List V) (H : Hp) (E : XK) : Prop := ys.length = fl.length ∧ (∀ y ∈ ys, Fm K H y) ∧ ∀ (d : Addr) (H' : Hp), Same H H' → H d = none → H' d = some (.xd (flds x fl ys)) → E (.ref C) (some d) H'
theorem tRai.same {K : PySem.W.Frag} {C : Addr} {x : Str} {fl : List Str} {ys : List V} {H H' : Hp} {E : XK} (h : tRai K C x fl ys H E) (s : Same H H') : tRai K C x fl ys H' E :=
  ⟨h.1, fun y hy => (h.2.1 y hy).same s, fun d H2 s2 hd er => h.2.2 d H2 (s.trans s2) (s.free hd) er⟩
theorem rai_sp {K : PySem.W.Frag} {C : Addr} {x : Str} {fl : List Str} {ys : List V} {H : Hp} {E : XK} (h : tRai K C x fl ys H E) (a : Addr) (ha : H a = none) :
    spI K C x fl (.ref a :: ys) (upd H a (exo a C none)) (fun v H2 => v = .non ∧ ∃ (d : Addr) (fs : List (Str × V)), H2 a = some (exo a C (some d)) ∧ H2 d = some (exd d fs) ∧ H d = none ∧ E (.ref C) (some d) (upd (L2.del H2 a) d (.xd fs))) E0 := by
  obtain ⟨hl, hf, q⟩ := h
  refine ⟨a, ys, rfl, hl, upd_same, fun y hy => (hf y hy).same (same_new ha _), fun d H' hd hne hs h1 h2 => ?_⟩
  rw [upd_ne hne] at hd
  refine ⟨rfl, d, _, h1, h2, hd, q d _ (fun b o e => ?_) hd upd_same⟩
  have hba := ne_of_none e ha
  exact (upd_ne (ne_of_none e hd)).trans ((L2.del_ne hba).trans (hs b o hba ((upd_ne hba).trans e)))
section
variable {X : Cx} {C : Addr} {x f1 f2 : Str} {p pos : Pos} {a b : Expr} {t : TA}
theorem pmk_cl0 (T : Cl X.prog X.w X.K X.mg X.base x [] C) (hr : Room 2 X.A) (hg : Gl X x) (hx : Passes CX0 X E0) (hdb : (x == ("__debug__" : Str)) = false := by decide) : PMk X (.Call (.Name x p) [] [] pos) (tMkr C 0 (spI X.K C x []) tNil) := by
  obtain ⟨fI, fd, T1, F, b, k⟩ := T.mkr
  exact pmk_x0 T1 F hr hg T.gC b rfl hx hdb
theorem pmk_cl1 (T : Cl X.prog X.w X.K X.mg X.base x [f1] C) (hr : Room 2 X.A) (hg : Gl X x) (hx : Passes CX0 X E0) (ha : PA X [a] t) (hdb : (x == ("__debug__" : Str)) = false := by decide) (he : starEach [a] X.env = (false, eval a X.env) :: starEach [] X.env := by rfl) (hpl : (backTo pos (starEach [] X.env)).any (·.1) = false := by rfl) :
    PMk X (.Call (.Name x p) [a] [] pos) (tMkr C 1 (spI X.K C x [f1]) t) := by
  obtain ⟨fI, fd, T1, F, b, k⟩ := T.mkr
  exact pmk_x T1 F hr hg T.gC b rfl hx (by decide) ha hdb he hpl
theorem pmk_cl2 (T : Cl X.prog X.w X.K X.mg X.base x [f1, f2] C) (hr : Room 2 X.A) (hg : Gl X x) (hx : Passes CX0 X E0) (ha : PA X [a, b] t) (hdb : (x == ("__debug__" : Str)) = false := by decide) (he : starEach [a, b] X.env = (false, eval a X.env) :: starEach [b] X.env := by rfl) (hpl : (backTo pos (starEach [b] X.env)).any (·.1) = false := by rfl) :
    PMk X (.Call (.Name x p) [a, b] [] pos) (tMkr C 2 (spI X.K C x [f1, f2]) t) := by
  obtain ⟨fI, fd, T1, F, bi, k⟩ := T.mkr
  exact pmk_x T1 F hr hg T.gC bi rfl hx (by decide) ha hdb he hpl
end
section
variable {X : Cx} {k : Nat} {ps : List Str} {sp : Sp} {E : L2.St → XK} {x : Str} {q pos : Pos} {e : Expr} {es : List Expr} {t : TA} {CX : CXT}
theorem pe_rdS (R : Rd X.prog X.w X.K X.mg X.base CX k x ps sp) (hr : Room k X.A) (hg : Gl X x) (hx : ∀ σ, PassesAt CX X σ (E σ)) (ha : PA X (e :: es) t) (hdb : (x == ("__debug__" : Str)) = false := by decide)
    (he : starEach (e :: es) X.env = (false, eval e X.env) :: starEach es X.env := by rfl) (hpl : (backTo pos (starEach es X.env)).any (·.1) = false := by rfl) : PE X (.Call (.Name x q) (e :: es) [] pos) (tCallS sp E t) := by
  obtain ⟨f, fd, F, hm, hk, hb⟩ := R.ex
  exact pe_callS F hr hg hm hk hb hx ha hdb he hpl
end
end Fb

set_option Elab.async false
set_option linter.all false
set_option maxRecDepth 100000
set_option maxHeartbeats 4000000
namespace Fb
open PySem PySem.Spec PyProof.Rows L2
/-- a part that is wrong behind these names -/
def badPart (ahead : List Str) (p : Str × Str) : Bool := !isName p.1 || (decide (p.1 ∈ ahead) || !areSigns p.2)
def badK (ps : List (Str × Str)) (k : Nat) : Bool := match ps[k]? with
  | some p => badPart ((ps.take k).map (·.1)) p
  | none => false
theorem badK_at {ps : List (Str × Str)} {k : Nat} {p : Str × Str} (h : ps[k]? = some p) : badK ps k = badPart ((ps.take k).map (·.1)) p := by
  unfold badK
  rw [h]
/-- the first wrong part -/
def badAt (ps : List (Str × Str)) : Option Nat := (List.range ps.length).find? (badK ps)
theorem badAt_some {ps : List (Str × Str)} {k : Nat} (hk : k < ps.length) (h : badK ps k = true) (hn : ∀ j < k, badK ps j = false) : badAt ps = some k := by
  unfold badAt
  rw [List.find?_range_eq_some]
  exact ⟨h, List.mem_range.mpr hk, fun j hj => by rw [hn j hj]; rfl⟩
theorem badAt_none {ps : List (Str × Str)} (hn : ∀ j < ps.length, badK ps j = false) : badAt ps = none := by
  unfold badAt
  rw [List.find?_range_eq_none]
  exact fun j hj => by rw [hn j hj]; rfl
theorem badAt_none_iff {ps : List (Str × Str)} : badAt ps = none ↔ ∀ j < ps.length, badK ps j = false := by
  refine ⟨fun h j hj => ?_, badAt_none⟩
  unfold badAt at h
  rw [List.find?_range_eq_none] at h
  have := h j hj
  simpa using this
/-- how many letters parts make -/
def many (ps : List (Str × Str)) : Nat := ps.foldl (fun n p => n * p.2.length) 1
theorem many_snoc {ps : List (Str × Str)} {i : Nat} {r : Str × Str} (h : ps[i]? = some r) : many (ps.take (i + 1)) = many (ps.take i) * r.2.length := by
  have e : ps.take (i + 1) = ps.take i ++ [r] := by rw [List.take_succ, h]; rfl
  unfold many
  rw [e, List.foldl_append]
  rfl
def eParts (n : Nat) : Str × List V := ("TooMany", [V.str "parts", V.int n])
def eNone : Str × List V := ("BadLetters", [V.int (-1)])
def ePart (k : Nat) : Str × List V := ("BadLetters", [V.int k])
def eMany (n : Nat) : Str × List V := ("TooMany", [V.str "letters", V.int n])
/-- what is wrong with parts, up to the number of letters: the error's class and its values -/
def head (ps : List (Str × Str)) : Option (Str × List V) :=
  if 4 < ps.length then some (eParts ps.length) else if ps = [] then some eNone else (badAt ps).map ePart
def verdict (ps : List (Str × Str)) : Option (Str × List V) := match head ps with
  | some e => some e
  | none => if 16 < many ps then some (eMany (many ps)) else none
theorem many_le {ps : List (Str × Str)} {i : Nat} (hi : i ≤ ps.length) (h : ∀ p ∈ ps, p.2.length ≤ 16) : many (ps.take i) ≤ 16 ^ i := by
  induction i with
  | zero => exact Nat.le_refl _
  | succ i ih =>
    have h1 := ih (by omega)
    have h2 := h _ (List.getElem_mem (by omega : i < ps.length))
    rw [many_snoc (List.getElem?_eq_getElem (by omega : i < ps.length)), Nat.pow_succ]
    exact Nat.mul_le_mul h1 h2
theorem areSigns_len {z : Str} (h : areSigns z = true) : 1 ≤ z.length ∧ z.length ≤ 16 ∧ (TL.tl z).Nodup ∧ ∀ c ∈ z.cps.toList, c ∈ signsS.cps.toList := by
  unfold areSigns at h
  rw [Bool.and_eq_true, Bool.and_eq_true, Bool.and_eq_true, decide_eq_true_iff, decide_eq_true_iff, decide_eq_true_iff, List.all_eq_true] at h
  exact ⟨h.1, h.2.1, h.2.2.1, fun c hc => of_decide_eq_true (h.2.2.2 c hc)⟩
theorem isName_len {z : Str} (h : isName z = true) : 1 ≤ z.length ∧ z.length ≤ 6 ∧ ∀ c ∈ z.cps.toList, c ∈ lowers.cps.toList := by
  unfold isName at h
  rw [Bool.and_eq_true, Bool.and_eq_true, decide_eq_true_iff, decide_eq_true_iff, List.all_eq_true] at h
  exact ⟨h.1, h.2.1, fun c hc => of_decide_eq_true (h.2.2 c hc)⟩
theorem head_none {ps : List (Str × Str)} (h : head ps = none) : ps.length ≤ 4 ∧ ps ≠ [] ∧ ∀ (k : Nat) (p : Str × Str), ps[k]? = some p → isName p.1 = true ∧ p.1 ∉ (ps.take k).map (·.1) ∧ areSigns p.2 = true := by
  unfold head at h
  split at h
  · cases h
  · split at h
    · cases h
    · rename_i h1 h2
      refine ⟨by omega, h2, fun k p hp => ?_⟩
      rw [Option.map_eq_none_iff, badAt_none_iff] at h
      have hb := h k (List.getElem?_eq_some_iff.mp hp).1
      rw [badK_at hp] at hb
      unfold badPart at hb
      rw [Bool.or_eq_false_iff, Bool.or_eq_false_iff] at hb
      exact ⟨by simpa using hb.1, by simpa using hb.2.1, by simpa using hb.2.2⟩
theorem head_small {ps : List (Str × Str)} (h : head ps = none) : ∀ i ≤ ps.length, many (ps.take i) ≤ 1000000 := fun i hi => by
  obtain ⟨h1, h2, h3⟩ := head_none h
  have h4 := many_le hi fun p hp => by
    obtain ⟨k, hk⟩ := List.mem_iff_getElem?.mp hp
    exact (areSigns_len (h3 k p hk).2.2).2.1
  have h5 : 16 ^ i ≤ 16 ^ 4 := Nat.pow_le_pow_right (by decide) (by omega)
  have h6 : (16 : Nat) ^ 4 = 65536 := by decide
  omega
end Fb

set_option Elab.async false
set_option linter.all false
set_option maxRecDepth 100000
set_option maxHeartbeats 4000000
namespace Fb
open PySem PySem.Spec PyProof.Rows L2
/-- the words with one sign more -/
def withSign (w : Str) (c : Nat) : Str := w ++ ⟨#[c]⟩
def longer (z : Str) (w : Str) : List Str := z.cps.toList.map (withSign w)
def grow (mine : List Str) (z : Str) : List Str := mine.flatMap (longer z)
def listed (zs : List Str) : List Str := zs.foldl grow [""]
theorem tl_inj {a b : Str} (h : TL.tl a = TL.tl b) : a = b := by
  cases a with
  | mk x =>
    cases b with
    | mk y =>
      have e : x.toList = y.toList := h
      rw [Array.toList_inj.mp e]
theorem withSign_inj {w v : Str} {c d : Nat} (h : withSign w c = withSign v d) : w = v ∧ c = d := by
  have e : TL.tl (withSign w c) = TL.tl (withSign v d) := by rw [h]
  unfold withSign at e
  rw [TL.tl_append, TL.tl_append] at e
  obtain ⟨e1, e2⟩ := List.append_inj' e (by rfl)
  exact ⟨tl_inj e1, by simpa using e2⟩
theorem longer_nodup {z : Str} (h : (TL.tl z).Nodup) (w : Str) : (longer z w).Nodup := by
  unfold longer List.Nodup
  rw [List.pairwise_map]
  exact List.Pairwise.imp (fun {a b} q e => q (withSign_inj e).2) h
theorem grow_cons {w : Str} {r : List Str} {z : Str} : grow (w :: r) z = longer z w ++ grow r z := by
  unfold grow
  rw [List.flatMap_cons]
theorem mem_grow {mine : List Str} {z x : Str} : x ∈ grow mine z ↔ ∃ w ∈ mine, ∃ c ∈ z.cps.toList, withSign w c = x := by
  unfold grow longer
  rw [List.mem_flatMap]
  simp only [List.mem_map]
theorem grow_nodup {z : Str} (h : (TL.tl z).Nodup) : ∀ {mine : List Str}, mine.Nodup → (grow mine z).Nodup
  | [], _ => List.nodup_nil
  | w :: r, hm => by
    rw [List.nodup_cons] at hm
    rw [grow_cons, List.nodup_append]
    refine ⟨longer_nodup h w, grow_nodup h hm.2, fun a ha b hb e => ?_⟩
    obtain ⟨c, hc, rfl⟩ := List.mem_map.mp ha
    obtain ⟨v, hv, d, hd, e2⟩ := mem_grow.mp hb
    rw [← e] at e2
    rw [(withSign_inj e2).1] at hv
    exact hm.1 hv
theorem fold_nodup : ∀ (zs mine : List Str), (∀ z ∈ zs, (TL.tl z).Nodup) → mine.Nodup → (zs.foldl grow mine).Nodup
  | [], _, _, h => h
  | z :: r, mine, hz, h => fold_nodup r (grow mine z) (fun y hy => hz y (List.mem_cons_of_mem _ hy)) (grow_nodup (hz z List.mem_cons_self) h)
theorem listed_nodup {zs : List Str} (h : ∀ z ∈ zs, (TL.tl z).Nodup) : (listed zs).Nodup := fold_nodup zs [""] h (by simp)
theorem growLen {z : Str} : ∀ mine : List Str, (grow mine z).length = mine.length * z.length
  | [] => by simp [grow]
  | w :: r => by
    have ih := growLen (z := z) r
    rw [grow_cons, List.length_append, ih, List.length_cons, Nat.succ_mul]
    have h : (longer z w).length = z.length := by simp [longer, Str.length]
    omega
theorem fold_many : ∀ (ps : List (Str × Str)) (mine : List Str), ((ps.map (·.2)).foldl grow mine).length = ps.foldl (fun n p => n * p.2.length) mine.length
  | [], _ => rfl
  | p :: r, mine => by
    rw [List.map_cons, List.foldl_cons, List.foldl_cons, fold_many r, growLen]
theorem listed_many (ps : List (Str × Str)) : (listed (ps.map (·.2))).length = many ps := fold_many ps [""]
theorem many_mono {ps : List (Str × Str)} (h : ∀ p ∈ ps, 1 ≤ p.2.length) : ∀ d i : Nat, i + d = ps.length → many (ps.take i) ≤ many ps
  | 0, i, e => by rw [List.take_of_length_le (by omega)]; exact Nat.le_refl _
  | d + 1, i, e => by
    have ih := many_mono h d (i + 1) (by omega)
    have hi : i < ps.length := by omega
    rw [many_snoc (List.getElem?_eq_getElem hi)] at ih
    have h1 := h _ (List.getElem_mem hi)
    exact Nat.le_trans (Nat.le_mul_of_pos_right _ h1) ih
/-- what is good about parts that make letters -/
structure GoodPs (ps : List (Str × Str)) : Prop where
  few : ps.length ≤ 4
  ne : ps ≠ []
  at_ : ∀ (k : Nat) (p : Str × Str), ps[k]? = some p → isName p.1 = true ∧ p.1 ∉ (ps.take k).map (·.1) ∧ areSigns p.2 = true
  lim : many ps ≤ 16
theorem GoodPs.of {ps : List (Str × Str)} (h : verdict ps = none) : GoodPs ps := by
  unfold verdict at h
  split at h
  · cases h
  · rename_i h1
    obtain ⟨a, b, c⟩ := head_none h1
    split at h
    · cases h
    · exact ⟨a, b, c, by omega⟩
theorem head_of_verdict {ps : List (Str × Str)} (h : verdict ps = none) : head ps = none := by
  unfold verdict at h
  split at h
  · cases h
  · assumption
theorem GoodPs.mem {ps : List (Str × Str)} (g : GoodPs ps) {p : Str × Str} (hp : p ∈ ps) : isName p.1 = true ∧ areSigns p.2 = true := by
  obtain ⟨k, hk⟩ := List.mem_iff_getElem?.mp hp
  exact ⟨(g.at_ k p hk).1, (g.at_ k p hk).2.2⟩
theorem GoodPs.nodup {ps : List (Str × Str)} (g : GoodPs ps) : (ps.map (·.1)).Nodup := by
  unfold List.Nodup
  rw [List.pairwise_iff_getElem]
  intro i j hi hj hlt e
  rw [List.length_map] at hi hj
  have h := (g.at_ j _ (List.getElem?_eq_getElem hj)).2.1
  refine h ?_
  rw [List.getElem_map, List.getElem_map] at e
  rw [← e]
  refine List.mem_map.mpr ⟨ps[i], ?_, rfl⟩
  exact List.mem_iff_getElem?.mpr ⟨i, by rw [List.getElem?_take, if_pos hlt, List.getElem?_eq_getElem hi]⟩
theorem GoodPs.pos {ps : List (Str × Str)} (g : GoodPs ps) : ∀ p ∈ ps, 1 ≤ p.2.length := fun p hp => (areSigns_len (g.mem hp).2).1
theorem GoodPs.upTo {ps : List (Str × Str)} (g : GoodPs ps) {i : Nat} (hi : i ≤ ps.length) : (listed ((ps.map (·.2)).take i)).length ≤ 16 := by
  rw [← List.map_take, listed_many]
  exact Nat.le_trans (many_mono g.pos (ps.length - i) i (by omega)) g.lim
abbrev lettersOf (ps : List (Str × Str)) : List Str := listed (ps.map (·.2))
theorem GoodPs.letters {ps : List (Str × Str)} (g : GoodPs ps) : (lettersOf ps).Nodup := listed_nodup fun z hz => by
  obtain ⟨p, hp, rfl⟩ := List.mem_map.mp hz
  exact (areSigns_len (g.mem hp).2).2.2.1
theorem GoodPs.count {ps : List (Str × Str)} (g : GoodPs ps) : (lettersOf ps).length ≤ 16 := by
  rw [listed_many]
  exact g.lim
theorem many_pos {ps : List (Str × Str)} (h : ∀ p ∈ ps, 1 ≤ p.2.length) : 1 ≤ many ps := many_mono h ps.length 0 (by omega)
theorem GoodPs.some {ps : List (Str × Str)} (g : GoodPs ps) : 0 < (lettersOf ps).length := by
  rw [listed_many]
  exact many_pos g.pos
/-- the places of words, up to the i-th -/
def plc (ws : List Str) : Nat → List (Key × V)
  | 0 => []
  | i + 1 => putK (plc ws i) (.inr (ws.getD i "")) (.int (i : Nat))
theorem plc_len (ws : List Str) : ∀ i, (plc ws i).length ≤ i
  | 0 => Nat.le_refl _
  | i + 1 => by
    have h1 := length_putK (plc ws i) (Sum.inr (ws.getD i "")) (.int (i : Nat))
    have h2 := plc_len ws i
    show (putK (plc ws i) (.inr (ws.getD i "")) (.int (i : Nat))).length ≤ i + 1
    omega
theorem plc_none (ws : List Str) (w : Str) : ∀ i, (∀ j < i, ws.getD j "" ≠ w) → valV (plc ws i) (.inr w) = none
  | 0, _ => rfl
  | i + 1, h => by
    show valV (putK (plc ws i) (.inr (ws.getD i "")) (.int (i : Nat))) (.inr w) = none
    rw [valV_put, if_neg fun e => h i (by omega) (Sum.inr.inj e).symm]
    exact plc_none ws w i fun j hj => h j (by omega)
theorem plc_some (ws : List Str) (hn : ws.Nodup) : ∀ i, i ≤ ws.length → ∀ j < i, valV (plc ws i) (.inr (ws.getD j "")) = some (.int (j : Nat))
  | 0, _, j, hj => absurd hj (Nat.not_lt_zero j)
  | i + 1, hi, j, hj => by
    show valV (putK (plc ws i) (.inr (ws.getD i "")) (.int (i : Nat))) (.inr (ws.getD j "")) = some (.int (j : Nat))
    rw [valV_put]
    by_cases e : j = i
    · rw [e, if_pos rfl]
    · rw [if_neg, plc_some ws hn i (by omega) j (by omega)]
      intro q
      have q2 : ws.getD j "" = ws.getD i "" := Sum.inr.inj q
      have hj1 : j < ws.length := by omega
      have hi1 : i < ws.length := by omega
      rw [List.getD_eq_getElem?_getD, List.getD_eq_getElem?_getD, List.getElem?_eq_getElem hj1, List.getElem?_eq_getElem hi1] at q2
      exact List.pairwise_iff_getElem.mp hn j i hj1 hi1 (by omega) q2
/-- where a word stands -/
theorem plc_at {ws : List Str} (hn : ws.Nodup) {w : Str} {j : Nat} (h : ws[j]? = some w) : valV (plc ws ws.length) (.inr w) = some (.int (j : Nat)) := by
  have hj := (List.getElem?_eq_some_iff.mp h).1
  have e : ws.getD j "" = w := by
    rw [List.getD_eq_getElem?_getD, h]
    rfl
  rw [← e]
  exact plc_some ws hn ws.length (Nat.le_refl _) j hj
theorem plc_not {ws : List Str} {w : Str} (h : w ∉ ws) : valV (plc ws ws.length) (.inr w) = none := plc_none ws w ws.length fun j hj e => h (by
  rw [← e, List.getD_eq_getElem?_getD, List.getElem?_eq_getElem hj]
  exact List.getElem_mem hj)
theorem plc_isSome {ws : List Str} (hn : ws.Nodup) (w : Str) : (valV (plc ws ws.length) (.inr w)).isSome = decide (w ∈ ws) := by
  by_cases h : w ∈ ws
  · obtain ⟨j, hj⟩ := List.mem_iff_getElem?.mp h
    rw [plc_at hn hj, decide_eq_true h]
    rfl
  · rw [plc_not h, decide_eq_false h]
    rfl
end Fb

set_option Elab.async false
set_option linter.all false
set_option maxRecDepth 100000
set_option maxHeartbeats 4000000
namespace Fb
open PySem PySem.Spec PyProof.Rows L2
/-- words in the making: a sign of z each behind w -/
def PvSigned (z w : Str) (H : Hp) (D : Addr) (i : Nat) (Hi : Hp) : Prop := Hi D = some (.lst (((z.cps.toList.take i).map (withSign w)).map V.str)) ∧ Same H Hi
theorem PvSigned.step {z w : Str} {H Hi : Hp} {D : Addr} {i c : Nat} (hD : H D = none) (p : PvSigned z w H D i Hi) (hc : z.cps[i]? = some c) : PvSigned z w H D (i + 1) (upd Hi D (.lst (((z.cps.toList.take i).map (withSign w)).map V.str ++ [.str (withSign w c)]))) := by
  refine ⟨?_, fun a o e => (upd_ne (ne_of_none e hD)).trans (p.2 _ _ e)⟩
  have e : z.cps.toList.take (i + 1) = z.cps.toList.take i ++ [c] := by
    rw [List.take_succ]
    have : z.cps.toList[i]? = some c := by simpa using hc
    rw [this]
    rfl
  rw [e, List.map_append, List.map_append]
  exact upd_same
theorem PvSigned.fin {z w : Str} {H Hi : Hp} {D : Addr} (p : PvSigned z w H D z.cps.size Hi) : Hi D = some (.lst ((longer z w).map V.str)) := by
  have e : z.cps.toList.take z.cps.size = z.cps.toList := List.take_of_length_le (by simp)
  have q := p.1
  rwa [e] at q
theorem grow_len {z : Str} : ∀ mine : List Str, (grow mine z).length = mine.length * z.length
  | [] => by simp [grow]
  | w :: r => by
    have ih := grow_len (z := z) r
    unfold grow at ih ⊢
    rw [List.flatMap_cons, List.length_append, ih, List.length_cons, Nat.succ_mul]
    have h : (longer z w).length = z.length := by simp [longer, Str.length]
    omega
theorem grow_snoc {z w : Str} {mine : List Str} {j : Nat} (h : mine[j]? = some w) : grow (mine.take (j + 1)) z = grow (mine.take j) z ++ longer z w := by
  have e : mine.take (j + 1) = mine.take j ++ [w] := by rw [List.take_succ, h]; rfl
  unfold grow
  rw [e, List.flatMap_append]
  simp
theorem grow_take {z : Str} {mine : List Str} {j : Nat} : (grow (mine.take j) z).length ≤ mine.length * z.length := by
  rw [grow_len]
  exact Nat.mul_le_mul_right _ (by rw [List.length_take]; omega)
theorem listed_snoc {zs : List Str} {i : Nat} {z : Str} (h : zs[i]? = some z) : listed (zs.take (i + 1)) = grow (listed (zs.take i)) z := by
  have e : zs.take (i + 1) = zs.take i ++ [z] := by rw [List.take_succ, h]; rfl
  unfold listed
  rw [e, List.foldl_append]
  rfl
theorem listed_words : ∀ (zs mine : List Str) (n : Nat), (∀ w ∈ mine, w.length = n) → ∀ w ∈ zs.foldl grow mine, w.length = n + zs.length
  | [], mine, n, h, w, hw => h w hw
  | z :: r, mine, n, h, w, hw => by
    have ih := listed_words r (grow mine z) (n + 1) (fun v hv => by
      unfold grow at hv
      obtain ⟨u, hu, hv⟩ := List.mem_flatMap.mp hv
      obtain ⟨c, hc, rfl⟩ := List.mem_map.mp hv
      unfold withSign
      rw [strLen_append, h u hu]
      rfl) w hw
    rw [List.length_cons]
    omega
theorem listed_word {zs : List Str} {w : Str} (h : w ∈ listed zs) : w.length = zs.length := by
  have q := listed_words zs [""] 0 (fun v hv => by
    have e : v = "" := by simpa using hv
    rw [e]
    rfl) w h
  omega
end Fb
namespace K1
open PySem PySem.Spec PyProof.Rows L2 Fb
abbrev sListed : Stmt := top 32
section
variable {P : Program} {w : World} {K : PySem.W.Frag} {mg : Str → Option Value} {base : Heap}
abbrev NListed : List Str := ["parts", "mine", "part", "more", "word", "sign"]
theorem scListed : FnScope NListed ["parts"] (defScope sListed) := ⟨rfl, rfl, rfl, by decide +kernel, rfl, by decide +kernel, by decide +kernel⟩
/-- all words stay few and short -/
def Few (ps : List (Str × Str)) : Prop := ps.length ≤ 100 ∧ (∀ p ∈ ps, p.2.length ≤ 1000) ∧ ∀ i ≤ ps.length, (listed ((ps.take i).map (·.2))).length ≤ 10000
def spListed (K : PySem.W.Frag) : Sp := fun vs H Q _ => ∃ (p : Addr) (ps : List (Str × Str)), vs = [.ref p] ∧ PartsAt K H p ps ∧ Few ps ∧ ∀ (l : Addr) (H' : Hp), Same H H' → H l = none → H' l = some (.lst ((listed (ps.map (·.2))).map V.str)) → Q (.ref l) H'
theorem ok_listed {f : Addr} {fd : FuncData} (F : Fun K "_law_listed" "_law_listed" sListed f fd) : FnOk P w K mg base CX0 1 f fd ["parts"] (spListed K) := by
  refine F.ok scListed (fun vs H Q E h => ?_) (fun cdv A outer s H vs Q E hr h => ?_)
  · obtain ⟨p, ps, rfl, _⟩ := h
    rfl
  obtain ⟨p, ps, rfl, ⟨ts, hp, hps⟩, hf, q⟩ := h
  refine ⟨_, pss_cons (ps_set (i := 1) scListed.nd rfl (Or.inl rfl) (pe_lst (pa_cons pe_str pa_nil)))
    (pss_cons (ps_for PassesOwn.never rfl (pi_list (pv 0)) (pg_name (i := 2) scListed.nd rfl (Or.inl rfl))
      (pss_cons (ps_set (i := 3) scListed.nd rfl (Or.inl rfl) (pe_lst pa_nil))
      (pss_cons (ps_for PassesOwn.never rfl (pi_list (pv 1)) (pg_name (i := 4) scListed.nd rfl (Or.inr rfl))
        (pss_one (ps_expr (pe_bm PySem.F.plainAttrs_list PySem.F.slot_list_extend PySem.F.type_list_extend mt_extend (pv 3) (pa_cons (pe_lc (own := [("sign", 5)]) (g := gName 5) (tt := tYes) (te := tOp rAddS (tVar 4) (tVar 5)) rfl scListed.nd (pi_str (pe_ix ix_tup (pv 2) pe_int (fun _ _ => rfl))) (blkOk_by (N := NListed) (sc := defScope sListed) (by decide +kernel))
            (fun _ _ _ _ _ => pg_name (i := 5) scListed.nd rfl (Or.inl rfl)) (fun _ _ _ _ _ => pts_nil) (fun _ _ _ _ _ => pe_op op_add_str (pv 4) (pv 5))) pa_nil)))))
      (pss_one (ps_set (i := 1) scListed.nd rfl (Or.inl rfl) (pv 3))))))
    (pss_one (ps_ret (pv 1)))), ?_⟩
  have hz2 : sizeLine = 16777216 := sizeLine_eq
  have hlen := hps.len
  obtain ⟨hf1, hf2, hf3⟩ := hf
  refine ⟨(by show 1 ≤ sizeLine; decide), fun m0 hm0 => ?_⟩
  refine ⟨_, rfl, p, rfl, ⟨_, (same_new hm0 _).seq hp⟩, for_list (K := K) (a := p) (xs := ts.map V.ref)
    (fun i σ Hi => Same H Hi ∧ ∃ (m : Addr) (v2 v3 v4 : Option V), σ = [some (.ref p), some (.ref m), v2, v3, v4, none] ∧ Hi m = some (.lst ((listed ((ps.map (·.2)).take i)).map V.str)) ∧ H m = none)
    ⟨same_new hm0 _, m0, _, _, _, rfl, by rw [List.take_zero]; exact upd_same, hm0⟩ (fun i σ Hi _ h => h.1.seq hp) ?_ ?_⟩
  · rintro i y _ Hi hi ⟨si, m, v2, v3, v4, rfl, hm, hmn⟩
    obtain ⟨t, ht, rfl⟩ : ∃ t, ts[i]? = some t ∧ V.ref t = y := by
      rw [List.getElem?_map] at hi
      exact Option.map_eq_some_iff.mp hi
    obtain ⟨r, hr, _⟩ := hps.get ht
    have hrz : (ps.map (·.2))[i]? = some r.2 := by rw [List.getElem?_map, hr]; rfl
    have hi2 : i < ps.length := (List.getElem?_eq_some_iff.mp hr).1
    have hm3 := hf3 i (Nat.le_of_lt hi2)
    have hm4 := hf3 (i + 1) hi2
    rw [List.map_take] at hm3 hm4
    have hrl := hf2 r (List.mem_of_getElem? hr)
    generalize hmine : listed ((ps.map (·.2)).take i) = mine at hm hm3
    have hwl : ∀ w ∈ mine, w.length ≤ 100 := fun w hw => by
      rw [← hmine] at hw
      have := listed_word hw
      rw [List.length_take] at this
      omega
    have hnext : listed ((ps.map (·.2)).take (i + 1)) = grow mine r.2 := by rw [listed_snoc hrz, hmine]
    rw [hnext, grow_len] at hm4
    refine ⟨(by show 0 ≤ sizeLine; decide), fun mo hmo => ?_⟩
    have hmom : m ≠ mo := ne_of_none hm hmo
    refine ⟨_, rfl, m, rfl, ⟨_, SqL.of ((upd_ne hmom).trans hm)⟩, for_list (K := K) (a := m) (xs := mine.map V.str)
      (fun j σ Hj => Same H Hj ∧ Hj m = some (.lst (mine.map V.str)) ∧ Hj mo = some (.lst ((grow (mine.take j) r.2).map V.str)) ∧ ∃ v4 : Option V, σ = [some (.ref p), some (.ref m), some (.ref t), some (.ref mo), v4, none])
      ⟨si.trans (same_new hmo _), (upd_ne hmom).trans hm, by rw [List.take_zero]; exact upd_same, _, rfl⟩ (fun j σ Hj _ h => SqL.of h.2.1) ?_ ?_⟩
    · rintro j y _ Hj hj ⟨sj, hjm, hjo, v4, rfl⟩
      obtain ⟨w0, hw0, rfl⟩ : ∃ w0, mine[j]? = some w0 ∧ V.str w0 = y := by
        rw [List.getElem?_map] at hj
        exact Option.map_eq_some_iff.mp hj
      obtain ⟨r2, hr2, hrt⟩ := (hps.same sj).get ht
      obtain rfl : r = r2 := by
        rw [hr] at hr2
        exact Option.some.inj hr2
      have hw1 := hwl w0 (List.mem_of_getElem? hw0)
      refine ⟨_, rfl, .inl ⟨rfl, _, SqL.of hjo⟩, _, rfl, t, _, 1, .str r.2, rfl, rfl, hrt, rfl, r.2, rfl, fun D hD => lc_it walk_str (PvSigned r.2 w0 Hj D) ⟨by rw [List.take_zero]; exact upd_same, same_new hD _⟩ (fun _ _ _ _ => trivial) (fun k y Hk Hl hk pk e => ?_) (fun Hk pk => ?_)⟩
      · obtain ⟨rfl, c, hc, rfl⟩ := e
        refine ⟨rfl, _, rfl, _, rfl, _, _, rfl, rfl, (by show w0.length + 1 ≤ sizeLine; omega), _, pk.1, ?_, pk.step hD hc⟩
        rw [List.length_map, List.length_map, List.length_take]
        have : r.2.cps.toList.length = r.2.length := by simp [Str.length]
        omega
      · have hko := pk.2 _ _ hjo
        have hmoH : H mo = none := si.free hmo
        have hmoD : mo ≠ D := ne_of_none hjo hD
        refine ⟨mo, D, _, _, rfl, rfl, hko, pk.fin, ?_, ?_⟩
        · rw [List.length_map, List.length_map]
          have h1 := grow_take (z := r.2) (mine := mine) (j := j)
          have h2 : (longer r.2 w0).length = r.2.length := by simp [longer, Str.length]
          omega
        · refine ⟨fun a o e => (upd_ne (ne_of_none e hmoH)).trans (pk.2 _ _ (sj _ _ e)), (upd_ne hmom).trans (pk.2 _ _ hjm), ?_, _, rfl⟩
          rw [grow_snoc hw0, List.map_append]
          exact upd_same
    · rintro _ Hj ⟨sj, hjm, hjo, v4, rfl⟩
      have e : mine.take (mine.map V.str).length = mine := List.take_of_length_le (by rw [List.length_map]; exact Nat.le_refl _)
      rw [e] at hjo
      refine ⟨_, rfl, sj, mo, _, _, _, rfl, ?_, si.free hmo⟩
      rw [hnext]
      exact hjo
  · rintro _ Hi ⟨si, m, v2, v3, v4, rfl, hm, hmn⟩
    have e : (ps.map (·.2)).take (ts.map V.ref).length = ps.map (·.2) := List.take_of_length_le (by rw [List.length_map, List.length_map]; omega)
    rw [e] at hm
    exact ⟨_, rfl, q m Hi si hmn hm⟩
end
end K1

set_option Elab.async false
set_option linter.all false
set_option maxRecDepth 100000
set_option maxHeartbeats 4000000
namespace Fb
open PySem PySem.Spec PyProof.Rows L2

abbrev SG : List Nat := signsS.cps.toList
theorem SG_nodup : SG.Nodup := by decide +kernel
theorem SG_len : SG.length = 36 := by decide +kernel
def chV (c : Nat) : V := .str ⟨#[c]⟩
/-- drawn signs, none twice -/
def GoodSigns (z : Str) (n : Nat) : Prop := z.length = n ∧ (TL.tl z).Nodup ∧ ∀ c ∈ TL.tl z, c ∈ SG
/-- good parts of these sizes -/
def GoodParts : List (Str × Str) → List Nat → Prop
  | [], [] => True
  | p :: ps, n :: ns => isName p.1 = true ∧ GoodSigns p.2 n ∧ GoodParts ps ns
  | _, _ => False
theorem GoodParts.snoc {p : Str × Str} {n : Nat} (h1 : isName p.1 = true) (h2 : GoodSigns p.2 n) : ∀ {ps : List (Str × Str)} {ns : List Nat}, GoodParts ps ns → GoodParts (ps ++ [p]) (ns ++ [n])
  | [], [], _ => ⟨h1, h2, trivial⟩
  | _ :: _, _ :: _, h => ⟨h.1, h.2.1, GoodParts.snoc h1 h2 h.2.2⟩
theorem sdel {G H : Hp} {b : Addr} (s : Same G H) : Same (L2.del G b) (L2.del H b) := fun a o e => by
  by_cases h : a = b
  · rw [h, L2.del_same] at e
    cases e
  · rw [L2.del_ne h] at e ⊢
    exact s a o e
theorem cut_nat {xs : List V} {k : Nat} : cutV xs none (some (k : Int)) = xs.take k := by
  show ((xs.drop 0).take (HT.sIx xs.length xs.length (some (k : Int)) - 0)) = _
  rw [List.drop_zero, Nat.sub_zero, HT.sIx_nat]
  by_cases h : k ≤ xs.length
  · rw [Nat.min_eq_left h]
  · rw [Nat.min_eq_right (by omega), List.take_of_length_le (Nat.le_refl _), List.take_of_length_le (by omega)]
theorem joinL_ones : ∀ cs : List Nat, TL.joinL [] (cs.map fun c => [c]) = cs
  | [] => rfl
  | [c] => rfl
  | c :: d :: r => by
    show [c] ++ ([] ++ TL.joinL [] ((d :: r).map fun c => [c])) = _
    rw [joinL_ones (d :: r)]
    rfl
theorem join_ones {cs : List Nat} : TL.tl (Txt.join (Str.ofString "") (cs.map fun c => (⟨#[c]⟩ : Str))) = cs := by
  rw [TL.join_eq, TL.tl_join, List.map_map]
  have e : (TL.tl ∘ fun c => (⟨#[c]⟩ : Str)) = fun c => [c] := by
    funext c
    rfl
  rw [e]
  exact joinL_ones cs
theorem erase_perm {α : Type} : ∀ {ps : List α} {r : Nat} {c : α}, ps[r]? = some c → (c :: ps.eraseIdx r).Perm ps
  | p :: ps, 0, c, h => by
    obtain rfl : p = c := by simpa using h
    exact List.Perm.refl _
  | p :: ps, r + 1, c, h => by
    have ih := erase_perm (ps := ps) (r := r) (c := c) (by simpa using h)
    rw [List.eraseIdx_cons_succ]
    exact (List.Perm.swap p c _).trans (ih.cons p)
theorem erase_map {α β : Type} {f : α → β} : ∀ (ps : List α) (r : Nat), (ps.map f).eraseIdx r = (ps.eraseIdx r).map f
  | [], _ => by simp
  | p :: ps, 0 => rfl
  | p :: ps, r + 1 => by
    rw [List.map_cons, List.eraseIdx_cons_succ, List.eraseIdx_cons_succ, List.map_cons, erase_map ps r]
theorem pop_perm {cs ps : List Nat} {r c : Nat} (h : ps[r]? = some c) : ((cs ++ [c]) ++ ps.eraseIdx r).Perm (cs ++ ps) := by
  rw [List.append_assoc]
  exact List.Perm.append_left cs (erase_perm h)
/-- popping: what is popped and what is left -/
def PvPop (b l po D : Addr) (H : Hp) (m i : Nat) (Hi : Hp) : Prop := ∃ cs ps : List Nat, Hi D = some (.lst (cs.map chV)) ∧ Hi po = some (.lst (ps.map chV)) ∧ cs.length = i ∧ ps.length + i = m ∧ (cs ++ ps).Nodup ∧ (∀ c ∈ cs ++ ps, c ∈ SG) ∧ BagAt l Hi b ∧ But b (L2.del H po) (L2.del Hi po)
theorem PvPop.step {b l po D : Addr} {H Hi Hj : Hp} {m i r c : Nat} {cs ps : List Nat} (B0 : BagAt l H b) (hpo : po ≠ b ∧ po ≠ l) (hD : H D = none) (hDpo : D ≠ po) (p1 : Hi D = some (.lst (cs.map chV))) (p2 : Hi po = some (.lst (ps.map chV))) (p3 : cs.length = i) (p4 : ps.length + i = m) (p5 : (cs ++ ps).Nodup) (p6 : ∀ c ∈ cs ++ ps, c ∈ SG)
    (p8 : But b (L2.del H po) (L2.del Hi po)) (hc : ps[r]? = some c) (Bj : BagAt l Hj b) (bj : But b Hi Hj) (hm : m ≤ 1000) : ∃ acc, upd Hj po (.lst ((ps.map chV).eraseIdx r)) D = some (.lst acc) ∧ acc.length < sizeLine ∧ PvPop b l po D H m (i + 1) (upd (upd Hj po (.lst ((ps.map chV).eraseIdx r))) D (.lst (acc ++ [chV c]))) := by
  have hDb : D ≠ b := B0.ne hD
  have hDl : D ≠ l := B0.cell hD
  have hr : r < ps.length := (List.getElem?_eq_some_iff.mp hc).1
  have pm := pop_perm (cs := cs) hc
  refine ⟨cs.map chV, (upd_ne hDpo).trans (bj.at hDb p1), ?_, cs ++ [c], ps.eraseIdx r, ?_, ?_, by rw [List.length_append, p3]; rfl, ?_, pm.nodup_iff.mpr p5, fun x hx => p6 x (pm.mem_iff.mp hx), (Bj.skip hpo.1 hpo.2 _).skip hDb hDl _, fun a o e => ?_⟩
  · rw [List.length_map]
    have : sizeLine = 16777216 := sizeLine_eq
    omega
  · rw [List.map_append]
    exact upd_same
  · rw [upd_ne hDpo.symm, upd_same, erase_map]
  · rw [List.length_eraseIdx_of_lt hr]
    omega
  · by_cases ha : a = b
    · rw [ha, L2.del_same] at e
      cases e
    · have e2 := p8 a o e
      rw [L2.del_ne ha] at e e2 ⊢
      by_cases hp : a = po
      · rw [hp, L2.del_same] at e
        cases e
      · rw [L2.del_ne hp] at e e2 ⊢
        rw [upd_ne (ne_of_none e hD), upd_ne hp]
        exact bj.at ha e2
end Fb
namespace K1
open PySem PySem.Spec PyProof.Rows L2 Fb
abbrev sParts : Stmt := top 30
def PvParts (K : PySem.W.Frag) (b l : Addr) (H : Hp) (ns : List Nat) (i : Nat) (pl : Addr) (Hi : Hp) : Prop := BagAt l Hi b ∧ But b H Hi ∧ H pl = none ∧ ∃ (ts : List Addr) (ps : List (Str × Str)), Hi pl = some (.lst (ts.map V.ref)) ∧ PairsAt K (L2.del (Fb.fresh H Hi) pl) ts ps ∧ GoodParts ps (ns.take i) ∧ (ps.map (·.1)).Nodup ∧ ps.length = i
section
variable {P : Program} {w : World} {K : PySem.W.Frag} {mg : Str → Option Value} {base : Heap}
abbrev NParts : List Str := ["bag", "sizes", "parts", "size", "pool", "signs", "k", "part"]
theorem scParts : FnScope NParts ["bag", "sizes"] (defScope sParts) := ⟨rfl, rfl, rfl, by decide +kernel, rfl, by decide +kernel, by decide +kernel⟩
def spParts (K : PySem.W.Frag) : Sp := fun vs H Q _ => ∃ (b l a : Addr) (ns : List Nat), vs = [.ref b, .ref a] ∧ BagAt l H b ∧ SqT K (L2.del H b) a (ns.map fun n : Nat => V.int (n : Int)) ∧ ns.length ≤ 20 ∧ (∀ n ∈ ns, 1 ≤ n ∧ n ≤ 36) ∧
  ∀ (p : Addr) (ts : List Addr) (ps : List (Str × Str)) (H' : Hp), H p = none → H' p = some (.lst (ts.map V.ref)) → PairsAt K (Fb.fresh H H') ts ps → GoodParts ps ns → (ps.map (·.1)).Nodup → BagAt l H' b → But b H H' → Q (.ref p) H'
theorem ok_parts {f : Addr} {fd : FuncData} (F : Fun K "_law_parts" "_law_parts" sParts f fd) (D : RD P w K mg base 1 "_law_draw" ["bag", "size"] spDraw) (O : RD P w K mg base 2 "_law_of" ["bag", "things"] (spOf K)) (R : RD P w K mg base 4 "_law_fresh" ["bag", "taken"] (spFresh K))
    (mr : mg "range" = none) (ml : mg "list" = none) (mm : mg "max" = none) (mn : mg "len" = none) : FnOk P w K mg base CX0 5 f fd ["bag", "sizes"] (spParts K) := by
  refine F.ok scParts (fun vs H Q E h => ?_) (fun cdv A outer s H vs Q E hr h => ?_)
  · obtain ⟨b, l, a, ns, rfl, _⟩ := h
    rfl
  obtain ⟨b, l, a, ns, rfl, B, ha, hn, hns, q⟩ := h
  have hr1 := hr.mono (by decide : 1 ≤ 4)
  have hr2 := hr.mono (by decide : 2 ≤ 4)
  refine ⟨_, pss_cons (ps_set (i := 2) scParts.nd rfl (Or.inl rfl) (pe_lst pa_nil))
    (pss_cons (ps_for PassesOwn.never rfl (pi_tup (pv 1)) (pg_name (i := 3) scParts.nd rfl (Or.inl rfl))
      (pss_cons (ps_set (i := 4) scParts.nd rfl (Or.inr rfl) (pe_slice sl_list (pe_callTy (call_listS rfl) rfl ml (by decide +kernel) (pa_cons pe_str pa_nil)) po_none (po_some (pe_callB (call_max2 rfl) rfl mm (by decide +kernel) (pa_cons (pv 3) (pa_cons (pe_rd O hr2 rfl pass0 (pa_cons (pv 0) (pa_cons (pe_lst (pa_cons pe_int (pa_cons pe_int (pa_cons pe_int pa_nil)))) pa_nil))) pa_nil))))))
      (pss_cons (ps_set (i := 5) scParts.nd rfl (Or.inl rfl) (pe_join pe_str (pe_lc (own := [("k", 6)]) (g := gName 6) (tt := tYes) (te := tBM K "list" rPopAt (tVar 4) (tCons (tCall spDraw [] E0 (tCons (tVar 0) (tCons (tCB (fun xs H Q => ∃ p ys, xs = [V.ref p] ∧ (SqL K H p ys ∨ SqT K H p ys) ∧ Q (V.int ys.length) H) (tCons (tVar 4) tNil)) tNil))) tNil)) rfl scParts.nd (pi_range1 rfl mr (pa_cons (pv 3) pa_nil)) (blkOk_by (N := NParts) (sc := defScope sParts) (by decide +kernel))
            (fun _ _ _ _ _ => pg_name (i := 6) scParts.nd rfl (Or.inl rfl)) (fun _ _ _ _ _ => pts_nil) (fun _ _ _ _ _ => pe_bm PySem.F.plainAttrs_list PySem.F.slot_list_pop PySem.F.type_list_pop mt_popAt (pv 4) (pa_cons (pe_rd D hr1 rfl pass0 (pa_cons (pv 0) (pa_cons (pe_callB call_len_seq rfl mn PySem.boot_len (pa_cons (pv 4) pa_nil)) pa_nil))) pa_nil)))))
      (pss_one (ps_expr (pe_bm PySem.F.plainAttrs_list PySem.F.slot_list_append PySem.F.type_list_append mt_append (pv 2) (pa_cons (pe_tup (pa_cons (pe_rd R hr rfl pass0 (pa_cons (pv 0) (pa_cons (pe_lc (own := [("part", 7)]) (g := gName 7) (tt := tYes) (te := tOp (rIxT K) (tVar 7) (tC (.int 0))) rfl scParts.nd (pi_list (pv 2)) (blkOk_by (N := NParts) (sc := defScope sParts) (by decide +kernel))
            (fun _ _ _ _ _ => pg_name (i := 7) scParts.nd rfl (Or.inl rfl)) (fun _ _ _ _ _ => pts_nil) (fun _ _ _ _ _ => pe_ix ix_tup (pv 7) pe_int (fun _ _ => rfl))) pa_nil))) (pa_cons (pv 5) pa_nil))) pa_nil)))))))
    (pss_one (ps_ret (pv 2)))), ?_⟩
  have hz2 : sizeLine = 16777216 := sizeLine_eq
  refine ⟨(by show 0 ≤ sizeLine; decide), fun p0 hp0 => ?_⟩
  refine ⟨_, rfl, a, rfl, ⟨_, Same.seqT (but_in2 (But.of (same_new hp0 _))) ha⟩, for_tup (K := K) (a := a) (xs := ns.map fun n : Nat => V.int (n : Int))
    (fun i σ Hi => ∃ (pl : Addr) (v3 v4 v5 : Option V), σ = [some (.ref b), some (.ref a), some (.ref pl), v3, v4, v5, none, none] ∧ PvParts K b l H ns i pl Hi) ⟨p0, _, _, _, rfl, B.new hp0 _, But.of (same_new hp0 _), hp0, [], [], upd_same, trivial, by rw [List.take_zero]; trivial, List.nodup_nil, rfl⟩
    (fun i σ Hi _ h => by obtain ⟨pl, _, _, _, _, h⟩ := h; exact Same.seqT (but_in2 h.2.1) ha) ?_ ?_⟩
  · rintro i y _ Hi hi ⟨pl, v3, v4, v5, rfl, Bi, bi, hpl, ts, ps, hts, hps, hgood, hnd, hpl2⟩
    obtain ⟨n, hni, rfl⟩ : ∃ n : Nat, ns[i]? = some n ∧ V.int (n : Int) = y := by
      rw [List.getElem?_map] at hi
      exact Option.map_eq_some_iff.mp hi
    have hi2 : i < ns.length := (List.getElem?_eq_some_iff.mp hni).1
    have hn1 := hns n (List.mem_of_getElem? hni)
    refine ⟨signsS, rfl, (by decide +kernel), fun p1 hp1 => ?_⟩
    refine ⟨_, rfl, _, rfl, (by show 3 ≤ sizeLine; decide), fun p2 hp2 => ?_⟩
    have s2 : Same Hi (upd (upd Hi p1 (.lst (signV signsS))) p2 (.lst [.int 3, .int 12, .int 36])) := (same_new hp1 _).trans (same_new hp2 _)
    have B2 : BagAt l (upd (upd Hi p1 (.lst (signV signsS))) p2 (.lst [.int 3, .int 12, .int 36])) b := Bi.same s2
    refine ⟨b, l, .ref p2, 3, (fun y => ∃ m : Nat, y = .int (m : Int) ∧ m ≤ 36), rfl, B2, by decide, by decide, .inl ⟨p2, _, rfl, ((Bi.new hp1 _).ne hp2), .inl (SqL.of upd_same), rfl, ?_⟩, fun y H3 hy B3 b3 => ?_⟩
    · intro y hy
      simp at hy
      rcases hy with rfl | rfl | rfl
      · exact ⟨3, rfl, by decide⟩
      · exact ⟨12, rfl, by decide⟩
      · exact ⟨36, rfl, by decide⟩
    obtain ⟨m, rfl, hm⟩ := hy
    have hp1b : p1 ≠ b := Bi.ne hp1
    have hp13 : H3 p1 = some (.lst (signV signsS)) := b3.at hp1b ((same_new hp2 _) _ _ upd_same)
    have hmx : (if (m : Int) > (n : Int) then (m : Int) else (n : Int)) = ((max n m : Nat) : Int) := by
      by_cases h : (m : Int) > (n : Int)
      · rw [if_pos h]
        omega
      · rw [if_neg h]
        omega
    refine ⟨_, _, rfl, ?_⟩
    rw [hmx]
    refine ⟨_, rfl, p1, _, rfl, SqL.of hp13, fun po hpo => ?_⟩
    rw [cut_nat]
    have hpool : (signV signsS).take (max n m) = (SG.take (max n m)).map chV := (List.map_take ..).symm
    rw [hpool]
    have hk1 : n ≤ max n m := Nat.le_max_left _ _
    have hk2 : max n m ≤ 36 := by omega
    generalize max n m = kk at hk1 hk2
    have hpl3 : H3 pl = some (.lst (ts.map V.ref)) := b3.at (B.ne hpl) (s2 _ _ hts)
    have hplpo : pl ≠ po := ne_of_none hpl3 hpo
    have b4 : ∀ (a : Addr) (o : HO), Hi a = some o → a ≠ b → L2.del (upd H3 po (.lst ((SG.take kk).map chV))) po a = some o := fun a o e hb => by
      have e3 := b3.at hb (s2 _ _ e)
      have hapo : a ≠ po := ne_of_none e3 hpo
      rw [L2.del_ne hapo, upd_ne hapo]
      exact e3
    have B4 : BagAt l (upd H3 po (.lst ((SG.take kk).map chV))) b := B3.new hpo _
    have po4 : upd H3 po (.lst ((SG.take kk).map chV)) po = some (.lst ((SG.take kk).map chV)) := upd_same
    have hpob : po ≠ b ∧ po ≠ l := ⟨B3.ne hpo, B3.cell hpo⟩
    generalize upd H3 po (.lst ((SG.take kk).map chV)) = H4 at b4 B4 po4
    have hlen4 : (SG.take kk).length = kk := by
      rw [List.length_take]
      have := SG_len
      omega
    refine ⟨⟨_, rfl⟩, _, rfl, n, rfl, by omega, by omega, fun D hD => lc_range (lo := 0) (n := n) (PvPop b l po D H4 kk)
      ⟨[], SG.take kk, upd_same, (upd_ne (ne_of_none po4 hD)).trans po4, rfl, hlen4, by rw [List.nil_append]; exact SG_nodup.sublist (List.take_sublist ..), fun c hc => by rw [List.nil_append] at hc; exact List.mem_of_mem_take hc, B4.new hD _, sdel (sdel (same_new hD _))⟩ ?_ ?_⟩
    · rintro j Hj hj ⟨cs, qs, g1, g2, g3, g4, g5, g6, Bj, bj⟩
      refine ⟨rfl, _, rfl, .inl ⟨rfl, _, SqL.of g2⟩, _, rfl, _, rfl, po, _, rfl, .inl (SqL.of g2), b, l, _, rfl, Bj, ?_, ?_, fun r Hk r0 r1 Bk bk => ?_⟩
      · rw [List.length_map]
        omega
      · rw [List.length_map]
        omega
      · rw [List.length_map] at r1
        have hr : r.toNat < qs.length := by omega
        obtain ⟨c, hc⟩ : ∃ c, qs[r.toNat]? = some c := ⟨_, List.getElem?_eq_getElem hr⟩
        refine ⟨po, _, r, r.toNat, chV c, rfl, rfl, bk.at hpob.1 g2, by omega, by omega, ?_, ?_, PvPop.step B4 hpob hD (ne_of_none po4 hD).symm g1 g2 g3 g4 g5 g6 bj hc Bk bk (by omega)⟩
        · rw [List.length_map]
          exact seqIndex_of r0 (by omega)
        · rw [List.getElem?_map, hc]
          rfl
    · rintro Hf ⟨cs, qs, g1, g2, g3, g4, g5, g6, Bf, bf⟩
      have bHf : But b Hi Hf := fun a o e => by
        by_cases hb : a = b
        · rw [hb, L2.del_same] at e
          cases e
        · rw [L2.del_ne hb] at e ⊢
          have e4 := bf a o ((L2.del_ne hb).trans (b4 a o e hb))
          rw [L2.del_ne hb] at e4
          by_cases hp : a = po
          · rw [hp, L2.del_same] at e4
            cases e4
          · rwa [L2.del_ne hp] at e4
      have bF : But b H Hf := bi.trans bHf
      have hplb : pl ≠ b := B.ne hpl
      have hpll : pl ≠ l := B.cell hpl
      have hplf : Hf pl = some (.lst (ts.map V.ref)) := bHf.at hplb hts
      have hpsf : PairsAt K (L2.del (Fb.fresh H Hf) pl) ts ps := hps.same (fresh_step B.some bHf)
      have hpsF : PairsAt K Hf ts ps := hpsf.same (del_sub.trans fresh_sub)
      have hlenp := hpsF.len
      have hon : cs.map chV = (cs.map fun c => (⟨#[c]⟩ : Str)).map V.str := by
        rw [List.map_map]
        rfl
      rw [hon] at g1
      have hjl := join_ones (cs := cs)
      have hjl2 : (Txt.join (Str.ofString "") (cs.map fun c => (⟨#[c]⟩ : Str))).length = n := by
        have e : (TL.tl (Txt.join (Str.ofString "") (cs.map fun c => (⟨#[c]⟩ : Str)))).length = (Txt.join (Str.ofString "") (cs.map fun c => (⟨#[c]⟩ : Str))).length := by simp [Str.length]
        rw [hjl] at e
        omega
      have hgs : GoodSigns (Txt.join (Str.ofString "") (cs.map fun c => (⟨#[c]⟩ : Str))) n := by
        refine ⟨hjl2, ?_, ?_⟩
        · rw [hjl]
          exact g5.sublist (List.sublist_append_left ..)
        · rw [hjl]
          exact fun c hc => g6 c (List.mem_append_left _ hc)
      refine ⟨_, D, cs.map fun c => (⟨#[c]⟩ : Str), rfl, rfl, .inl (SqL.of g1), ?_, ?_⟩
      · have e := sum_ones (cs.map fun c => (⟨#[c]⟩ : Str)) fun y hy => by
          obtain ⟨c, _, rfl⟩ := List.mem_map.mp hy
          rfl
        rw [e, List.length_map]
        show cs.length + cs.length * 0 ≤ _
        omega
      generalize Txt.join (Str.ofString "") (cs.map fun c => (⟨#[c]⟩ : Str)) = zs at hgs
      refine ⟨_, rfl, .inl ⟨rfl, _, SqL.of hplf⟩, _, rfl, _, rfl, pl, rfl, ⟨_, SqL.of hplf⟩, fun D2 hD2 => lc_list (xs := ts.map V.ref) (PvTexts (·.1) ps Hf D2) ⟨by rw [List.take_zero]; exact upd_same, same_new hD2 _⟩ (fun j Hj _ pv => SqL.of (pv.2 _ _ hplf)) ?_ ?_⟩
      · intro j y Hj hj pv
        obtain ⟨t, ht, rfl⟩ : ∃ t, ts[j]? = some t ∧ V.ref t = y := by
          rw [List.getElem?_map] at hj
          exact Option.map_eq_some_iff.mp hj
        obtain ⟨r, hr, hrt⟩ := (hpsF.same pv.2).get ht
        refine ⟨rfl, _, rfl, t, _, 0, .str r.1, rfl, rfl, hrt, rfl, _, pv.1, ?_, pv.step hD2 hr⟩
        rw [List.length_map, List.length_map, List.length_take]
        omega
      · rintro Hg ⟨q1, sg⟩
        rw [List.length_map, hlenp, List.take_of_length_le (Nat.le_refl _)] at q1
        have hD2b : D2 ≠ b := Bf.ne hD2
        refine ⟨b, l, D2, ps.map (·.1), rfl, Bf.same sg, SqL.of ((L2.del_ne hD2b).trans q1), ?_, fun z2 H7 hz2' hnot B7 b7 => ?_⟩
        · rw [List.length_map]
          omega
        · refine ⟨_, rfl, (by show 2 ≤ sizeLine; decide), fun t ht => ?_⟩
          have hpl7 : H7 pl = some (.lst (ts.map V.ref)) := b7.at hplb (sg _ _ hplf)
          have htpl : pl ≠ t := ne_of_none hpl7 ht
          have b8 : But b H H7 := (bF.trans (But.of sg)).trans b7
          refine ⟨pl, _, _, rfl, rfl, (upd_ne htpl).trans hpl7, ?_, pl, _, _, _, rfl, (B7.new ht _).skip hplb hpll _, but_new (b8.trans (But.of (same_new ht _))) hpl, hpl, ts ++ [t], ps ++ [(z2, zs)], ?_, ?_, ?_, ?_, ?_⟩
          · rw [List.length_map]
            omega
          · rw [List.map_append]
            exact upd_same
          · rw [fresh_del_upd]
            have h7 := hpsf.same (fresh_step (D := pl) B.some ((But.of sg).trans b7))
            refine PairsAt.snoc (p := (z2, zs)) ?_ (h7.same (sdel (fresh_new ht)))
            exact SqT.of ((L2.del_ne htpl.symm).trans (fresh_of (but_free b8 B7 ht) upd_same))
          · have e : ns.take (i + 1) = ns.take i ++ [n] := by rw [List.take_succ, hni]; rfl
            rw [e]
            exact GoodParts.snoc hz2' hgs hgood
          · rw [List.map_append, List.nodup_append]
            refine ⟨hnd, by simp, fun x hx y hy e => ?_⟩
            have hy2 : y = z2 := by simpa using hy
            rw [e, hy2] at hx
            exact hnot hx
          · rw [List.length_append, hpl2]
            rfl
  · rintro _ Hi ⟨pl, v3, v4, v5, rfl, Bi, bi, hpl, ts, ps, hts, hps, hgood, hnd, hpl2⟩
    rw [List.length_map, List.take_of_length_le (Nat.le_refl _)] at hgood
    exact ⟨_, rfl, q pl ts ps Hi hpl hts (hps.same del_sub) hgood hnd Bi bi⟩
end
end K1

set_option Elab.async false
set_option linter.all false
set_option maxRecDepth 100000
set_option maxHeartbeats 4000000
namespace Fb
open PySem PySem.Spec PyProof.Rows L2
/-- the tuple at p of such pairs -/
def PartsT (K : PySem.W.Frag) (H : Hp) (p : Addr) (ps : List (Str × Str)) : Prop := ∃ ts : List Addr, SqT K H p (ts.map V.ref) ∧ PairsAt K H ts ps
theorem PartsT.same {K : PySem.W.Frag} {H H' : Hp} {p : Addr} {ps : List (Str × Str)} (h : PartsT K H p ps) (s : Same H H') : PartsT K H' p ps := by
  obtain ⟨ts, h1, h2⟩ := h
  exact ⟨ts, Same.seqT s h1, h2.same s⟩
theorem fm_str {K : PySem.W.Frag} {H : Hp} {z : Str} (h1 : z.length ≤ 50) (h2 : (reprText z).length ≤ 50) : Fm K H (.str z) := ⟨.str z, 10, 50, 2, .str z, .str z h1 h2, by decide, by decide +kernel, by decide⟩
theorem fm_int {K : PySem.W.Frag} {H : Hp} {i : Int} (h1 : -(10 : Int) ^ 9 < i) (h2 : i < 10 ^ 9) : Fm K H (.int i) := by
  have zl := int_small (k := 9) (by decide) h1 h2
  refine ⟨.int i, 10, 50, 2, .int i, .int i ?_ (Nat.le_trans zl (by decide)), by decide, by decide +kernel, by decide⟩
  have hz : i.natAbs < 2 ^ 30 := by omega
  rcases Nat.eq_zero_or_pos i.natAbs with e | e
  · rw [e]
    decide
  · exact Nat.lt_trans ((Nat.log2_lt (by omega)).mpr hz) (by decide)
end Fb
namespace K1
open PySem PySem.Spec PyProof.Rows L2 Fb
abbrev sMany : Stmt := top 18
section
variable {P : Program} {w : World} {K : PySem.W.Frag} {mg : Str → Option Value} {base : Heap}
abbrev NMany : List Str := ["parts", "many", "_", "signs"]
theorem scMany : FnScope NMany ["parts"] (defScope sMany) := ⟨rfl, rfl, rfl, by decide +kernel, rfl, by decide +kernel, by decide +kernel⟩
/-- the numbers of letters stay moderate -/
def Mod (ps : List (Str × Str)) : Prop := ps.length ≤ 100 ∧ (∀ p ∈ ps, p.2.length ≤ 1000) ∧ ∀ i ≤ ps.length, many (ps.take i) ≤ 1000000
def spMany (K : PySem.W.Frag) (C : Addr) : Sp := fun vs H Q E => ∃ (p : Addr) (ps : List (Str × Str)), vs = [.ref p] ∧ PartsT K H p ps ∧ Mod ps ∧ (many ps ≤ 16 → ∀ H', Same H H' → Q .non H') ∧
  (16 < many ps → ∀ (d : Addr) (H' : Hp), Same H H' → H d = none → H' d = some (.xd (flds "TooMany" ["what", "found"] [.str "letters", .int (many ps)])) → E (.ref C) (some d) H')
theorem ok_many {f : Addr} {fd : FuncData} {C : Addr} {t1 : Tok} (F : Fun K "_check_many" "_check_many" sMany f fd) (T : Fb.Cl P w K mg base "TooMany" ["what", "found"] C) (ml : mg "len" = none) (g1 : mg "MOST_LETTERS" = some (.int 16 t1)) : FnOk P w K mg base (L2.CX P w) 3 f fd ["parts"] (spMany K C) := by
  refine F.okX scMany (fun vs H Q E h => ?_) (fun cdv A outer s H vs Q E hr h => ?_)
  · obtain ⟨p, ps, rfl, _⟩ := h
    rfl
  obtain ⟨p, ps, rfl, ⟨ts, hp, hps⟩, ⟨hm1, hm2, hm3⟩, q1, q2⟩ := h
  refine ⟨_, pss_cons (ps_set (i := 1) scMany.nd rfl (Or.inl rfl) pe_int)
    (pss_cons (ps_for (passes_of rfl) rfl (pi_tup (pv 0)) (pg_tup rfl (pgs_cons (pg_name (i := 2) scMany.nd rfl (Or.inl rfl)) (pgs_cons (pg_name (i := 3) scMany.nd rfl (Or.inl rfl)) pgs_nil)))
      (pss_one (ps_set (i := 1) scMany.nd rfl (Or.inl rfl) (pe_op op_mul (pv 1) (pe_callB call_len_str rfl ml PySem.boot_len (pa_cons (pv 3) pa_nil))))))
    (pss_one (ps_if (pt_cmpR op_gt (pv 1) (pe_glob (v := .int 16) rfl g1 ⟨_, rfl⟩) (nomark _)) (pss_one (ps_raise rfl (takes_of rfl rfl rfl rfl) (pmk_cl2 T hr rfl pass0 (pa_cons pe_str (pa_cons (pv 1) pa_nil))))) pss_nil))), ?_⟩
  have hz2 : sizeLine = 16777216 := sizeLine_eq
  have hlen := hps.len
  refine ⟨_, rfl, p, rfl, ⟨_, hp⟩, for_tup (K := K) (a := p) (xs := ts.map V.ref) (fun i σ Hi => Hi = H ∧ ∃ v2 v3 : Option V, σ = [some (.ref p), some (.int (many (ps.take i))), v2, v3]) ⟨rfl, _, _, by rw [List.take_zero]; rfl⟩ (fun i σ Hi _ h => by rw [h.1]; exact hp) ?_ ?_⟩
  · rintro i y _ _ hi ⟨rfl, v2, v3, rfl⟩
    obtain ⟨t, ht, rfl⟩ : ∃ t, ts[i]? = some t ∧ V.ref t = y := by
      rw [List.getElem?_map] at hi
      exact Option.map_eq_some_iff.mp hi
    obtain ⟨r, hr2, hrt⟩ := hps.get ht
    have hi2 : i < ps.length := (List.getElem?_eq_some_iff.mp hr2).1
    have h3 := hm3 i (Nat.le_of_lt hi2)
    have hrl := hm2 r (List.mem_of_getElem? hr2)
    refine ⟨t, _, rfl, hrt, rfl, .str r.1, _, rfl, .str r.2, _, rfl, rfl, _, rfl, _, rfl, r.2, rfl, by omega, _, _, rfl, rfl, .inl ⟨by omega, by omega⟩, rfl, some (.str r.1), some (.str r.2), ?_⟩
    rw [many_snoc hr2, Int.natCast_mul]
    rfl
  · rintro _ _ ⟨rfl, v2, v3, rfl⟩
    have e : ps.take (ts.map V.ref).length = ps := List.take_of_length_le (by rw [List.length_map]; omega)
    have hmx := hm3 ps.length (Nat.le_refl _)
    rw [List.take_of_length_le (Nat.le_refl _)] at hmx
    rw [e]
    refine ⟨_, rfl, _, _, rfl, rfl, _, rfl, ?_⟩
    refine ite2 (fun c => ?_) (fun c => ?_)
    · have hc : 16 < many ps := by
        have c2 : (16 : Int) < (many ps : Int) := of_decide_eq_true c
        omega
      refine ⟨_, rfl, rfl, rai_sp ⟨rfl, fun y hy => ?_, fun d H' s' hd hx => q2 hc d H' s' hd hx⟩⟩
      have hy2 : y = .str "letters" ∨ y = .int (many ps) := by simpa using hy
      rcases hy2 with rfl | rfl
      · exact fm_str (by decide +kernel) (by decide +kernel)
      · exact fm_int (by omega) (by omega)
    · refine q1 ?_ _ (Same.refl _)
      have c2 : ¬ (16 : Int) < (many ps : Int) := fun h => c (decide_eq_true h)
      omega
end
end K1

set_option Elab.async false
set_option linter.all false
set_option maxRecDepth 100000
set_option maxHeartbeats 4000000
namespace Fb
open PySem PySem.Spec PyProof.Rows L2
/-- the inner walk of a comprehension with two for -/
theorem in_it {J : It} {n : Nat} {G : Hp → Prop} {Y : Nat → Hp → V → Hp → Prop} (w : Walk J n G Y) {H1 : Hp} {Nx : Hp → Prop} {B : V → Hp → (Hp → Prop) → Prop} (Pv : Nat → Hp → Prop) (h0 : Pv 0 H1) (hG : ∀ i H, i ≤ n → Pv i H → G H)
    (hs : ∀ i x H H', i < n → Pv i H → Y i H x H' → B x H' (Pv (i + 1))) (hd : ∀ H, Pv n H → Nx H) :
    ∃ W : Nat → Nat → Hp → Prop, (∃ m, W 0 m H1) ∧ ∀ i m H, W i m H → (J.stop i H ∧ Nx H) ∨ (J.go i H ∧ ∃ Nx1 : Hp → Prop, (∀ H', Nx1 H' → ∃ m', m' < m ∧ W (i + 1) m' H') ∧ ∀ x H', J.yld i H x H' → B x H' Nx1) := by
  refine ⟨fun i m H => m = n - i ∧ i ≤ n ∧ Pv i H, ⟨n, by simp, Nat.zero_le _, h0⟩, ?_⟩
  rintro i m H ⟨rfl, hi, p⟩
  have q := hG i H hi p
  by_cases hlt : i < n
  · exact .inr ⟨w.goes i H hlt q, Pv (i + 1), fun H' p' => ⟨n - (i + 1), by omega, rfl, hlt, p'⟩, fun x H' y => hs i x H H' hlt p (w.yields i H x H' hlt q y)⟩
  · have e : i = n := by omega
    subst e
    exact .inl ⟨w.stops H q, hd H p⟩
end Fb
namespace K1
open PySem PySem.Spec PyProof.Rows L2 Fb
abbrev sLettersOf : Stmt := top 19
section
variable {P : Program} {w : World} {K : PySem.W.Frag} {mg : Str → Option Value} {base : Heap}
abbrev NLO : List Str := ["signs_in_order", "found", "signs", "letter", "sign"]
theorem scLettersOf : FnScope NLO ["signs_in_order"] (defScope sLettersOf) := ⟨rfl, rfl, rfl, by decide +kernel, rfl, by decide +kernel, by decide +kernel⟩
def spLettersOf (K : PySem.W.Frag) : Sp := fun vs H Q _ => ∃ (p : Addr) (zs : List Str), vs = [.ref p] ∧ SqT K H p (zs.map V.str) ∧ zs.length ≤ 100 ∧ (∀ z ∈ zs, z.length ≤ 1000) ∧ (∀ i ≤ zs.length, (listed (zs.take i)).length ≤ 10000) ∧
  ∀ (l : Addr) (H' : Hp), Same H H' → H l = none → H' l = some (.lst ((listed zs).map V.str)) → Q (.ref l) H'
theorem ok_letters_of {f : Addr} {fd : FuncData} (F : Fun K "_letters_of" "_letters_of" sLettersOf f fd) : FnOk P w K mg base CX0 1 f fd ["signs_in_order"] (spLettersOf K) := by
  refine F.ok scLettersOf (fun vs H Q E h => ?_) (fun cdv A outer s H vs Q E hr h => ?_)
  · obtain ⟨p, zs, rfl, _⟩ := h
    rfl
  obtain ⟨p, zs, rfl, hp, hf1, hf2, hf3, q⟩ := h
  refine ⟨_, pss_cons (ps_set (i := 1) scLettersOf.nd rfl (Or.inl rfl) (pe_lst (pa_cons pe_str pa_nil)))
    (pss_cons (ps_for PassesOwn.never rfl (pi_tup (pv 0)) (pg_name (i := 2) scLettersOf.nd rfl (Or.inr rfl))
      (pss_one (ps_setLc2 (i := 1) (own := [("letter", 3), ("sign", 4)]) (vs1 := [4]) (g := gName 3) (tt := tYes) (g1 := gName 4) (tt1 := tYes) (wi1 := iStr (tVar 2)) (te := tOp rAddS (tVar 3) (tVar 4)) rfl scLettersOf.nd rfl rfl (sw_true rfl rfl rfl (by decide +kernel)) (pi_list (pv 1)) (blkOk_by (N := NLO) (sc := defScope sLettersOf) (by decide +kernel)) (by decide)
            (fun _ _ _ _ _ => pg_name (i := 3) scLettersOf.nd rfl (Or.inl rfl)) (fun _ _ _ _ _ => pts_nil) (fun _ _ _ _ _ => pi_str (pv 2)) (fun _ _ _ _ _ => pg_name (i := 4) scLettersOf.nd rfl (Or.inl rfl)) (fun _ _ _ _ _ => pts_nil) (fun _ _ _ _ _ => pe_op op_add_str (pv 3) (pv 4)))))
    (pss_one (ps_ret (pv 1)))), ?_⟩
  have hz2 : sizeLine = 16777216 := sizeLine_eq
  refine ⟨(by show 1 ≤ sizeLine; decide), fun m0 hm0 => ?_⟩
  refine ⟨_, rfl, p, rfl, ⟨_, Same.seqT (same_new hm0 _) hp⟩, for_tup (K := K) (a := p) (xs := zs.map V.str)
    (fun i σ Hi => Same H Hi ∧ ∃ (m : Addr) (v2 : Option V), σ = [some (.ref p), some (.ref m), v2, none, none] ∧ Hi m = some (.lst ((listed (zs.take i)).map V.str)) ∧ H m = none)
    ⟨same_new hm0 _, m0, _, rfl, by rw [List.take_zero]; exact upd_same, hm0⟩ (fun i σ Hi _ h => Same.seqT h.1 hp) ?_ ?_⟩
  · rintro i y _ Hi hi ⟨si, m, v2, rfl, hm, hmn⟩
    obtain ⟨z, hzi, rfl⟩ : ∃ z, zs[i]? = some z ∧ V.str z = y := by
      rw [List.getElem?_map] at hi
      exact Option.map_eq_some_iff.mp hi
    have hi2 : i < zs.length := (List.getElem?_eq_some_iff.mp hzi).1
    have hm4 := hf3 (i + 1) hi2
    have hzl := hf2 z (List.mem_of_getElem? hzi)
    rw [listed_snoc hzi] at hm4
    have hwl : ∀ w ∈ listed (zs.take i), w.length ≤ 100 := fun w hw => by
      have := listed_word hw
      rw [List.length_take] at this
      omega
    have hnext : listed (zs.take (i + 1)) = grow (listed (zs.take i)) z := listed_snoc hzi
    generalize listed (zs.take i) = mine at hm hm4 hwl hnext
    rw [grow_len] at hm4
    refine ⟨_, rfl, m, rfl, ⟨_, SqL.of hm⟩, fun D hD => in_it (walk_list (xs := mine.map V.str)) (fun j Hj => Hj D = some (.lst ((grow (mine.take j) z).map V.str)) ∧ Same Hi Hj) ⟨by rw [List.take_zero]; exact upd_same, same_new hD _⟩ (fun j Hj _ h => SqL.of (h.2 _ _ hm)) (fun j y Hj Hk hj h e => ?_) (fun Hj h => ?_)⟩
    · obtain ⟨rfl, hy⟩ := e
      obtain ⟨w0, hw0, rfl⟩ : ∃ w0, mine[j]? = some w0 ∧ V.str w0 = y := by
        rw [List.getElem?_map] at hy
        exact Option.map_eq_some_iff.mp hy
      have hw1 := hwl w0 (List.mem_of_getElem? hw0)
      have hzs : z.cps.toList.length = z.length := by simp [Str.length]
      refine ⟨rfl, _, rfl, z, rfl, in_it walk_str (fun k Hk => Hk D = some (.lst ((grow (mine.take j) z ++ (z.cps.toList.take k).map (withSign w0)).map V.str)) ∧ Same Hi Hk) ⟨by rw [List.take_zero, List.map_nil, List.append_nil]; exact h.1, h.2⟩ (fun _ _ _ _ => trivial) (fun k y Hk Hl hk pk e => ?_) (fun Hk pk => ?_)⟩
      · obtain ⟨rfl, c, hc, rfl⟩ := e
        refine ⟨rfl, _, rfl, _, rfl, _, _, rfl, rfl, (by show w0.length + 1 ≤ sizeLine; omega), _, pk.1, ?_, ?_, fun a o e => (upd_ne (ne_of_none e hD)).trans (pk.2 _ _ e)⟩
        · rw [List.length_map, List.length_append, List.length_map, List.length_take]
          have h1 := grow_take (z := z) (mine := mine) (j := j)
          omega
        · have e : z.cps.toList.take (k + 1) = z.cps.toList.take k ++ [c] := by
            rw [List.take_succ]
            have : z.cps.toList[k]? = some c := by simpa using hc
            rw [this]
            rfl
          have e9 : (grow (mine.take j) z ++ (z.cps.toList.take k ++ [c]).map (withSign w0)).map V.str = (grow (mine.take j) z ++ (z.cps.toList.take k).map (withSign w0)).map V.str ++ [V.str (withSign w0 c)] := by
            simp only [List.map_append, List.map_cons, List.map_nil, List.append_assoc]
          rw [e, e9]
          exact upd_same
      · have e : z.cps.toList.take z.cps.size = z.cps.toList := List.take_of_length_le (by simp)
        refine ⟨?_, pk.2⟩
        rw [grow_snoc hw0]
        have q1 := pk.1
        rw [e] at q1
        exact q1
    · have e : mine.take (mine.map V.str).length = mine := List.take_of_length_le (by rw [List.length_map]; exact Nat.le_refl _)
      have h1 := h.1
      rw [e, ← hnext] at h1
      exact ⟨si.trans h.2, D, _, rfl, h1, si.free hD⟩
  · rintro _ Hi ⟨si, m, v2, rfl, hm, hmn⟩
    rw [List.length_map, List.take_of_length_le (Nat.le_refl _)] at hm
    exact ⟨_, rfl, q m Hi si hmn hm⟩
end
end K1

set_option Elab.async false
set_option linter.all false
set_option maxRecDepth 100000
set_option maxHeartbeats 4000000
namespace K1
open PySem PySem.Spec PyProof.Rows L2 Fb
/-- the error classes that letters raise -/
def tbl : List (Str × List Str) := [("TooMany", ["what", "found"]), ("BadLetters", ["at"]), ("BadNumber", ["value"]), ("BadText", ["line", "why"]), ("UnknownPart", ["name"])]
structure Tab (P : Program) (w : World) (K : PySem.W.Frag) (mg : Str → Option Value) (base : Heap) (C : Str → Addr) : Prop where
  cTooMany : Fb.Cl P w K mg base "TooMany" ["what", "found"] (C "TooMany")
  cBadLetters : Fb.Cl P w K mg base "BadLetters" ["at"] (C "BadLetters")
  cBadNumber : Fb.Cl P w K mg base "BadNumber" ["value"] (C "BadNumber")
  cBadText : Fb.Cl P w K mg base "BadText" ["line", "why"] (C "BadText")
  cUnknownPart : Fb.Cl P w K mg base "UnknownPart" ["name"] (C "UnknownPart")
  kit : ∀ p ∈ tbl, ∀ q ∈ tbl, PySem.W.kitOne K (.ref (C p.1)) (.ref (C q.1)) = some (decide (q.1 = p.1))
abbrev sFault : Stmt := top 34
def spFault (C : Str → Addr) : Sp := fun vs H Q _ => ∃ (x : Str) (fl : List Str) (e : Addr) (ys : List V), vs = [.ref e] ∧ (x, fl) ∈ tbl ∧ ys.length = fl.length ∧ Err H e (C x) (flds x fl ys) ∧ ∀ (l : Addr) (H' : Hp), Same H H' → H l = none → H' l = some (.lst (.str x :: ys)) → Q (.ref l) H'
section
variable {P : Program} {w : World} {K : PySem.W.Frag} {mg : Str → Option Value} {base : Heap} {C : Str → Addr}
theorem scFault : FnScope ["error"] ["error"] (defScope sFault) := ⟨rfl, rfl, rfl, by decide +kernel, rfl, by decide +kernel, by decide +kernel⟩
theorem ok_fault {f : Addr} {fd : FuncData} (F : Fun K "_law_fault" "_law_fault" sFault f fd) (T : Tab P w K mg base C) (mi : mg "isinstance" = none) : FnW P w K mg base CX0 1 f fd ["error"] (spFault C) := by
  refine okW F scFault (fun vs H Q E h => ?_) (fun cdv A outer s H vs Q E hr h => ?_)
  · obtain ⟨x, fl, e, ys, rfl, _⟩ := h
    rfl
  obtain ⟨x, fl, e, ys, rfl, hm, hl, er, q⟩ := h
  refine ⟨_, (pss_cons (ps_if (pt_val (pe_callB call_isx rfl mi (by decide +kernel) (pa_cons (pv 0) (pa_cons (pe_glob (v := .ref (C "TooMany")) rfl T.cTooMany.gC rfl) pa_nil)))) (pss_one (ps_ret (pe_lst (pa_cons (pe_ef (pv 0)) (pa_cons (pe_ef (pv 0)) (pa_cons (pe_ef (pv 0)) pa_nil)))))) pss_nil)
    (pss_cons (ps_if (pt_val (pe_callB call_isx rfl mi (by decide +kernel) (pa_cons (pv 0) (pa_cons (pe_glob (v := .ref (C "BadLetters")) rfl T.cBadLetters.gC rfl) pa_nil)))) (pss_one (ps_ret (pe_lst (pa_cons (pe_ef (pv 0)) (pa_cons (pe_ef (pv 0)) pa_nil))))) pss_nil)
    (pss_cons (ps_if (pt_val (pe_callB call_isx rfl mi (by decide +kernel) (pa_cons (pv 0) (pa_cons (pe_glob (v := .ref (C "BadNumber")) rfl T.cBadNumber.gC rfl) pa_nil)))) (pss_one (ps_ret (pe_lst (pa_cons (pe_ef (pv 0)) (pa_cons (pe_ef (pv 0)) pa_nil))))) pss_nil)
    (pss_cons (ps_if (pt_val (pe_callB call_isx rfl mi (by decide +kernel) (pa_cons (pv 0) (pa_cons (pe_glob (v := .ref (C "BadText")) rfl T.cBadText.gC rfl) pa_nil)))) (pss_one (ps_ret (pe_lst (pa_cons (pe_ef (pv 0)) (pa_cons (pe_ef (pv 0)) (pa_cons (pe_ef (pv 0)) pa_nil)))))) pss_nil)
    (pss_cons (ps_if (pt_val (pe_callB call_isx rfl mi (by decide +kernel) (pa_cons (pv 0) (pa_cons (pe_glob (v := .ref (C "UnknownPart")) rfl T.cUnknownPart.gC rfl) pa_nil)))) (pss_one (ps_ret (pe_lst (pa_cons (pe_ef (pv 0)) (pa_cons (pe_ef (pv 0)) pa_nil))))) pss_nil)
    (pss_one (ps_ret (pe_lst (pa_cons pe_str pa_nil))))))))), ?_⟩
  have kt := T.kit _ hm
  simp only [tbl, List.mem_cons, List.not_mem_nil, or_false, Prod.mk.injEq] at hm
  rcases hm with ⟨rfl, rfl⟩ | ⟨rfl, rfl⟩ | ⟨rfl, rfl⟩ | ⟨rfl, rfl⟩ | ⟨rfl, rfl⟩
  · match ys, hl with
    | [y0, y1], _ =>
    refine ⟨_, rfl, e, _, _, _, _, true, rfl, er, T.cTooMany.ec, T.cTooMany.is, (fun _ r => r), (kt ("TooMany", ["what", "found"]) (by simp [tbl])).trans (by decide +kernel), _, rfl, iteT ?_⟩
    refine ⟨_, rfl, e, _, _, .str "TooMany", rfl, er, T.cTooMany.ec, T.cTooMany.no.1, (by rfl), ?_⟩
    refine ⟨_, rfl, e, _, _, y0, rfl, er, T.cTooMany.ec, T.cTooMany.no.2 _ (by simp), (by rfl), ?_⟩
    refine ⟨_, rfl, e, _, _, y1, rfl, er, T.cTooMany.ec, T.cTooMany.no.2 _ (by simp), (by rfl), ?_⟩
    exact ⟨(by show 3 ≤ sizeLine; decide), fun p hp => q p _ (same_new hp _) hp upd_same⟩
  · match ys, hl with
    | [y0], _ =>
    refine ⟨_, rfl, e, _, _, _, _, false, rfl, er, T.cBadLetters.ec, T.cBadLetters.is, (fun _ r => r), (kt ("TooMany", ["what", "found"]) (by simp [tbl])).trans (by decide +kernel), _, rfl, iteF ?_⟩
    refine ⟨_, rfl, e, _, _, _, _, true, rfl, er, T.cBadLetters.ec, T.cBadLetters.is, (fun _ r => r), (kt ("BadLetters", ["at"]) (by simp [tbl])).trans (by decide +kernel), _, rfl, iteT ?_⟩
    refine ⟨_, rfl, e, _, _, .str "BadLetters", rfl, er, T.cBadLetters.ec, T.cBadLetters.no.1, (by rfl), ?_⟩
    refine ⟨_, rfl, e, _, _, y0, rfl, er, T.cBadLetters.ec, T.cBadLetters.no.2 _ (by simp), (by rfl), ?_⟩
    exact ⟨(by show 2 ≤ sizeLine; decide), fun p hp => q p _ (same_new hp _) hp upd_same⟩
  · match ys, hl with
    | [y0], _ =>
    refine ⟨_, rfl, e, _, _, _, _, false, rfl, er, T.cBadNumber.ec, T.cBadNumber.is, (fun _ r => r), (kt ("TooMany", ["what", "found"]) (by simp [tbl])).trans (by decide +kernel), _, rfl, iteF ?_⟩
    refine ⟨_, rfl, e, _, _, _, _, false, rfl, er, T.cBadNumber.ec, T.cBadNumber.is, (fun _ r => r), (kt ("BadLetters", ["at"]) (by simp [tbl])).trans (by decide +kernel), _, rfl, iteF ?_⟩
    refine ⟨_, rfl, e, _, _, _, _, true, rfl, er, T.cBadNumber.ec, T.cBadNumber.is, (fun _ r => r), (kt ("BadNumber", ["value"]) (by simp [tbl])).trans (by decide +kernel), _, rfl, iteT ?_⟩
    refine ⟨_, rfl, e, _, _, .str "BadNumber", rfl, er, T.cBadNumber.ec, T.cBadNumber.no.1, (by rfl), ?_⟩
    refine ⟨_, rfl, e, _, _, y0, rfl, er, T.cBadNumber.ec, T.cBadNumber.no.2 _ (by simp), (by rfl), ?_⟩
    exact ⟨(by show 2 ≤ sizeLine; decide), fun p hp => q p _ (same_new hp _) hp upd_same⟩
  · match ys, hl with
    | [y0, y1], _ =>
    refine ⟨_, rfl, e, _, _, _, _, false, rfl, er, T.cBadText.ec, T.cBadText.is, (fun _ r => r), (kt ("TooMany", ["what", "found"]) (by simp [tbl])).trans (by decide +kernel), _, rfl, iteF ?_⟩
    refine ⟨_, rfl, e, _, _, _, _, false, rfl, er, T.cBadText.ec, T.cBadText.is, (fun _ r => r), (kt ("BadLetters", ["at"]) (by simp [tbl])).trans (by decide +kernel), _, rfl, iteF ?_⟩
    refine ⟨_, rfl, e, _, _, _, _, false, rfl, er, T.cBadText.ec, T.cBadText.is, (fun _ r => r), (kt ("BadNumber", ["value"]) (by simp [tbl])).trans (by decide +kernel), _, rfl, iteF ?_⟩
    refine ⟨_, rfl, e, _, _, _, _, true, rfl, er, T.cBadText.ec, T.cBadText.is, (fun _ r => r), (kt ("BadText", ["line", "why"]) (by simp [tbl])).trans (by decide +kernel), _, rfl, iteT ?_⟩
    refine ⟨_, rfl, e, _, _, .str "BadText", rfl, er, T.cBadText.ec, T.cBadText.no.1, (by rfl), ?_⟩
    refine ⟨_, rfl, e, _, _, y0, rfl, er, T.cBadText.ec, T.cBadText.no.2 _ (by simp), (by rfl), ?_⟩
    refine ⟨_, rfl, e, _, _, y1, rfl, er, T.cBadText.ec, T.cBadText.no.2 _ (by simp), (by rfl), ?_⟩
    exact ⟨(by show 3 ≤ sizeLine; decide), fun p hp => q p _ (same_new hp _) hp upd_same⟩
  · match ys, hl with
    | [y0], _ =>
    refine ⟨_, rfl, e, _, _, _, _, false, rfl, er, T.cUnknownPart.ec, T.cUnknownPart.is, (fun _ r => r), (kt ("TooMany", ["what", "found"]) (by simp [tbl])).trans (by decide +kernel), _, rfl, iteF ?_⟩
    refine ⟨_, rfl, e, _, _, _, _, false, rfl, er, T.cUnknownPart.ec, T.cUnknownPart.is, (fun _ r => r), (kt ("BadLetters", ["at"]) (by simp [tbl])).trans (by decide +kernel), _, rfl, iteF ?_⟩
    refine ⟨_, rfl, e, _, _, _, _, false, rfl, er, T.cUnknownPart.ec, T.cUnknownPart.is, (fun _ r => r), (kt ("BadNumber", ["value"]) (by simp [tbl])).trans (by decide +kernel), _, rfl, iteF ?_⟩
    refine ⟨_, rfl, e, _, _, _, _, false, rfl, er, T.cUnknownPart.ec, T.cUnknownPart.is, (fun _ r => r), (kt ("BadText", ["line", "why"]) (by simp [tbl])).trans (by decide +kernel), _, rfl, iteF ?_⟩
    refine ⟨_, rfl, e, _, _, _, _, true, rfl, er, T.cUnknownPart.ec, T.cUnknownPart.is, (fun _ r => r), (kt ("UnknownPart", ["name"]) (by simp [tbl])).trans (by decide +kernel), _, rfl, iteT ?_⟩
    refine ⟨_, rfl, e, _, _, .str "UnknownPart", rfl, er, T.cUnknownPart.ec, T.cUnknownPart.no.1, (by rfl), ?_⟩
    refine ⟨_, rfl, e, _, _, y0, rfl, er, T.cUnknownPart.ec, T.cUnknownPart.no.2 _ (by simp), (by rfl), ?_⟩
    exact ⟨(by show 2 ≤ sizeLine; decide), fun p hp => q p _ (same_new hp _) hp upd_same⟩
end
end K1

set_option Elab.async false
set_option linter.all false
set_option maxRecDepth 100000
set_option maxHeartbeats 4000000
namespace Fb
open PySem PySem.Spec PyProof.Rows L2
/-- the sign of a letter at the parts with a name, up to the n-th part -/
def seenUp (ps : List (Str × Str)) (w tag : Str) : Nat → Str → Str
  | 0, told => told
  | n + 1, told => if (ps.getD n ("", "")).1 = tag then seenUp ps w tag n told ++ ⟨#[w.cps.toList.getD n 0]⟩ else seenUp ps w tag n told
def seenAll (ps : List (Str × Str)) (w : Str) (names : List Str) : Str := names.foldl (fun told tag => seenUp ps w tag ps.length told) ""
theorem seenUp_len {ps : List (Str × Str)} {w tag told : Str} : ∀ n, (seenUp ps w tag n told).length ≤ told.length + n
  | 0 => Nat.le_refl _
  | n + 1 => by
    have ih := seenUp_len (ps := ps) (w := w) (tag := tag) (told := told) n
    unfold seenUp
    split
    · rw [strLen_append]
      show _ + 1 ≤ _
      omega
    · omega
theorem seen_snoc {ps : List (Str × Str)} {w tag : Str} {names : List Str} {i : Nat} (h : names[i]? = some tag) : seenAll ps w (names.take (i + 1)) = seenUp ps w tag ps.length (seenAll ps w (names.take i)) := by
  have e : names.take (i + 1) = names.take i ++ [tag] := by rw [List.take_succ, h]; rfl
  unfold seenAll
  rw [e, List.foldl_append]
  rfl
theorem seen_len {ps : List (Str × Str)} {w : Str} {names : List Str} : ∀ i, i ≤ names.length → (seenAll ps w (names.take i)).length ≤ i * ps.length
  | 0, _ => by
    rw [List.take_zero]
    exact Nat.zero_le _
  | i + 1, h => by
    have ih := seen_len (ps := ps) (w := w) (names := names) i (by omega)
    rw [seen_snoc (List.getElem?_eq_getElem (by omega : i < names.length)), Nat.succ_mul]
    have := seenUp_len (ps := ps) (w := w) (tag := names[i]) (told := seenAll ps w (names.take i)) ps.length
    omega
end Fb
namespace K1
open PySem PySem.Spec PyProof.Rows L2 Fb
abbrev sSeen : Stmt := top 42
section
variable {P : Program} {w : World} {K : PySem.W.Frag} {mg : Str → Option Value} {base : Heap}
abbrev NSeen : List Str := ["parts", "word", "names", "told", "tag", "k"]
theorem scSeen : FnScope NSeen ["parts", "word", "names"] (defScope sSeen) := ⟨rfl, rfl, rfl, by decide +kernel, rfl, by decide +kernel, by decide +kernel⟩
def spSeen (K : PySem.W.Frag) : Sp := fun vs H Q _ => ∃ (p n : Addr) (ps : List (Str × Str)) (z : Str) (names : List Str), vs = [.ref p, .str z, .ref n] ∧ PartsAt K H p ps ∧ SqL K H n (names.map V.str) ∧ z.length = ps.length ∧ ps.length ≤ 100 ∧ names.length ≤ 1000 ∧
  ∀ H', Same H H' → Q (.str (seenAll ps z names)) H'
theorem ok_seen {f : Addr} {fd : FuncData} (F : Fun K "_law_seen" "_law_seen" sSeen f fd) (mr : mg "range" = none) (ml : mg "len" = none) : FnOk P w K mg base CX0 1 f fd ["parts", "word", "names"] (spSeen K) := by
  refine F.ok scSeen (fun vs H Q E h => ?_) (fun cdv A outer s H vs Q E hr h => ?_)
  · obtain ⟨p, n, ps, z, names, rfl, _⟩ := h
    rfl
  obtain ⟨p, n, ps, z, names, rfl, ⟨ts, hp, hps⟩, hn, hz, h100, hnl, q⟩ := h
  refine ⟨_, pss_cons (ps_set (i := 3) scSeen.nd rfl (Or.inl rfl) pe_str)
    (pss_cons (ps_for PassesOwn.never rfl (pi_list (pv 2)) (pg_name (i := 4) scSeen.nd rfl (Or.inl rfl))
      (pss_one (ps_for PassesOwn.never rfl (pi_range1 rfl mr (pa_cons (pe_callB call_len_seq rfl ml PySem.boot_len (pa_cons (pv 0) pa_nil)) pa_nil)) (pg_name (i := 5) scSeen.nd rfl (Or.inl rfl))
        (pss_one (ps_if (pt_cmpR op_eq (pe_ix ix_tup (pe_ix ix_list (pv 0) (pv 5) (fun _ _ => rfl)) pe_int (fun _ _ => rfl)) (pv 4) (nomark _)) (pss_one (ps_set (i := 3) scSeen.nd rfl (Or.inl rfl) (pe_op op_add_str (pv 3) (pe_ix ix_str (pv 1) (pv 5) (fun _ _ => rfl))))) pss_nil)))))
    (pss_one (ps_ret (pv 3)))), ?_⟩
  have hz2 : sizeLine = 16777216 := sizeLine_eq
  have hlen := hps.len
  refine ⟨_, rfl, n, rfl, ⟨_, hn⟩, for_list (K := K) (a := n) (xs := names.map V.str) (fun i σ Hi => Hi = H ∧ ∃ v4 v5 : Option V, σ = [some (.ref p), some (.str z), some (.ref n), some (.str (seenAll ps z (names.take i))), v4, v5]) ⟨rfl, _, _, rfl⟩ (fun i σ Hi _ h => by rw [h.1]; exact hn) ?_ ?_⟩
  · rintro i y _ _ hi ⟨rfl, v4, v5, rfl⟩
    obtain ⟨tag, ht, rfl⟩ : ∃ tag, names[i]? = some tag ∧ V.str tag = y := by
      rw [List.getElem?_map] at hi
      exact Option.map_eq_some_iff.mp hi
    have hi2 : i < names.length := (List.getElem?_eq_some_iff.mp ht).1
    have hsl := seen_len (ps := ps) (w := z) (names := names) i (by omega)
    have hmul : i * ps.length ≤ 1000 * 100 := Nat.mul_le_mul (by omega) h100
    refine ⟨_, rfl, p, _, rfl, .inl hp, _, rfl, ?_, ?_, for_range (lo := 0) (n := (ts.map V.ref).length) (fun k σ Hi => Hi = _ ∧ ∃ v5 : Option V, σ = [some (.ref p), some (.str z), some (.ref n), some (.str (seenUp ps z tag k (seenAll ps z (names.take i)))), some (.str tag), v5]) ⟨rfl, _, rfl⟩ ?_ ?_⟩
    · rw [List.length_map]
      omega
    · rw [List.length_map]
      omega
    · rintro k _ _ hk ⟨rfl, v5, rfl⟩
      rw [List.length_map] at hk
      have e0 : ((0 : Int) + (k : Int)) = (k : Int) := by omega
      obtain ⟨r, hr2, hrt⟩ := hps.get (List.getElem?_eq_getElem hk)
      have hkp : k < ps.length := by omega
      have hgd : ps.getD k ("", "") = r := by
        rw [List.getD_eq_getElem?_getD, hr2]
        rfl
      have hzc : k < z.cps.toList.length := by
        have : z.cps.toList.length = z.length := by simp [Str.length]
        omega
      have hlk := seenUp_len (ps := ps) (w := z) (tag := tag) (told := seenAll ps z (names.take i)) k
      have hat : atI (ts.map V.ref) (0 + (k : Int)) = some (.ref ts[k]) := by
        rw [e0]
        refine atI_nat ?_
        rw [List.getElem?_map, List.getElem?_eq_getElem hk]
        rfl
      refine ⟨_, rfl, _, rfl, p, _, _, .ref ts[k], rfl, rfl, hp, hat, ts[k], _, 0, .str r.1, rfl, rfl, hrt, rfl, _, rfl, rfl, _, rfl, ?_⟩
      refine ite2 (fun c => ?_) (fun c => ?_)
      · have hc : r.1 = tag := V.str.inj (of_decide_eq_true c)
        have hsu : seenUp ps z tag (k + 1) (seenAll ps z (names.take i)) = seenUp ps z tag k (seenAll ps z (names.take i)) ++ ⟨#[z.cps.toList.getD k 0]⟩ := by
          show (if (ps.getD k ("", "")).1 = tag then _ else _) = _
          rw [hgd, if_pos hc]
        have haz : atI z.cps.toList (0 + (k : Int)) = some (z.cps.toList.getD k 0) := by
          rw [e0]
          refine atI_nat ?_
          rw [List.getElem?_eq_getElem hzc, List.getD_eq_getElem?_getD, List.getElem?_eq_getElem hzc]
          rfl
        refine ⟨_, rfl, _, rfl, _, rfl, z, _, _, rfl, rfl, by omega, haz, _, _, rfl, rfl, (by show _ + 1 ≤ sizeLine; omega), rfl, some (.int (0 + (k : Int))), ?_⟩
        rw [hsu]
        rfl
      · have hc : ¬ r.1 = tag := fun h => c (decide_eq_true (congrArg V.str h))
        have hsu : seenUp ps z tag (k + 1) (seenAll ps z (names.take i)) = seenUp ps z tag k (seenAll ps z (names.take i)) := by
          show (if (ps.getD k ("", "")).1 = tag then _ else _) = _
          rw [hgd, if_neg hc]
        refine ⟨rfl, some (.int (0 + (k : Int))), ?_⟩
        rw [hsu]
        rfl
    · rintro _ _ ⟨rfl, v5, rfl⟩
      refine ⟨rfl, some (.str tag), v5, ?_⟩
      rw [seen_snoc ht, List.length_map, hlen]
  · rintro _ _ ⟨rfl, v4, v5, rfl⟩
    rw [List.length_map, List.take_of_length_le (Nat.le_refl _)]
    exact ⟨_, rfl, q _ (Same.refl _)⟩
end
end K1

set_option Elab.async false
set_option linter.all false
set_option maxRecDepth 100000
set_option maxHeartbeats 4000000
namespace Fb
open PySem PySem.Spec PyProof.Rows L2
/-- some text of at most n signs -/
def AnyS (n : Nat) (z : Str) : Prop := z.length ≤ n ∧ ∀ c ∈ TL.tl z, c < 1000
theorem AnyS.cut {n : Nat} {z : Str} (h : AnyS n z) (lo hi : Option Int) : AnyS n (cutS z lo hi) :=
  ⟨Nat.le_trans (cutS_length z lo hi) h.1, fun c hc => h.2 c (List.mem_of_mem_drop (List.mem_of_mem_take hc))⟩
theorem AnyS.app {m n : Nat} {y z : Str} (h : AnyS m y) (k : AnyS n z) : AnyS (m + n) (y ++ z) := by
  refine ⟨by rw [strLen_append]; exact Nat.add_le_add h.1 k.1, fun c hc => ?_⟩
  rw [TL.tl_append] at hc
  rcases List.mem_append.mp hc with q | q
  · exact h.2 c q
  · exact k.2 c q
theorem AnyS.mono {m n : Nat} {z : Str} (h : AnyS m z) (k : m ≤ n) : AnyS n z := ⟨Nat.le_trans h.1 k, h.2⟩
theorem AnyS.one {c : Nat} (h : c < 1000) : AnyS 1 ⟨#[c]⟩ := ⟨Nat.le_refl _, fun d hd => by
  have e : d = c := by simpa using hd
  rw [e]
  exact h⟩
end Fb
namespace K1
open PySem PySem.Spec PyProof.Rows L2 Fb
abbrev sOdd : Stmt := top 36
section
variable {P : Program} {w : World} {K : PySem.W.Frag} {mg : Str → Option Value} {base : Heap}
abbrev NOdd : List Str := ["bag", "mine", "word", "spot", "some"]
theorem scOdd : FnScope NOdd ["bag", "mine"] (defScope sOdd) := ⟨rfl, rfl, rfl, by decide +kernel, rfl, by decide +kernel, by decide +kernel⟩
def spOdd (K : PySem.W.Frag) : Sp := fun vs H Q _ => ∃ (b l p : Addr) (ms : List Str), vs = [.ref b, .ref p] ∧ BagAt l H b ∧ p ≠ b ∧ SqL K H p (ms.map V.str) ∧ 0 < ms.length ∧ ms.length ≤ 10000 ∧ (∀ z ∈ ms, 1 ≤ z.length ∧ AnyS 4 z) ∧ ∀ (z : Str) (H' : Hp), AnyS 9 z → BagAt l H' b → But b H H' → Q (.str z) H'
theorem ok_odd {f : Addr} {fd : FuncData} (F : Fun K "_law_odd" "_law_odd" sOdd f fd) (D : RD P w K mg base 1 "_law_draw" ["bag", "size"] spDraw) (O : RD P w K mg base 2 "_law_of" ["bag", "things"] (spOf K)) (ml : mg "len" = none) : FnOk P w K mg base CX0 3 f fd ["bag", "mine"] (spOdd K) := by
  refine F.ok scOdd (fun vs H Q E h => ?_) (fun cdv A outer s H vs Q E hr h => ?_)
  · obtain ⟨b, l, p, ms, rfl, _⟩ := h
    rfl
  obtain ⟨b, l, p, ms, rfl, B, hpb, hp, h0, h1, hms, q⟩ := h
  have hr1 := hr.mono (by decide : 1 ≤ 2)
  refine ⟨_, pss_cons (ps_set (i := 2) scOdd.nd rfl (Or.inl rfl) (pe_rd O hr rfl pass0 (pa_cons (pv 0) (pa_cons (pv 1) pa_nil))))
    (pss_cons (ps_set (i := 3) scOdd.nd rfl (Or.inl rfl) (pe_rd D hr1 rfl pass0 (pa_cons (pv 0) (pa_cons (pe_callB call_len_str rfl ml PySem.boot_len (pa_cons (pv 2) pa_nil)) pa_nil))))
    (pss_cons (ps_set (i := 4) scOdd.nd rfl (Or.inl rfl) (pe_lst (pa_cons (pe_op op_add_str (pe_slice sl_str (pv 2) po_none (po_some (pv 3))) (pe_slice sl_str (pv 2) (po_some (pe_op op_add (pv 3) pe_int)) po_none))
        (pa_cons (pe_op op_add_str (pv 2) (pe_ix ix_str (pv 2) (pv 3) (fun _ _ => rfl)))
        (pa_cons (pe_op op_add_str (pv 2) pe_str)
        (pa_cons (pe_op op_add_str (pe_op op_add_str (pe_slice sl_str (pv 2) po_none (po_some (pv 3))) pe_str) (pe_slice sl_str (pv 2) (po_some (pe_op op_add (pv 3) pe_int)) po_none)) pa_nil))))))
    (pss_cons (ps_set (i := 4) scOdd.nd rfl (Or.inl rfl) (pe_op op_cat (pv 4) (pe_lst (pa_cons (pe_op op_add_str (pe_op op_add_str (pe_slice sl_str (pv 2) po_none (po_some (pv 3))) (pe_rd O hr rfl pass0 (pa_cons (pv 0) (pa_cons pe_str pa_nil)))) (pe_slice sl_str (pv 2) (po_some (pe_op op_add (pv 3) pe_int)) po_none))
        (pa_cons pe_str (pa_cons pe_str (pa_cons (pe_op op_add_str pe_str (pv 2)) (pa_cons pe_str pa_nil))))))))
    (pss_one (ps_ret (pe_rd O hr rfl pass0 (pa_cons (pv 0) (pa_cons (pv 4) pa_nil)))))))), ?_⟩
  have hz2 : sizeLine = 16777216 := sizeLine_eq
  refine ⟨_, rfl, _, rfl, b, l, .ref p, ms.length, (fun y => ∃ z ∈ ms, y = .str z), rfl, B, h0, by omega, .inl ⟨p, _, rfl, hpb, .inl hp, by rw [List.length_map], fun y hy => ?_⟩, fun y H1 hy B1 b1 => ?_⟩
  · obtain ⟨z, hz, rfl⟩ := List.mem_map.mp hy
    exact ⟨z, hz, rfl⟩
  obtain ⟨z, hz, rfl⟩ := hy
  obtain ⟨hz1, az⟩ := hms z hz
  have hz4 := az.1
  refine ⟨_, rfl, _, rfl, z, rfl, by omega, b, l, z.length, rfl, B1, by omega, by omega, fun r H2 r0 r1 B2 b2 => ?_⟩
  obtain ⟨ch, hch, hat⟩ := atI_some (xs := z.cps.toList) r0 (by have : z.cps.toList.length = z.length := by simp [Str.length]
                                                                omega)
  have a1 := az.cut none (some r)
  have a2 := az.cut (some (r + 1)) none
  have ach : AnyS 1 ⟨#[ch]⟩ := .one (az.2 ch hch)
  have e1 := a1.1
  have e2 := a2.1
  refine ⟨_, rfl, _, rfl, _, rfl, z, rfl, by omega, _, rfl, _, rfl, _, _, rfl, rfl, _, rfl, z, rfl, by omega, _, _, rfl, rfl, by omega, ?_⟩
  refine ⟨_, rfl, _, rfl, _, rfl, z, _, _, rfl, rfl, by omega, hat, _, _, rfl, rfl, (by show z.length + 1 ≤ sizeLine; omega), ?_⟩
  refine ⟨_, rfl, _, _, rfl, rfl, (by show z.length + 1 ≤ sizeLine; omega), ?_⟩
  refine ⟨_, rfl, _, rfl, _, rfl, z, rfl, by omega, _, _, rfl, rfl, (by show _ + 1 ≤ sizeLine; omega), _, rfl, _, rfl, _, _, rfl, rfl, _, rfl, z, rfl, by omega, _, _, rfl, rfl, (by rw [strLen_append]; show _ + 1 + _ ≤ sizeLine; omega), ?_⟩
  refine ⟨(by show 4 ≤ sizeLine; decide), fun p1 hp1 => ?_⟩
  have s3 := same_new hp1 (.lst [.str (cutS z none (some r) ++ cutS z (some (r + 1)) none), .str (z ++ ⟨#[ch]⟩), .str (z ++ "\n"), .str (cutS z none (some r) ++ "#" ++ cutS z (some (r + 1)) none)])
  have hp1b : p1 ≠ b := B2.ne hp1
  refine ⟨_, rfl, _, rfl, _, rfl, _, rfl, z, rfl, by omega, _, rfl, b, l, _, 19, (fun y => ∃ c, y = .str ⟨#[c]⟩ ∧ c < 1000), rfl, B2.same s3, by decide, by decide, .inr ⟨_, rfl, by decide +kernel, fun c hc => ⟨c, rfl, ?_⟩⟩, fun y H4 hy B4 b4 => ?_⟩
  · have all : ∀ c ∈ ("0123456789abcxyz?.A" : Str).cps.toList, c < 1000 := by decide +kernel
    exact all c hc
  obtain ⟨c, rfl, hc⟩ := hy
  have hp14 := b4.at hp1b (upd_same (H := H2) (o := HO.lst [.str (cutS z none (some r) ++ cutS z (some (r + 1)) none), .str (z ++ ⟨#[ch]⟩), .str (z ++ "\n"), .str (cutS z none (some r) ++ "#" ++ cutS z (some (r + 1)) none)]))
  have bt : But b H H4 := ((b1.trans b2).trans (But.of s3)).trans b4
  refine ⟨_, _, rfl, rfl, (by show _ + 1 ≤ sizeLine; omega), _, rfl, _, rfl, _, _, rfl, rfl, _, rfl, z, rfl, by omega, _, _, rfl, rfl, (by rw [strLen_append]; show _ + 1 + _ ≤ sizeLine; omega), ?_⟩
  refine ⟨_, rfl, _, _, rfl, rfl, (by show 1 + z.length ≤ sizeLine; omega), (by show 5 ≤ sizeLine; decide), fun p2 hp2 => ?_⟩
  refine ⟨p1, p2, _, _, rfl, rfl, (same_new hp2 _) _ _ hp14, upd_same, (by show 9 ≤ sizeLine; decide), fun p3 hp3 => ?_⟩
  have s6 := (same_new hp2 (.lst [.str (cutS z none (some r) ++ ⟨#[c]⟩ ++ cutS z (some (r + 1)) none), .str "", .str "#", .str (" " ++ z), .str "-"])).trans (same_new hp3 (.lst ([.str (cutS z none (some r) ++ cutS z (some (r + 1)) none), .str (z ++ ⟨#[ch]⟩), .str (z ++ "\n"), .str (cutS z none (some r) ++ "#" ++ cutS z (some (r + 1)) none)] ++ [.str (cutS z none (some r) ++ ⟨#[c]⟩ ++ cutS z (some (r + 1)) none), .str "", .str "#", .str (" " ++ z), .str "-"])))
  have nl : AnyS 1 "\n" := ⟨by decide +kernel, by decide +kernel⟩
  have sp : AnyS 1 " " := ⟨by decide +kernel, by decide +kernel⟩
  have ha : AnyS 1 "#" := ⟨by decide +kernel, by decide +kernel⟩
  refine ⟨_, rfl, _, rfl, b, l, .ref p3, 9, (fun y => ∃ z, y = .str z ∧ AnyS 9 z), rfl, B4.same s6, by decide, by decide, .inl ⟨p3, _, rfl, (B4.new hp2 _).ne hp3, .inl (SqL.of upd_same), rfl, fun y hy => ?_⟩, fun y H5 hy B5 b5 => ?_⟩
  · simp only [List.cons_append, List.nil_append, List.mem_cons, List.not_mem_nil, or_false] at hy
    rcases hy with rfl | rfl | rfl | rfl | rfl | rfl | rfl | rfl | rfl
    · exact ⟨_, rfl, (a1.app a2).mono (by decide)⟩
    · exact ⟨_, rfl, (az.app ach).mono (by decide)⟩
    · exact ⟨_, rfl, (az.app nl).mono (by decide)⟩
    · exact ⟨_, rfl, ((a1.app ha).app a2).mono (by decide)⟩
    · exact ⟨_, rfl, ((a1.app (.one hc)).app a2).mono (by decide)⟩
    · exact ⟨_, rfl, by decide +kernel, by decide +kernel⟩
    · exact ⟨_, rfl, ha.mono (by decide)⟩
    · exact ⟨_, rfl, (sp.app az).mono (by decide)⟩
    · exact ⟨_, rfl, by decide +kernel, by decide +kernel⟩
  · obtain ⟨y, rfl, ay⟩ := hy
    exact q y H5 ay B5 ((bt.trans (But.of s6)).trans b5)
end
end K1

set_option Elab.async false
set_option linter.all false
set_option maxRecDepth 100000
set_option maxHeartbeats 4000000
namespace K1
open PySem PySem.Spec PyProof.Rows L2 Fb
abbrev sAreSigns : Stmt := top 16
section
variable {P : Program} {w : World} {K : PySem.W.Frag} {mg : Str → Option Value} {base : Heap}
theorem scAreSigns : FnScope ["signs", "one"] ["signs"] (defScope sAreSigns) := ⟨rfl, rfl, rfl, by decide +kernel, rfl, by decide +kernel, by decide +kernel⟩
theorem ok_are_signs {f : Addr} {fd : FuncData} {t1 t2 : Tok} (F : Fun K "_are_signs" "_are_signs" sAreSigns f fd) (ml : mg "len" = none) (ms : mg "set" = none) (ma : mg "all" = none) (g1 : mg "MOST_SIGNS" = some (.int 16 t1)) (g2 : mg "SIGNS" = some (.str signsS t2)) : FnOk P w K mg base CX0 1 f fd ["signs"] (spTold areSigns) := by
  refine F.ok scAreSigns (fun vs H Q E h => ?_) (fun cdv A outer s H vs Q E hr h => ?_)
  · obtain ⟨z, rfl, _⟩ := h
    rfl
  obtain ⟨z, rfl, hz, q⟩ := h
  have hz2 : sizeLine = 16777216 := sizeLine_eq
  refine ⟨_, pss_cons (ps_if (PW.pt (pw_or (pt_not (pt_chain op_le op_le pe_int (pe_callB call_len rfl ml PySem.boot_len (pa_cons (pv 0) pa_nil)) (pe_glob (v := .int 16) rfl g1 ⟨_, rfl⟩)))
      (pw_or1 (pt_cmpR op_ne (pe_lenSet rfl ml rfl ms (pv 0)) (pe_callB call_len rfl ml PySem.boot_len (pa_cons (pv 0) pa_nil)) (nomark _))))) (pss_one (ps_ret pe_bl)) pss_nil)
    (pss_one (ps_ret (pe_callB (cr_all rfl) rfl ma (by decide +kernel) (pa_cons (pe_lc (own := [("one", 1)]) (g := gName 1) (tt := tYes) rfl scAreSigns.nd (pi_str (pv 0)) (blkOk_by (N := ["signs", "one"]) (sc := defScope sAreSigns) (by decide +kernel))
            (fun _ _ _ _ _ => pg_name (i := 1) scAreSigns.nd rfl (Or.inl rfl)) (fun _ _ _ _ _ => pts_nil) (fun _ _ _ _ _ => pe_cmpR op_in_sign (pv 1) (pe_glob (v := .str signsS) rfl g2 ⟨_, rfl⟩) rfl)) pa_nil)))), ?_⟩
  have no : areSigns z = false → Q (.bl false) H := fun e => by
    have h := q H (Same.refl _)
    rwa [e] at h
  have fin : 1 ≤ z.length → z.length ≤ 16 → (TL.tl z).Nodup → areSigns z = (z.cps.toList.map fun c => decide (c ∈ signsS.cps.toList)).all id := fun h1 h2 h3 => by
    unfold areSigns
    rw [decide_eq_true h1, decide_eq_true h2, decide_eq_true h3, List.all_map]
    rfl
  refine ⟨_, rfl, _, z.length, rfl, ⟨by omega, rfl⟩, _, _, rfl, rfl, _, rfl, ?_⟩
  have off : ¬ (1 ≤ z.length ∧ z.length ≤ 16) → areSigns z = false := fun h => by
    unfold areSigns
    by_cases h1 : 1 ≤ z.length
    · rw [decide_eq_false (fun h2 => h ⟨h1, h2⟩ : ¬ z.length ≤ 16), Bool.false_and, Bool.and_false]
    · rw [decide_eq_false h1, Bool.false_and]
  refine ite2 (fun c1 => ?_) (fun c1 => ?_)
  · have d1 : (1 : Int) ≤ (z.length : Int) := of_decide_eq_true c1
    refine ⟨_, _, rfl, rfl, _, rfl, ?_⟩
    by_cases c2 : (z.length : Int) ≤ 16
    · rw [decide_eq_true c2]
      refine ⟨_, rfl, .inl ⟨z, rfl, by omega, ⟨_, rfl, _, z.length, rfl, ⟨by omega, rfl⟩, rfl, _, rfl, ?_⟩⟩⟩
      have hu := unlike_iff (signsL z)
      rw [signsL_nodup, signsL_len] at hu
      refine ite2 (fun c3 => ?_) (fun c3 => ?_)
      · have hne : ¬ (unlike (signsL z)).length = z.length := fun e => by
          rw [e] at c3
          simp at c3
        refine no ?_
        unfold areSigns
        rw [decide_eq_false (fun h => hne (hu.mpr h)), Bool.false_and, Bool.and_false, Bool.and_false]
      · have heq : (unlike (signsL z)).length = z.length := by
          have e : decide (V.int ((unlike (signsL z)).length : Nat) = V.int (z.length : Nat)) = true := by
            cases hb : decide (V.int ((unlike (signsL z)).length : Nat) = V.int (z.length : Nat)) with
            | true => rfl
            | false =>
              rw [hb] at c3
              simp at c3
          have := V.int.inj (of_decide_eq_true e)
          omega
        refine ⟨_, rfl, z, rfl, fun D hD => lc_it walk_str (PvSigns z (fun c => decide (c ∈ signsS.cps.toList)) H D) (PvSigns.start hD) (fun _ _ _ _ => trivial) (fun i y Hi Hj hi p e => ?_) (fun Hi p => ?_)⟩
        · obtain ⟨rfl, c, hc, rfl⟩ := e
          exact ⟨rfl, _, rfl, c, signsS, rfl, rfl, _, p.1, PvSigns.len hz, p.step hD hc⟩
        · refine ⟨D, z.cps.toList.map _, rfl, SqL.of p.fin, ?_⟩
          have h := q Hi p.2
          rwa [fin (by omega) (by omega) (hu.mp heq)] at h
    · rw [decide_eq_false c2]
      exact no (off fun h => c2 (by omega))
  · have d1 : ¬ (1 : Int) ≤ (z.length : Int) := fun h => c1 (decide_eq_true h)
    exact ⟨_, rfl, no (off fun h => d1 (by omega))⟩
end
end K1

set_option Elab.async false
set_option linter.all false
set_option maxRecDepth 100000
set_option maxHeartbeats 4000000
/-! enumerate(t), t a tuple -/
namespace Fb
open PySem PySem.Spec PyProof.Rows L2
open AutoSeq1 (wpAny_loadPart')
set_option maxHeartbeats 2000000 in
theorem meets_enumT (l : Addr) (items : Array Value) (n : Nat) (dct : Option Addr) (sl : Array (Option Value)) : Meets (Builtin.«enumerate.__new__» ⟨[.type "enumerate", .ref l], []⟩) (fun _ R s => s.heap.get? l = some { cls := .type "tuple", dict := dct, data := .seq items n, slots := sl } ∧
      R (.ok (.ret (.ref (s.heap.push { cls := .type "tuple_iterator", data := .fields #[.ref l, .int 0 0] }).objs.size)))
        { s with heap := (s.heap.push { cls := .type "tuple_iterator", data := .fields #[.ref l, .int 0 0] }).push { cls := .type "enumerate", data := .fields #[.none, .bool false, .ref s.heap.objs.size, rawInt 0, .none, .none] } }) :=
  .of_wp fun prog w A R s h => by
    obtain ⟨hp, g, d, tk, os⟩ := s
    obtain ⟨hl, h⟩ := h
    have hsub := sub_enumerate
    have hL : Heap.IsTuple (Shared.heap ⟨hp, g, d, tk, os⟩) l items := ⟨_, hl, rfl, n, rfl⟩
    wp_walk using wpAny_loadPart' hl
    refine wpAny_stack_any fun st => wpAny_pure ?_
    split
    · rename_i c _ _ _ _ _
      cases (c == Value.type "enumerate")
      · wp_walk using wpAny_loadPart' hl, wpAny_pyIter_tuple hL
        exact ⟨_, rfl, h⟩
      · wp_walk using wpAny_loadPart' hl, wpAny_pyIter_tuple hL
        exact ⟨_, rfl, h⟩
    · wp_walk using wpAny_loadPart' hl, wpAny_pyIter_tuple hL
      exact ⟨_, rfl, h⟩
section
variable {prog : Program} {w : World} {A : Around} {E : Value → Shared → Prop} {s : Shared}
theorem call_enumT {l : Addr} {items : Array Value} {Q : Value → Shared → Prop} (hL : s.heap.IsTuple l items)
    (h : ∀ h', IsEnum h' (s.heap.objs.size + 1) s.heap.objs.size 0 .none → h'.IsTupleIter s.heap.objs.size l 0 → h'.objs.size = s.heap.objs.size + 2 → (∀ b o, s.heap.get? b = some o → h'.get? b = some o) → Q (.ref (s.heap.objs.size + 1)) { s with heap := h' }) :
    wpAny (model prog w) A (call (.type "enumerate") [.ref l]) Q E s := by
  obtain ⟨⟨c, dct, dt, sl⟩, hl, hc, n, hd⟩ := hL
  replace hc : c = .type "tuple" := hc
  replace hd : dt = .seq items n := hd
  subst hc hd
  refine callType_new F.called_enumerate (by decide) (F.typeCall_enumerate_1 _) (F.newCall_enumerate_1 _) (fun obj => F.args_object_init_2 obj _) F.entry_enumerate_new (meets_enumT l items n dct sl) ⟨hl, ?_⟩
  generalize hg : s.heap.push { cls := .type "tuple_iterator", data := .fields #[.ref l, .int 0 0] } = g1
  have hz : g1.objs.size = s.heap.objs.size + 1 := by rw [← hg, Heap.size_push]
  show _ ∧ _
  rw [hz]
  have he : IsEnum (g1.push { cls := .type "enumerate", data := .fields #[.none, .bool false, .ref s.heap.objs.size, rawInt 0, .none, .none] }) (s.heap.objs.size + 1) s.heap.objs.size 0 .none := by
    have q := Heap.get?_push_size g1 (o := { cls := .type "enumerate", data := .fields #[.none, .bool false, .ref s.heap.objs.size, rawInt 0, .none, .none] }) rfl
    rwa [hz] at q
  have hi : g1.get? s.heap.objs.size = some { cls := .type "tuple_iterator", data := .fields #[.ref l, .int 0 0] } := by rw [← hg]; exact Heap.get?_push_size _ rfl
  exact ⟨⟨_, he, rfl⟩, h _ he ⟨_, Heap.get?_push_of_some _ hi, rfl, rfl⟩ (by rw [Heap.size_push, hz]) fun b o x => Heap.get?_push_of_some _ (by rw [← hg]; exact Heap.get?_push_of_some _ x)⟩
theorem next_enumT {e it l : Addr} {i : Nat} {items : Array Value} {old : Value} {Q : Option Value → Shared → Prop} (hh : A.handled = none) (he : IsEnum s.heap e it i old) (hit : s.heap.IsTupleIter it l i) (hl : s.heap.IsTuple l items) (hx : items[i]? = none)
    (hQ : ∀ h', Heap.ExtBut it s.heap h' → Q none { s with heap := h' }) : wpAny (model prog w) A (pyNext (.ref e)) Q E s := by
  have hT : s.TypeIs (.ref e) "enumerate" := ⟨_, he, rfl⟩
  unfold pyNext
  refine wpAny_bind (wpAny_attempt (wpAny_callSpecial?_slot (name := Str.ofString "__next__") hT F.slot_enumerate_next (wpAny_call_entry F.slot_enumerate_next hT F.entry_enumerate_next ?_ (F.args_enumerate_next_1 _))))
  show wpAny _ _ (field (.ref e) 2 >>= _) _ _ _
  refine wpAny_bind (wpAny_field he rfl (x := .ref it) rfl (wpAny_bind (wpAny_nextOf_tuple_end (by simpa using hh) hit hl hx fun h' x he' hx' => ?_)))
  obtain ⟨o, ho, hc⟩ := hx'
  exact wpAny_bind (wpAny_isInstance (T := "StopIteration") (b := true) ⟨o, ho, hc⟩ isSubtype_stop (wpAny_pure (hQ _ he')))
end
/-- the tuple at a, each item in a new pair -/
def IteT (K : PySem.W.Frag) (a : Addr) : It := ⟨fun i H => ∃ (xs : List V) (x : V), SqT K H a xs ∧ xs[i]? = some x, fun i H v H' => ∃ T x, v = .ref T ∧ H T = none ∧ H' = upd H T (.tup [.int (i : Nat), x]) ∧ ∀ xs, SqT K H a xs → xs[i]? = some x, fun i H => ∃ xs : List V, SqT K H a xs ∧ xs.length ≤ i⟩
theorem turn_enumT {P : Program} {w : World} {K : PySem.W.Frag} {elts : List Expr} {kk : Nat} {tpos : Pos} (a e it : Addr) (items : Array Value) (hai : a ≠ it) (hae : a ≠ e) :
    Turn P w K (.Tuple elts kk tpos) (IteT K a) [e, it] e (fun i h => (∃ old, IsEnum h e it ((i : Nat) : Int) old) ∧ h.IsTupleIter it a i ∧ e ≠ it) where
  mem := by simp
  obj := fun i h st b hb => by
    obtain ⟨⟨old, he⟩, ⟨o, ho, hc, hd⟩, _⟩ := st
    rcases List.mem_cons.mp hb with z | hb
    · rw [z]
      exact ⟨_, he, fun v q => nomatch q⟩
    · rw [List.mem_singleton.mp hb]
      exact ⟨o, ho, fun v q => by rw [hd] at q; cases q⟩
  keep := fun i h h' st k => let ⟨⟨old, he⟩, hi, hne⟩ := st; ⟨⟨old, k e (by simp) _ he⟩, hi.at fun o q => k it (by simp) o q, hne⟩
  item := by
    intro X hP hw hK hc i pins s σ H E I hf st hg
    subst hP hw hK
    obtain ⟨⟨old, he⟩, hit, hne⟩ := st
    obtain ⟨xs, x, hq, hx⟩ := hg
    obtain ⟨its, rv, p, hz⟩ := I.tuple hq
    obtain ⟨u, hu, ru⟩ := rv.get hx
    have hel : e < s.heap.objs.size := Heap.lt_size he
    have hil : it < s.heap.objs.size := by obtain ⟨_, q, _⟩ := hit; exact Heap.lt_size q
    have hlt : i < its.toArray.size := by
      have := (List.getElem?_eq_some_iff.mp hu).1
      simpa using this
    have D := Draws.tuple (prog := X.prog) (w := X.w) (A := X.A.in1) (by have := I.ok.hd hc; simpa using this) it a hai its.toArray
    refine wpAny_pyNext_enum_itemD D he ⟨hit, p⟩ hlt hne (by simp [hne, Ne.symm hae]) fun x' h' tk hx' ho hit' hT hsz hk => ?_
    obtain rfl : x' = u := by
      have e1 : its.toArray[i]? = some u := by simpa using hu
      rw [e1] at hx'
      exact (Option.some.inj hx').symm
    refine ⟨_, rfl, wpAny_letOwnedTupleGo_enum (s := { s with heap := h', toks := tk + 1 }) ho fun h'' he' sb => ?_⟩
    have hT2 : h''.get? s.heap.objs.size = some { cls := .type "tuple", data := .seq #[.int i tk, x'] } := (sb.2 _ (Nat.ne_of_gt hel)).trans hT
    have new : ObjOk X.prog X.w (upd H s.heap.objs.size (.tup [.int (i : Nat), x])) h'' s.heap.objs.size (.tup [.int (i : Nat), x]) := ⟨by show 2 ≤ sizeLine; decide, [.int i tk, x'], .cons ⟨_, rfl⟩ (.cons ru .nil), ⟨_, hT2, rfl, _, rfl⟩⟩
    have I1 : Inv X pins σ (upd H s.heap.objs.size (.tup [.int (i : Nat), x])) { s with heap := h'', toks := tk + 1 } :=
      I.turnedNew (ch := [e, it]) (fun b ob hb q => (sb.2 b (fun z => hb (by simp [z]))).trans (hk b ob (fun z => hb (by simp [z])) (fun z => hb (by simp [z])) q)) hf (Nat.le_refl _) new
    refine ⟨.ref s.heap.objs.size, _, I1, rfl, ⟨_, x, rfl, I.hok.fresh (Nat.le_refl _), rfl, fun ys hy => by rw [I.tuple_inj hy hq]; exact hx⟩, ⟨⟨x', ?_⟩, hit'.1.at fun o q => (sb.2 it (Ne.symm hne)).trans q, hne⟩, fun b hb => ?_⟩
    · have e1 : ((i + 1 : Nat) : Int) = (i : Int) + 1 := by omega
      rw [e1]
      exact he'
    · have hb' : b < s.heap.objs.size := by
        rcases List.mem_cons.mp hb with z | hb
        · rw [z]
          exact hel
        · rw [List.mem_singleton.mp hb]
          exact hil
      rw [upd_ne (Nat.ne_of_lt hb')]
      exact (hf b hb).1
  done := by
    intro X hP hw hK hc i pins s σ H E I hf st hg
    subst hP hw hK
    obtain ⟨⟨old, he⟩, hit, hne⟩ := st
    obtain ⟨xs, hq, hx⟩ := hg
    obtain ⟨its, rv, p, hz⟩ := I.tuple hq
    obtain ⟨f0, f1, f2, f3, f4, f5⟩ := hf it (by simp)
    have hl := rv.length
    exact next_enumT (I.ok.hd hc) he hit p (by simp; omega) fun h' eb => ⟨rfl, I.turned (t' := s.toks) (fun b o hb q => eb b o hb q) f0 f1 f3 f4 f5⟩
  self := fun A i s Q E st h => let ⟨⟨_, he⟩, _⟩ := st; wpAny_pyIter_enum he h
def iEnumT (K : PySem.W.Frag) (ta : TA) : TI := fun σ H R => ta σ H fun vs H1 => ∃ a xs, vs = [.ref a] ∧ SqT K H1 a xs ∧ R (IteT K a) H1
theorem pi_enumT {X : Cx} {e : Expr} {ta : TA} {p pos tpos : Pos} {elts : List Expr} {kk : Nat} (hg : Gl X "enumerate") (hm : X.mg "enumerate" = none) (ha : PA X [e] ta) (hs : starEach [e] X.env = [(false, eval e X.env)] := by rfl) :
    PI X (.Tuple elts kk tpos) (.Call (.Name "enumerate" p) [e] [] pos) (iEnumT X.K ta) := by
  refine ⟨fun pins s σ H R I h => ?_⟩
  refine Call_ (ld_blt I hg hm boot_enumerate (PyProof.Rows.callWith_type1 (thn (ha.run pos pins s σ H _ I h) fun us s1 ⟨vs, H1, I1, r1, q1⟩ => ?_) hs rfl))
  obtain ⟨a, xs, rfl, hq, q⟩ := q1
  cases r1 with
  | cons r rr =>
    cases rr
    cases r
    obtain ⟨its, rv, p', hz⟩ := I1.tuple hq
    have p0 : s1.heap.IsTuple a its.toArray := p'
    obtain ⟨o0, ho0, _⟩ := id p0
    have hlt := Heap.lt_size ho0
    refine call_enumT p0 fun h' he hit hsz hk => wpAny_pyIter_enum he ?_
    have I2 : Inv X pins σ H1 { s1 with heap := h' } := I1.kept (t' := s1.toks) hk
    refine ⟨s1.heap.objs.size + 1, [s1.heap.objs.size + 1, s1.heap.objs.size], _, _, H1, rfl, I2, turn_enumT a (s1.heap.objs.size + 1) s1.heap.objs.size its.toArray (Nat.ne_of_lt hlt) (Nat.ne_of_lt (Nat.lt_succ_of_lt hlt)), ⟨⟨.none, he⟩, hit, Nat.succ_ne_self _⟩, fun b hb => ?_, q⟩
    have hle : s1.heap.objs.size ≤ b := by
      rcases List.mem_cons.mp hb with z | hb
      · rw [z]
        exact Nat.le_add_right _ _
      · rw [List.mem_singleton.mp hb]
        exact Nat.le_refl _
    exact I1.fpOk hle (I1.hok.fresh hle)
theorem walk_enumT {K : PySem.W.Frag} {a : Addr} {xs : List V} : Walk (IteT K a) xs.length (fun H => SqT K H a xs) (YPair (fun i => some (.int (i : Nat))) (fun i => xs[i]?)) := by
  refine ⟨fun i _ hi q => ⟨xs, xs[i], q, by simp [hi]⟩, fun _ q => ⟨xs, q, Nat.le_refl _⟩, fun i H v H' _ q y => ?_⟩
  obtain ⟨T, x, h1, h2, h3, h4⟩ := y
  exact ⟨T, .int (i : Nat), x, h1, h2, h3, rfl, h4 xs q⟩
end Fb

set_option Elab.async false
set_option linter.all false
set_option maxRecDepth 100000
set_option maxHeartbeats 4000000
namespace K1
open PySem PySem.Spec PyProof.Rows L2 Fb
abbrev sCheckParts : Stmt := top 17
def flOf (x : Str) : List Str := (tbl.lookup x).getD []
/-- an error of these values is raised -/
def Raises (C : Str → Addr) (H : Hp) (E : XK) (e : Str × List V) : Prop := ∀ (d : Addr) (H' : Hp), Same H H' → H d = none → H' d = some (.xd (flds e.1 (flOf e.1) e.2)) → E (.ref (C e.1)) (some d) H'
theorem Raises.same {C : Str → Addr} {H H1 : Hp} {E : XK} {e : Str × List V} (r : Raises C H E e) (s : Same H H1) : Raises C H1 E e := fun d H' s2 hd hx => r d H' (s.trans s2) (s.free hd) hx
section
variable {P : Program} {w : World} {K : PySem.W.Frag} {mg : Str → Option Value} {base : Heap} {C : Str → Addr}
abbrev NCheck : List Str := ["parts", "ahead", "at", "name", "signs"]
theorem scCheckParts : FnScope NCheck ["parts"] (defScope sCheckParts) := ⟨rfl, rfl, rfl, by decide +kernel, rfl, by decide +kernel, by decide +kernel⟩
def spCheck (K : PySem.W.Frag) (C : Str → Addr) : Sp := fun vs H Q E => ∃ (p : Addr) (ps : List (Str × Str)), vs = [.ref p] ∧ PartsT K H p ps ∧ Small ps ∧ (head ps = none → ∀ H', Same H H' → Q .non H') ∧ (∀ e, head ps = some e → Raises C H E e)
theorem ok_check_parts {f : Addr} {fd : FuncData} {t1 : Tok} (F : Fun K "_check_parts" "_check_parts" sCheckParts f fd) (T : Tab P w K mg base C) (RN : Rd P w K mg base CX0 1 "is_name" ["text"] (spTold isName)) (RS : Rd P w K mg base CX0 1 "_are_signs" ["signs"] (spTold areSigns)) (ml : mg "len" = none) (me : mg "enumerate" = none) (g1 : mg "MOST_PARTS" = some (.int 4 t1)) :
    FnOk P w K mg base (L2.CX P w) 3 f fd ["parts"] (spCheck K C) := by
  refine F.okX scCheckParts (fun vs H Q E h => ?_) (fun cdv A outer s H vs Q E hr h => ?_)
  · obtain ⟨p, ps, rfl, _⟩ := h
    rfl
  obtain ⟨p, ps, rfl, ⟨ts, hp, hps⟩, ⟨hs1, hs2⟩, q1, q2⟩ := h
  have hr1 := hr.mono (by decide : 1 ≤ 2)
  refine ⟨_, pss_cons (ps_if (pt_cmpR op_gt (pe_callB call_len_seq rfl ml PySem.boot_len (pa_cons (pv 0) pa_nil)) (pe_glob (v := .int 4) rfl g1 ⟨_, rfl⟩) (nomark _)) (pss_one (ps_raise rfl (takes_of rfl rfl rfl rfl) (pmk_cl2 T.cTooMany hr rfl pass0 (pa_cons pe_str (pa_cons (pe_callB call_len_seq rfl ml PySem.boot_len (pa_cons (pv 0) pa_nil)) pa_nil))))) pss_nil)
    (pss_cons (ps_if (pt_not (pt_truth (pv 0) (by intro _; rfl))) (pss_one (ps_raise rfl (takes_of rfl rfl rfl rfl) (pmk_cl1 T.cBadLetters hr rfl pass0 (pa_cons (pe_un un_neg pe_int) pa_nil)))) pss_nil)
    (pss_cons (ps_set (i := 1) scCheckParts.nd rfl (Or.inl rfl) (pe_lst pa_nil))
    (pss_one (ps_for (passes_of rfl) rfl (pi_enumT rfl me (pa_cons (pv 0) pa_nil)) (pg_tup rfl (pgs_cons (pg_name (i := 2) scCheckParts.nd rfl (Or.inl rfl)) (pgs_cons (pg_tup rfl (pgs_cons (pg_name (i := 3) scCheckParts.nd rfl (Or.inl rfl)) (pgs_cons (pg_name (i := 4) scCheckParts.nd rfl (Or.inl rfl)) pgs_nil))) pgs_nil)))
      (pss_cons (ps_if (PW.pt (pw_or (pt_not (pt_val (pe_rd RN hr1 rfl pass0 (pa_cons (pv 3) pa_nil)))) (pw_or (pt_cmpR op_in_seq (pv 3) (pv 1) rfl) (pw_or1 (pt_not (pt_val (pe_rd RS hr1 rfl pass0 (pa_cons (pv 4) pa_nil))))))))
          (pss_one (ps_raise rfl (takes_of rfl rfl rfl rfl) (pmk_cl1 T.cBadLetters hr rfl pass0 (pa_cons (pv 2) pa_nil)))) pss_nil)
      (pss_one (ps_expr (pe_bm PySem.F.plainAttrs_list PySem.F.slot_list_append PySem.F.type_list_append mt_append (pv 1) (pa_cons (pv 3) pa_nil))))))))), ?_⟩
  have hz2 : sizeLine = 16777216 := sizeLine_eq
  have hlen := hps.len
  have hL : (ts.map V.ref).length = ps.length := by rw [List.length_map, hlen]
  refine ⟨_, rfl, p, _, rfl, .inr hp, _, _, rfl, rfl, _, rfl, ?_⟩
  rw [hL]
  refine ite2 (fun c => ?_) (fun c => ?_)
  · have c4 : 4 < ps.length := by
      have c2 : (4 : Int) < (ps.length : Int) := of_decide_eq_true c
      omega
    have hh : head ps = some (eParts ps.length) := if_pos c4
    refine ⟨_, rfl, p, _, rfl, .inr hp, rfl, rai_sp ⟨rfl, fun y hy => ?_, fun d H' s' hd hx => q2 _ hh d H' s' hd ?_⟩⟩
    · have hy2 : y = .str "parts" ∨ y = .int ((ts.map V.ref).length : Nat) := by simpa using hy
      rcases hy2 with rfl | rfl
      · exact fm_str (by decide +kernel) (by decide +kernel)
      · rw [hL]
        exact fm_int (by omega) (by omega)
    · rw [hL] at hx
      exact hx
  have n4 : ¬ 4 < ps.length := fun h => c (decide_eq_true (by show (4 : Int) < (ps.length : Int); omega))
  refine ⟨_, rfl, _, .inr (.inl ⟨_, hp, rfl⟩), ?_⟩
  by_cases hnil : ps = []
  · have hts : ts = [] := List.eq_nil_of_length_eq_zero (by rw [hlen, hnil]; rfl)
    have hh : head ps = some eNone := (if_neg n4).trans (if_pos hnil)
    rw [hts]
    refine iteT ⟨_, rfl, rfl, rai_sp ⟨rfl, fun y hy => ?_, fun d H' s' hd hx => q2 _ hh d H' s' hd hx⟩⟩
    obtain rfl : y = .int (-1) := by simpa using hy
    exact fm_int (by decide) (by decide)
  have hts : (ts.map V.ref).isEmpty = false := by
    cases ts with
    | nil => exact absurd (List.eq_nil_of_length_eq_zero hlen.symm) hnil
    | cons _ _ => rfl
  have hhead : head ps = (badAt ps).map ePart := (if_neg n4).trans (if_neg hnil)
  rw [hts]
  refine iteF ⟨(by show 0 ≤ sizeLine; decide), fun m hm => ?_⟩
  refine ⟨_, rfl, p, _, rfl, Same.seqT (same_new hm _) hp, for_it walk_enumT (fun i σ Hi => Same H Hi ∧ H m = none ∧ Hi m = some (.lst (((ps.take i).map (·.1)).map V.str)) ∧ (∀ j < i, badK ps j = false) ∧ ∃ v2 v3 v4 : Option V, σ = [some (.ref p), some (.ref m), v2, v3, v4])
    ⟨same_new hm _, hm, by rw [List.take_zero]; exact upd_same, fun j hj => absurd hj (Nat.not_lt_zero j), _, _, _, rfl⟩ (fun i σ Hi _ h => Same.seqT h.1 hp) ?_ ?_⟩
  · rintro i x σ Hi Hj hi ⟨si, hmn, hmi, hno, v2, v3, v4, rfl⟩ ⟨T0, y1, y2, rfl, hT0, rfl, e1, e2⟩
    obtain rfl : V.int (i : Nat) = y1 := Option.some.inj e1
    obtain ⟨t, ht, rfl⟩ : ∃ t, ts[i]? = some t ∧ V.ref t = y2 := by
      have e2 : (ts.map V.ref)[i]? = some y2 := e2
      rw [List.getElem?_map] at e2
      exact Option.map_eq_some_iff.mp e2
    have s1 : Same H (upd Hi T0 (.tup [.int (i : Nat), .ref t])) := si.trans (same_new hT0 _)
    obtain ⟨r, hr2, hrt⟩ := (hps.same s1).get ht
    obtain ⟨n1, n2⟩ := hs2 r (List.mem_of_getElem? hr2)
    have hi2 : i < ps.length := (List.getElem?_eq_some_iff.mp hr2).1
    have hmT : m ≠ T0 := ne_of_none hmi hT0
    have hm1 : upd Hi T0 (.tup [.int (i : Nat), .ref t]) m = some (.lst (((ps.take i).map (·.1)).map V.str)) := (upd_ne hmT).trans hmi
    refine ⟨T0, _, rfl, SqT.of upd_same, rfl, _, _, rfl, _, _, rfl, t, _, rfl, hrt, rfl, _, _, rfl, _, _, rfl, rfl, rfl, ?_⟩
    have hahead : ((ps.take i).map (·.1)).length < sizeLine := by
      rw [List.length_map, List.length_take]
      omega
    generalize hnames : (ps.take i).map (·.1) = ahead at hm1 hmi hahead
    have hb : badK ps i = badPart ahead r := by rw [badK_at hr2, hnames]
    generalize upd Hi T0 (.tup [.int (i : Nat), .ref t]) = H1 at s1 hm1 hrt
    have bad : badPart ahead r = true → ∀ H3, Same H1 H3 → Raises C H3 E (ePart i) := fun h H3 s3 => by
      rw [h] at hb
      have e : head ps = some (ePart i) := by rw [hhead, badAt_some hi2 hb hno]; rfl
      exact (q2 _ e).same (s1.trans s3)
    have fmi : ∀ {H3 : Hp}, ∀ y ∈ [V.int (i : Nat)], Fm K H3 y := fun y hy => by
      obtain rfl : y = .int (i : Nat) := by simpa using hy
      exact fm_int (by omega) (by omega)
    refine ⟨_, rfl, r.1, rfl, by omega, fun H2 s2 => ⟨_, rfl, ?_⟩⟩
    refine ite2 (fun c1 => ?_) (fun c1 => ?_)
    · have hbad : badPart ahead r = true := by
        unfold badPart
        rw [c1, Bool.true_or]
      exact ⟨_, rfl, rfl, rai_sp ⟨rfl, fmi, fun d H' s' hd hx => bad hbad _ s2 d H' s' hd hx⟩⟩
    have hm2 := s2 _ _ hm1
    refine ⟨_, rfl, _, rfl, m, _, rfl, .inl (SqL.of hm2), rfl, Fb.flat_strs ahead, _, rfl, ?_⟩
    refine ite2 (fun c2 => ?_) (fun c2 => ?_)
    · have hbad : badPart ahead r = true := by
        have c3 : inV (.str r.1) (ahead.map V.str) = true := c2
        rw [inV_strs] at c3
        unfold badPart
        rw [c3, Bool.true_or, Bool.or_true]
      exact ⟨_, rfl, rfl, rai_sp ⟨rfl, fmi, fun d H' s' hd hx => bad hbad _ s2 d H' s' hd hx⟩⟩
    refine ⟨_, rfl, r.2, rfl, by omega, fun H3 s3 => ⟨_, rfl, ?_⟩⟩
    refine ite2 (fun c3 => ?_) (fun c3 => ?_)
    · have hbad : badPart ahead r = true := by
        unfold badPart
        rw [c3, Bool.or_true, Bool.or_true]
      exact ⟨_, rfl, rfl, rai_sp ⟨rfl, fmi, fun d H' s' hd hx => bad hbad _ (s2.trans s3) d H' s' hd hx⟩⟩
    have hm3 := s3 _ _ hm2
    refine ⟨_, rfl, .inl ⟨rfl, _, SqL.of hm3⟩, _, rfl, m, _, _, rfl, rfl, hm3, ?_, ?_⟩
    · rw [List.length_map]
      exact hahead
    · have st : Same H H3 := s1.trans (s2.trans s3)
      refine ⟨fun a o e => (upd_ne (ne_of_none e hmn)).trans (st _ _ e), hmn, ?_, fun j hj => ?_, _, _, _, rfl⟩
      · have e : ps.take (i + 1) = ps.take i ++ [r] := by rw [List.take_succ, hr2]; rfl
        rw [e, List.map_append, hnames, List.map_append]
        exact upd_same
      · by_cases hji : j = i
        · rw [hji, hb]
          unfold badPart
          have c2' : decide (r.1 ∈ ahead) = false := by
            rw [← inV_strs]
            cases hc : inV (.str r.1) (ahead.map V.str) with
            | false => rfl
            | true => exact absurd hc c2
          rw [c2']
          cases h1 : isName r.1 with
          | false => exact absurd (by rw [h1]; rfl) c1
          | true =>
            cases h3 : areSigns r.2 with
            | false => exact absurd (by rw [h3]; rfl) c3
            | true => rfl
        · exact hno j (by omega)
  · rintro σ Hi ⟨si, hmn, hmi, hno, v2, v3, v4, rfl⟩
    rw [hL] at hno
    refine q1 ?_ _ si
    rw [hhead, badAt_none hno]
    rfl
end
end K1

set_option Elab.async false
set_option linter.all false
set_option maxRecDepth 100000
set_option maxHeartbeats 4000000
namespace Fb
open PySem PySem.Spec PyProof.Rows L2
/-! ### try: .. except (C, D) as n: .., each error of the body is one of them -/
theorem flyZ_keeps {B h h' : Heap} {l : List Env} {e : Addr} {Z : Obj → Prop} (k : ∀ b o, h.get? b = some o → h'.get? b = some o) (R : HandSPX.FlyingZ B l e Z h) : HandSPX.FlyingZ B l e Z h' := by
  obtain ⟨f1, f2, f3, oe, ws, T, oT, ts, he, hz, hd, h1, hnT, hTe, hT, hdT, h3⟩ := R
  exact ⟨fun b o q => k b o (f1 b o q), f2, f3.of_keeps fun b o q _ => ⟨o, k b o q, rfl⟩, oe, ws, T, oT, ts, k _ _ he, hz, hd, h1, hnT, hTe, k _ _ hT, hdT, h3⟩
def wTry2 (K : PySem.W.Frag) (n : Nat) (c1 c2 : Value) (i : Nat) (ts : TS) (D : Ends) : WX := fun cls d σ H => PySem.W.exmAny K cls [c1, c2] = some true ∧ (σ.length = n → ∀ (a : Addr) (oe : Obj) (vs : Array Value), H a = none → oe.cls = cls → oe.dict = d → oe.data = .fields vs →
  ts { nx := fun σ' H' => D.nx (σ'.set i none) H', rt := D.rt, bk := fun σ' H' => D.bk (σ'.set i none) H', ct := fun σ' H' => D.ct (σ'.set i none) H' } (σ.set i (some (.ref a))) (upd H a (exk a oe)))
section
variable {X : Cx} {body : List Stmt} {pos np1 np2 tpos pos' : Pos} {x1 x2 n : Str} {c1 c2 : Value} {i kk : Nat} {ts : TS} {b₀ : Stmt} {suite : List Stmt} {tb : WX → TS} {Wout : WX}
theorem ps_try2 (hs : X.stack = X.env :: X.outer) (hf : X.env.frame = some X.env.locals) (hN : X.N.Nodup) (hex : X.ex = []) (tk : Takes X Wout)
    (hb : ∀ (W : WX) (pn : List (Addr × Obj)) (xe : Value → Shared → Prop), Takes (X.tr pn xe) W → PassesOwn (model X.prog X.w) X.A X.env xe → PSs (X.tr pn xe) body (tb W))
    (hi : X.N[i]? = some n) (hln : X.env.kindOf n = some .local) (hc1 : Names X x1 c1) (hc2 : Names X x2 c2) (hsu : ∀ (a : Addr) (pn : List (Addr × Obj)), PSs (hot X a pn) (b₀ :: suite) ts) :
    PS X (.Try body [.ExceptHandler (some (.Tuple [.Name x1 np1, .Name x2 np2] kk tpos)) (some n) (b₀ :: suite) pos'] [] [] pos) (fun D σ H => tb (wTry2 X.K X.N.length c1 c2 i ts D) D σ H) := by
  refine ⟨fun pins s σ H D I h => ?_⟩
  have ok := I.ok
  have hfr : X.A.frames = some (X.env :: X.outer) := by rw [ok.frames, hs]
  have through : ∀ (f : Flow) (s1 : Shared), SP (X.tr (X.pn ++ pins) fun e s₁ => wpAny (model X.prog X.w) X.A (noteFrame e X.env) (fun _ s₂ => wpAny (model X.prog X.w) X.A (setFlight e none) (fun _ s₃ => wpAny (model X.prog X.w) X.A (handleBy e X.env [.ExceptHandler (some (.Tuple [.Name x1 np1, .Name x2 np2] kk tpos)) (some n) (b₀ :: suite) pos']) (SP X pins D) X.xe s₃) X.xe s₂) X.xe s₁) [] D f s1 → SP X pins D f s1 := fun f s1 hsp => by
    cases f with
    | next => exact let ⟨σ', H', J', q⟩ := hsp; ⟨σ', H', J'.ofTry ok, q⟩
    | brk => exact let ⟨σ', H', J', q⟩ := hsp; ⟨σ', H', J'.ofTry ok, q⟩
    | cont => exact let ⟨σ', H', J', q⟩ := hsp; ⟨σ', H', J'.ofTry ok, q⟩
    | ret u => exact let ⟨v, σ', H', J', r, q⟩ := hsp; ⟨v, σ', H', J'.ofTry ok, r, q⟩
  refine wpAny_Try_except (wpAny_mono ((hb (wTry2 X.K X.N.length c1 c2 i ts D) (X.pn ++ pins) _ (fun u s' xx => ?_) PassesOwn.looking).run [] s σ H D (I.toTry _) h) (fun f s1 hsp => ?_) (fun e s1 he => he))
  · obtain ⟨a, B, sI, pins', σ', H', cls, d, rfl, J', nb, up, sky, na, os, ag, w⟩ := xx
    have J : Inv X pins σ' H' sI := J'.ofTry ok
    have sky' : Sky B (X.env :: X.outer) a (Zc cls d) X.env.locals s'.heap := by rw [← hs]; exact sky
    show wpAny (model X.prog X.w) X.A (noteFrame (.ref a) X.env) _ _ _
    refine Sky.land Zc.steady hfr hf sky' fun h3 fl3 up3 => ?_
    have J3 : Inv X pins σ' H' { s' with heap := h3 } := J.landed nb fl3.1 (up.trans up3) os ag
    obtain ⟨oe3, vs3, he3, hz3, hd3⟩ := fl3.there
    have nfr : a ∉ frs (X.env :: X.outer) := fun hm => by
      obtain ⟨_, o', e', hnf⟩ := fl3.2.2.1.mem hm
      rw [he3] at e'
      cases e'
      exact hnf _ hd3
    have nL : a ≠ X.env.locals := fun z => nfr (List.mem_filterMap.mpr ⟨X.env, List.mem_cons_self, by rw [hf, z]⟩)
    have nst : a ∉ frs X.stack := by rw [hs]; exact nfr
    -- the error is new: nothing stood at its place
    have noSI : sI.heap.get? a = none := by
      cases e : sI.heap.get? a with
      | none => rfl
      | some o =>
        have z := nb a o e nst
        rw [fl3.2.1] at z
        cases z
    have n0 : X.s_0.heap.get? a = none := by
      cases e : X.s_0.heap.get? a with
      | none => rfl
      | some o =>
        obtain ⟨o', z⟩ := J.base.there a o e (by rw [hex]; simp)
        rw [noSI] at z
        cases z
    have npn : ∀ p ∈ X.pn ++ pins, p.1 ≠ a := fun p hp z => by
      have e := (J.pin p hp).1
      rw [z, noSI] at e
      cases e
    have nF : a ∉ X.fs := fun hm => by
      obtain ⟨e, he, q⟩ := List.mem_filterMap.mp hm
      exact nfr (List.mem_filterMap.mpr ⟨e, List.mem_cons_of_mem _ he, q⟩)
    have S3 := J3.suite he3 hd3 na nL nF
    obtain ⟨hb1, hyes⟩ := w
    refine wpAny_handleBy_cons (codeAny_handlers_test ?_) (by intro q; cases q)
    have LT : PySem.W.Looks (model X.prog X.w) h3 (typeOf (.ref a)) cls := fun A Q E s k q => wpAny_typeOf_ref (k _ _ he3) (by rw [hz3.1]; exact q)
    have test : ∀ {x : Str} {c : Value} {np : Pos}, Names X x c → ∀ {Q : Value → Shared → Prop} {E : Value → Shared → Prop}, Q c { s' with heap := h3 } → wpAny (model X.prog X.w) (X.A.mark (some (.ref a))) (eval (.Name x np) X.env) Q E { s' with heap := h3 } := fun {x c np} hc {Q E} q => by
      obtain ⟨hg, hdbg, hm | ⟨hm, hv, hnn⟩⟩ := hc
      · exact ld_glob (X := X.suite a ((a, oe3) :: (X.pn ++ pins))) S3 hg hm q hdbg
      · exact ld_blt (X := X.suite a ((a, oe3) :: (X.pn ++ pins))) S3 hg hm hv q hnn hdbg
    refine wpAny_Tuple (PySem.wpAny_items_cons (test hc1 (PySem.wpAny_items_cons (test hc2 (PySem.wpAny_items_nil ⟨by size_fits, ?_⟩)))))
    have kp : ∀ q o, h3.get? q = some o → (h3.push { cls := .type "tuple", data := .seq [c1, c2].toArray }).get? q = some o := fun _ _ z => Heap.get?_push_of_some _ z
    have flT := flyZ_keeps kp fl3
    have upT : h3.UpToSlots (h3.push { cls := .type "tuple", data := .seq [c1, c2].toArray }) := Heap.UpToSlots.of_keeps kp
    refine (PySem.W.exm_tup2 (M := model X.prog X.w) (J3.kIn.keeps kp) (LT.keeps kp) (Heap.get?_push_size h3 rfl) hb1).here ?_
    refine codeAny_handlers_suite_as (HandSPX.lands_againZ flT fun h4 fl4 up4 => ?_)
    have J4 : Inv X pins σ' H' { s' with heap := h4 } := J.landed nb fl4.1 ((up.trans (up3.trans upT)).trans up4) os ag
    obtain ⟨oe4, vs4, he4, hz4, hd4⟩ := fl4.there
    have T4 : Inv X pins σ' (upd H' a (exk a oe4)) { s' with heap := h4 } := Inv.track J4 he4 hd4 na nL n0 npn
    have S4 : Inv (hot X a (X.pn ++ pins)) [] σ' (upd H' a (exk a oe4)) { s' with heap := h4 } :=
      ⟨ok.suite _ _, T4.os, T4.bare, T4.base, T4.loc, T4.cell, T4.free, T4.freeC, fun p hp => T4.pin p (by rw [List.append_nil] at hp; exact hp), T4.hok, T4.len⟩
    refine store_ok (X := hot X a (X.pn ++ pins)) (v := .ref a) S4 hN hi (.inl hln) rfl (fun s5 S5 => ?_) (.inr hln)
    refine wpAny_mono ((hsu a (X.pn ++ pins)).run [] s5 _ _ _ S5 (hyes J.len a oe4 vs4 na hz4.1 hz4.2 hd4)) (fun f s6 hsp => ?_) (fun _ _ z => False.elim z)
    have back : ∀ {σ6 : L2.St} {H6 : Hp}, Inv (hot X a (X.pn ++ pins)) [] σ6 H6 s6 → Inv X pins σ6 H6 s6 := fun S6 => ⟨ok, S6.os, S6.bare, S6.base, S6.loc, S6.cell, S6.free, S6.freeC, fun p hp => S6.pin p (by rw [List.append_nil]; exact hp), S6.hok, S6.len⟩
    have end_ : ∀ {σ6 : L2.St} {H6 : Hp} {Q : Shared → Prop}, Inv (hot X a (X.pn ++ pins)) [] σ6 H6 s6 → (∀ s7, Inv X pins (σ6.set i none) H6 s7 → Q s7) →
        wpAny (model X.prog X.w) X.A (do bindName X.env n .none; unbindBehindTheSuite X.env n pos') (fun _ s7 => Q s7) X.xe s6 := fun S6 hq => gone_ok (back S6) hN hi hln hq
    cases f with
    | next =>
      obtain ⟨σ6, H6, S6, q6⟩ := hsp
      exact end_ S6 fun s7 J7 => ⟨_, _, J7, q6⟩
    | brk =>
      obtain ⟨σ6, H6, S6, q6⟩ := hsp
      exact end_ S6 fun s7 J7 => ⟨_, _, J7, q6⟩
    | cont =>
      obtain ⟨σ6, H6, S6, q6⟩ := hsp
      exact end_ S6 fun s7 J7 => ⟨_, _, J7, q6⟩
    | ret u =>
      obtain ⟨v6, σ6, H6, S6, r6, q6⟩ := hsp
      exact end_ S6 fun s7 J7 => ⟨_, _, _, J7, r6, q6⟩
  · have z := through f s1 hsp
    cases f with
    | next => exact wpAny_execs_nil z
    | brk => exact z
    | cont => exact z
    | ret u => exact z
end
end Fb

set_option Elab.async false
set_option linter.all false
set_option maxRecDepth 100000
set_option maxHeartbeats 4000000
/-! methods called by keywords; C( *xs) and C() of a class whose __init__ has a star parameter -/
namespace Fb
open PySem PySem.Spec PyProof.Rows L2
/-- o.m(k = v, ..) -/
def tMethK (C : Addr) (m : Str) (sp : Sp) (gV : List V → List V → List V) (E : XK) (ta : TE) (tk : TA) : TE := fun σ H Q => ta σ H fun x H1 => ∃ a dx fs, x = .ref a ∧ H1 a = some (.ins C dx fs) ∧ fs.lookup m = none ∧ tk σ H1 fun zs H2 => sp (gV [x] zs) H2 Q E
section
variable {X : Cx} {CX : CXT} {k : Nat} {f C : Addr} {fd : FuncData} {ps ks : List Str} {sp : Sp} {E : XK} {x m : Str} {p sp_ pos apos : Pos} {e o : Expr} {kws : List Keyword} {te ta : TE} {tk : TA} {g : List Value → List Value → List Value} {gV : List V → List V → List V}
theorem pe_methK {pl : Sem Bool} (he : PE X o ta) (c : Cls X.K C) (hm : Meth X.K C m f) (F : FnOk X.prog X.w X.K X.mg X.base CX k f fd ps sp) (hr : Room k X.A) (hb : KBinds X.K fd ps ks g gV) (hx : Passes CX X E) (hkw : PK X kws tk)
    (hall : (backToKw pos (keywordEach kws X.env)).all (·.1.isSome) = true := by rfl) (hks : (backToKw pos (keywordEach kws X.env)).filterMap (·.1) = ks := by rfl)
    (hpl : ((backTo pos (starEach [] X.env)).any (·.1) || (backToKw pos (keywordEach kws X.env)).any (·.1.isNone)) = false := by rfl)
    (ht : eval (.Call (.Attribute o m apos) [] kws pos) X.env = (do
      let ov ← eval o X.env
      standAt apos.atName
      let (f, first) ← holding [ov] (getMethod ov m pl)
      callWith pos f first (backTo pos (starEach [] X.env)) (backToKw pos (keywordEach kws X.env))) := by rfl) :
    PE X (.Call (.Attribute o m apos) [] kws pos) (tMethK C m sp gV E ta tk) := by
  refine ⟨fun pins s σ H Q I h => ?_⟩
  refine PySem.W.methodCall_KW (pl := pl) (thn (he.run pins s σ H _ I h) fun u s1 ⟨x, H1, I1, rx, a, dx, fs, ex, ea, l, q⟩ => ?_) ht
  subst ex
  obtain rfl : u = Value.ref a := rx
  refine getmeth_ok I1 ea c hm l ?_
  refine PySem.W.callWith_KW0 (first := [.ref a]) (h₀ := X.base) I1.ok.mod.kin hm.kp hall ?_ hpl
  refine thn (hkw.run pos pins s1 σ H1 _ I1 q) fun ws s2 ⟨zs, H2, I2, rz, q2⟩ => ⟨I2.kIn, ?_⟩
  rw [hks]
  exact run_fnk (us := [.ref a]) (vs := [.ref a]) F hr hb hx I2 (.cons rfl .nil) rz q2
/-- C( *xs) -/
theorem pe_makeS (M : Mk X.K C f) (F : FnR X.prog X.w X.K X.mg X.base CX k f sp) (hr : Room (k + 1) X.A) (hg : Gl X x) (hm : X.mg x = some (.ref C)) (hx : Passes CX X E) (he : PE X e te) (hdb : (x == ("__debug__" : Str)) = false := by decide)
    (hst : starEach [.Starred e sp_] X.env = [(true, eval e X.env)] := by rfl) : PE X (.Call (.Name x p) [.Starred e sp_] [] pos)
      (fun σ H Q => te σ H fun y H1 => ∃ a xs, y = V.ref a ∧ (SqT X.K H1 a xs ∨ SqL X.K H1 a xs) ∧ ∀ x dx, H1 x = none → H1 dx = none → dx ≠ x → sp (V.ref x :: xs) (upd (upd H1 dx (.own x)) x (.ins C dx [])) (fun v H2 => v = .non ∧ Q (.ref x) H2) E) := by
  refine ⟨fun pins s σ H Q I h => ?_⟩
  refine wpAny_Call_Name_kw (ld_glob I hg hm ?_ hdb)
  refine PySem.W.callWith_S (first := []) (h₀ := X.base) I.ok.mod.kin M.kp (thn (he.run pins s σ H _ I h) fun v s1 ⟨y, H1, I1, ry, a, xs, ey, hxs, q⟩ => ?_) hst
  subst ey
  obtain rfl : v = Value.ref a := ry
  exact StX.star_any I1 hxs fun us s2 I2 rv => ⟨I2.kIn, StX.run_makeR M F hr hx I2 rv q⟩
/-- C() -/
theorem pe_makeR0 (M : Mk X.K C f) (F : FnR X.prog X.w X.K X.mg X.base CX k f sp) (hr : Room (k + 1) X.A) (hg : Gl X x) (hm : X.mg x = some (.ref C)) (hx : Passes CX X E) (hdb : (x == ("__debug__" : Str)) = false := by decide) : PE X (.Call (.Name x p) [] [] pos) (StX.tMakeR C sp E tNil) := by
  refine ⟨fun pins s σ H Q I h => ?_⟩
  refine wpAny_Call_Name_kw (ld_glob I hg hm ?_ hdb)
  exact PySem.W.callWith_K0 I.kIn M.kp (StX.run_makeR (us := []) M F hr hx I .nil h)
end
end Fb

set_option Elab.async false
set_option linter.all false
set_option maxRecDepth 100000
set_option maxHeartbeats 4000000
/-! ==, in, len, str, repr of an own class's instance -/
namespace Fb
open PySem PySem.Spec PyProof.Rows L2
section
variable {X : Cx} {CX : CXT} {k : Nat} {f C : Addr} {sp : Sp} {E : XK}
/-- a special method of an own class -/
structure Own (X : Cx) (CX : CXT) (k : Nat) (C : Addr) (m : Str) (sp : Sp) (E : XK) : Prop where
  ex : ∃ f : Addr, FnR X.prog X.w X.K X.mg X.base CX k f sp ∧ PySem.W.findIn X.K (.ref C) m = some (some (.ref f)) ∧ PySem.W.isFn X.K (.ref f) = true
  ps : Passes CX X E
/-- the callee runs somewhere below -/
theorem run_at (F : FnR X.prog X.w X.K X.mg X.base CX k f sp) (hx : Passes CX X E) {A : Around} {pins : List (Addr × Obj)} {σ : L2.St} {H : Hp} {s : Shared} {Q : VK} {us : List Value} {vs : List V} (sb : Sub X k A) (I : Inv X pins σ H s) (r : Vals vs us) (h : sp vs H Q E) :
    wpAny (model X.prog X.w) A (call (.ref f) us) (EP X pins σ Q) X.xe s := by
  have e := I.env0
  refine wpAny_call (codeAny_mono (F A X.stack s H us vs Q E sb.room ⟨by rw [sb.fr]; exact e.frames, e.mod, e.bs, e.bsz, e.funs, e.frf, e.hok, e.bare⟩ r h) fun r s' hq => ?_)
  cases r with
  | error e => exact hx pins σ H s e s' I hq
  | ok fl =>
    cases fl with
    | ret u => exact I.after hq
    | next => exact False.elim hq
    | brk => exact False.elim hq
    | cont => exact False.elim hq
/-- o == y -/
def rEqO (K : PySem.W.Frag) (C : Addr) (sp : Sp) (E : XK) : R2 := fun x y H Q => ∃ a dx fs, x = .ref a ∧ H a = some (.ins C dx fs) ∧ ((∃ z, y = .str z) ∨ (∃ b xs, y = .ref b ∧ SqL K H b xs) ∨ ∃ b dy gs, y = .ref b ∧ H b = some (.ins C dy gs)) ∧ sp [x, y] H (fun v H' => ∃ c, v = .bl c ∧ Q (.bl c) H') E
theorem op_eqO (O : Own X CX k C "__eq__" sp E) (hr : Room k X.A) (nS : PySem.W.notFirst X.K C (.type "str") = true) (nL : PySem.W.notFirst X.K C (.type "list") = true) : OpR X (compareOp .Eq) (rEqO X.K C sp E) := by
  obtain ⟨⟨f, F, hs, hf⟩, hx⟩ := O
  intro pins s σ H x y v u Q I rx ry h
  obtain ⟨a, dx, fs, rfl, ha, hy, h⟩ := h
  obtain rfl := rx
  obtain ⟨mA, J, _⟩ := ins_get I.hok ha
  obtain ⟨od, J, _⟩ := J.look
  obtain ⟨m, hF⟩ := I.fr
  show wpAny (model X.prog X.w) X.A (richCompare .Eq (.ref a) u) (EP X pins σ Q) X.xe s
  have go : ∀ tb, PySem.W.Looks (model X.prog X.w) s.heap (typeOf u) tb → PySem.W.notFirst X.K C tb = true → wpAny (model X.prog X.w) X.A (richCompare .Eq (.ref a) u) (EP X pins σ Q) X.xe s := fun tb lk nf => by
    refine PySem.W.cmp_K (op := .Eq) (tb := tb) hr.units0 hF I.ok.mod.kin J lk nf hs hf ?_
    refine wpAny_mono (run_at (vs := [V.ref a, y]) F hx ⟨hr, rfl⟩ I (.cons rfl (.cons ry .nil)) h) (fun r s' hq => ?_) fun _ _ z => z
    obtain ⟨z, H', I', rz, c, rfl, q⟩ := hq
    obtain rfl := rz
    exact ⟨.bl c, H', I', rfl, q⟩
  rcases hy with ⟨z, rfl⟩ | ⟨b, xs, rfl, hb⟩ | ⟨b, dy, gs, rfl, hb⟩
  · obtain ⟨t, rfl⟩ := ry
    exact go (.type "str") (PySem.W.Looks.of_pure rfl) nS
  · obtain rfl := ry
    obtain ⟨its, r, pl, hz⟩ := I.list hb
    obtain ⟨o, ho, hc, n, hd⟩ := pl.isList
    refine go (.type "list") (fun A Q E s k q => wpAny_typeOf (T := "list") ⟨o, k _ _ ho, hc⟩ q) nL
  · obtain rfl := ry
    obtain ⟨mB, J2, _⟩ := ins_get I.hok hb
    obtain ⟨od2, J2, _⟩ := J2.look
    exact go (.ref C) J2.type (by simp [PySem.W.notFirst])
/-- x in o -/
def rInO (C : Addr) (sp : Sp) (E : XK) : R2 := fun x y H Q => ∃ a dx fs, y = .ref a ∧ H a = some (.ins C dx fs) ∧ sp [y, x] H (fun v H' => ∃ c, v = .bl c ∧ Q (.bl c) H') E
theorem op_inO (O : Own X CX k C "__contains__" sp E) (hr : Room k X.A) : OpR X (compareOp .In) (rInO C sp E) := by
  obtain ⟨⟨f, F, hs, hf⟩, hx⟩ := O
  intro pins s σ H x y v u Q I rx ry h
  obtain ⟨a, dx, fs, rfl, ha, h⟩ := h
  obtain rfl := ry
  obtain ⟨mA, J, _⟩ := ins_get I.hok ha
  obtain ⟨od, J, _⟩ := J.look
  obtain ⟨m, hF⟩ := I.fr
  refine PySem.W.in_K hF I.ok.mod.kin J hs hf ?_
  refine wpAny_mono (run_at (vs := [V.ref a, x]) F hx ⟨hr, rfl⟩ I (.cons rfl (.cons rx .nil)) h) (fun r s' hq => ?_) fun _ _ z => z
  obtain ⟨z, H', I', rz, c, rfl, q⟩ := hq
  obtain rfl := rz
  exact wpAny_truthy_bool ⟨.bl c, H', I', rfl, q⟩
/-- len(o) -/
theorem call_lenO (O : Own X CX k C "__len__" sp E) (hr : Room (k + 1) X.A) : CallR X (.builtin "len") (fun xs H Q => ∃ a dx fs, xs = [.ref a] ∧ H a = some (.ins C dx fs) ∧ sp xs H (fun v H' => ∃ n : Int, v = .int n ∧ 0 ≤ n ∧ n < 2 ^ 63 ∧ Q (.int n) H') E) := by
  obtain ⟨⟨f, F, hs, hf⟩, hx⟩ := O
  intro pins s σ H xs us Q I r h
  obtain ⟨a, dx, fs, rfl, ha, h⟩ := h
  obtain ⟨u, rfl, rx⟩ := vals1 r
  obtain rfl := rx
  obtain ⟨mA, J, _⟩ := ins_get I.hok ha
  obtain ⟨od, J, _⟩ := J.look
  obtain ⟨m, hF⟩ := I.fr
  refine PySem.W.len_K hF I.ok.mod.kin J hs hf ?_
  have sb : Sub X k X.A.in1 := Sub.in1 ⟨hr, rfl⟩
  refine wpAny_mono (run_at (vs := [V.ref a]) F hx sb I (.cons rfl .nil) h) (fun r s' hq => ?_) fun _ _ z => z
  obtain ⟨z, H', I', rz, n, rfl, h0, h1, q⟩ := hq
  obtain ⟨t, rfl⟩ := rz
  exact ⟨⟨h0, h1⟩, .int n, H', I'.tok _, ⟨_, rfl⟩, q⟩
/-- repr(o), str(o) -/
def rTxtO (C : Addr) (sp : Sp) (E : XK) : List V → Hp → VK → Prop := fun xs H Q => ∃ a dx fs, xs = [.ref a] ∧ H a = some (.ins C dx fs) ∧ sp xs H (fun v H' => ∃ z : Str, v = .str z ∧ Q (.str z) H') E
theorem call_reprO (O : Own X CX k C "__repr__" sp E) (hr : Room (k + 1) X.A) : CallR X (.builtin "repr") (rTxtO C sp E) := by
  obtain ⟨⟨f, F, hs, hf⟩, hx⟩ := O
  intro pins s σ H xs us Q I r h
  obtain ⟨a, dx, fs, rfl, ha, h⟩ := h
  obtain ⟨u, rfl, rx⟩ := vals1 r
  obtain rfl := rx
  obtain ⟨mA, J, _⟩ := ins_get I.hok ha
  obtain ⟨od, J, _⟩ := J.look
  obtain ⟨m, hF⟩ := I.fr
  have sb : Sub X k X.A.in1 := Sub.in1 ⟨hr, rfl⟩
  refine PySem.W.repr_K sb.room.units0 hF I.ok.mod.kin J hs hf ?_
  refine wpAny_mono (run_at (vs := [V.ref a]) F hx sb I (.cons rfl .nil) h) (fun r s' hq => ?_) fun _ _ z => z
  obtain ⟨z, H', I', rz, n, rfl, q⟩ := hq
  obtain ⟨t, rfl⟩ := rz
  exact ⟨.str n, H', I', ⟨_, rfl⟩, q⟩
theorem call_strO (O : Own X CX k C "__str__" sp E) (hr : Room (k + 2) X.A) : CallR X (.type "str") (rTxtO C sp E) := by
  obtain ⟨⟨f, F, hs, hf⟩, hx⟩ := O
  intro pins s σ H xs us Q I r h
  obtain ⟨a, dx, fs, rfl, ha, h⟩ := h
  obtain ⟨u, rfl, rx⟩ := vals1 r
  obtain rfl := rx
  obtain ⟨mA, J, _⟩ := ins_get I.hok ha
  obtain ⟨od, J, _⟩ := J.look
  have sb : Sub X k X.A.in1.in1 := Sub.in1 (Sub.in1 ⟨hr, rfl⟩)
  refine PySem.W.kso_call sb.room.units0 I.kIn J hs hf ?_
  refine wpAny_mono (run_at (vs := [V.ref a]) F hx sb I (.cons rfl .nil) h) (fun r s' hq => ?_) fun _ _ z => z
  obtain ⟨z, H', I', rz, n, rfl, q⟩ := hq
  obtain ⟨t, rfl⟩ := rz
  exact ⟨.str n, H', I', ⟨_, rfl⟩, q⟩
end
end Fb

set_option Elab.async false
set_option linter.all false
set_option maxRecDepth 100000
set_option maxHeartbeats 4000000
/-! x(lambda: e) and x(lambda y=1: e), handed to a def that calls it -/
namespace Fb
open PySem PySem.Spec PyProof.Rows L2 LamX
/-- a lambda's names: parameters are no names of the maker, the others are captured or global -/
structure LamG (N : List Str) (sc scope : Scope) : Prop where
  kind : scope.kind = .function
  co : scope.isCoroutine = false
  gen : scope.isGenerator = false
  own : ∀ y ∈ scope.names, y.2 ≠ .cell ∧ (y.2 = .local → y.1 ∉ N)
  free : ∀ y ∈ scope.names, y.2 = .free → sc.names.lookup y.1 = some .cell ∨ sc.names.lookup y.1 = some .free
def lamGB (N : List Str) (sc scope : Scope) : Bool :=
  decide (scope.kind = .function) && (!scope.isCoroutine && (!scope.isGenerator && scope.names.all fun y => !decide (y.2 = .cell) && ((!decide (y.2 = .local) || !decide (y.1 ∈ N)) && (!decide (y.2 = .free) || (decide (sc.names.lookup y.1 = some .cell) || decide (sc.names.lookup y.1 = some .free))))))
theorem lamG_by {N : List Str} {sc scope : Scope} (h : lamGB N sc scope = true) : LamG N sc scope := by
  unfold lamGB at h
  simp only [Bool.and_eq_true, Bool.or_eq_true, Bool.not_eq_true', decide_eq_true_eq, decide_eq_false_iff_not, List.all_eq_true] at h
  obtain ⟨h1, h2, h3, h4⟩ := h
  refine ⟨h1, h2, h3, fun y hy => ⟨(h4 y hy).1, fun e => ?_⟩, fun y hy e => ?_⟩
  · rcases (h4 y hy).2.1 with z | z
    · exact absurd e z
    · exact z
  · rcases (h4 y hy).2.2 with z | z
    · exact absurd e z
    · exact z
theorem LamG.has {X : Cx} {scope : Scope} (L : LamG X.N X.env.scope scope) (ok : X.Ok) : ∀ y ∈ scope.names, y.2 = .free → ∃ c, X.env.cells.lookup y.1 = some c := fun y hy e => by
  rcases L.free y hy e with k | k
  · exact ok.has _ (.inl k)
  · exact ok.has _ (.inr k)
abbrev lamF (q : Str) (params : Arguments) (body : Expr) (scope : Scope) (cl : List (Str × Addr)) (dV doc pm cdv ct : Value) : FuncData := PySem.W.kdv_fn "<lambda>" q params (.expr body) scope cl dV doc pm cdv ct
abbrev lamO (q : Str) (params : Arguments) (body : Expr) (scope : Scope) (cl : List (Str × Addr)) (dV doc pm : Value) (c' : Addr) (ct : Value) : Obj := PySem.W.kdv_obj "<lambda>" q params (.expr body) scope cl dV doc pm c' ct
section
variable {X : Cx} {pins : List (Addr × Obj)} {σ : L2.St} {H : Hp} {s : Shared}
/-- the function object is made, its defaults dV stand -/
theorem lam_tail {T : List (Addr × Str)} {c P : Addr} {params : Arguments} {body : Expr} {scope : Scope} {pos : Pos} {dV : Value} {E : Value → Shared → Prop} {Q : Value → Shared → Prop} (I : Inv X pins σ H s) (TB : TabB X.base X.mg c P) (hcode : X.env.code = .ref c)
    (hm : (P, X.env.qual ++ "<lambda>") ∈ T) (hu : ∀ p ∈ T, p.1 = P → p.2 = X.env.qual ++ "<lambda>") (hT : Tabs T H) (hfree : ∀ y ∈ scope.names, y.2 = .free → ∃ c, X.env.cells.lookup y.1 = some c)
    (h : ∀ (f c' : Addr) (doc pm ctv : Value) (H1 : Hp) (s' : Shared), Inv X pins σ H1 s' → ExtN H H1 → (∀ b, H1 b = none → H b = none) → Tabs T H1 → (∀ b o, H b = none → s.heap.get? b = some o → s'.heap.get? b = some o ∧ H1 b = none) →
      s'.heap.get? f = some (lamO (X.env.qual ++ "<lambda>") params body scope (cloFrom X.env.cells scope.names []) dV doc pm c' ctv) → H1 f = none → f ∉ frs X.stack → H1 c' = some (CodeO c' (X.env.qual ++ "<lambda>")) → Q (.ref f) s') :
    wpAny (model X.prog X.w) X.A (makeTail "<lambda>" (X.env.qual ++ "<lambda>") params (.expr body) scope X.env dV .none none pos pos.line) Q E s := by
  obtain ⟨ps, hP, ht, ha⟩ := hT _ hm
  have bP : s.heap.BuiltinsAt X.mg P := TB.bm.keeps I.bk
  have hP' : s.heap.get? P = some { cls := .none, data := .fields ps } := I.hok P _ hP
  have nofr : ∀ f, s.heap.objs.size ≤ f → f ∉ frs X.stack := fun f hf z => by
    rcases List.mem_cons.mp (I.stkSub _ z) with e | e
    · have h1 := I.lt
      rw [← e] at h1
      exact absurd (Nat.lt_of_lt_of_le h1 hf) (Nat.lt_irrefl _)
    · exact I.nofs hf e
  cases hc : codeAmong pos ps.toList with
  | none =>
    refine PySem.W.kdv_makeTail (mg := X.mg) (c := c) (P := P) (ps := ps) (closure_ok hfree) I.ok.glob (I.mod.glob.keeps I.bk) hcode (TB.code.keeps I.bk) hP' ht hc TB.gP bP fun c' ctv doc h' tk hx hge hlt hrec htb => ?_
    obtain ⟨c2, oc, vs, t, e2, hoc, hd, hv⟩ := hrec
    cases e2
    have hsz : s.heap.objs.size ≤ h'.objs.size := Nat.le_trans hge (Nat.le_of_lt hlt)
    have nC : H c' = none := I.hok.fresh hge
    have I1 := inv_table (t' := tk) (more := #[rawInt pos.line, rawInt pos.col, .ref c']) (h' := h'.push (lamO (X.env.qual ++ "<lambda>") params body scope (cloFrom X.env.cells scope.names []) dV doc ((X.mg "__name__").getD .none) c' ctv)) I hP (fun b o hb e => Heap.get?_push_of_some _ (hx b o hb e)) (Heap.get?_push_of_some _ htb) hge ⟨oc, vs, t, Heap.get?_push_of_some _ hoc, hd, hv⟩
    have hE : ExtN H (upd (upd H P (.tbl (ps ++ #[rawInt pos.line, rawInt pos.col, .ref c']))) c' (CodeO c' (X.env.qual ++ "<lambda>"))) := fun b o e n =>
      (upd_ne (ne_of_none e nC)).trans ((upd_ne fun z => n ps (Option.some.inj (e.symm.trans (by rw [z]; exact hP)))).trans e)
    have eL : (ps ++ #[rawInt pos.line, rawInt pos.col, .ref c']).toList = ps.toList ++ [rawInt pos.line, rawInt pos.col, .ref c'] := by simp
    have nn : ∀ b, upd (upd H P (.tbl (ps ++ #[rawInt pos.line, rawInt pos.col, .ref c']))) c' (CodeO c' (X.env.qual ++ "<lambda>")) b = none → H b = none := fun b e => by
      unfold upd at e
      split at e
      · cases e
      · split at e
        · cases e
        · exact e
    have hPs : P < s.heap.objs.size := Heap.lt_size hP'
    refine h h'.objs.size c' doc ((X.mg "__name__").getD .none) ctv _ _ I1 hE nn (fun p hp => ?_) (fun b o n e => ?_) (Heap.get?_push_size _ rfl) ?_ (nofr _ hsz) upd_same
    · by_cases hb : p.1 = P
      · rw [hu p hp hb, hb]
        refine ⟨_, (upd_ne (ne_of_none hP nC)).trans upd_same, by rw [eL]; exact PySem.TriplesOk_snoc _ _ _ _ ht, fun p' cv hcv => ?_⟩
        rw [eL] at hcv
        rcases among_app _ ht hcv with z | z
        · obtain ⟨c0, e1, e2⟩ := ha p' cv z
          exact ⟨c0, e1, hE _ _ e2 codeO_ne⟩
        · exact ⟨c', z, upd_same⟩
      · obtain ⟨ps', a1, a2, a3⟩ := hT p hp
        refine ⟨ps', (upd_ne (ne_of_none a1 nC)).trans ((upd_ne hb).trans a1), a2, fun p' cv hcv => ?_⟩
        obtain ⟨c0, e1, e2⟩ := a3 p' cv hcv
        exact ⟨c0, e1, hE _ _ e2 codeO_ne⟩
    · have hbP : b ≠ P := fun z => by
        rw [z, hP] at n
        cases n
      have hbc : b ≠ c' := Nat.ne_of_lt (Nat.lt_of_lt_of_le (Heap.lt_size e) hge)
      exact ⟨Heap.get?_push_of_some _ (hx b o hbP e), (upd_ne hbc).trans ((upd_ne hbP).trans n)⟩
    · exact (upd_ne (Nat.ne_of_gt hlt)).trans ((upd_ne (Nat.ne_of_gt (Nat.lt_of_lt_of_le hPs hsz))).trans (I.hok.fresh hsz))
  | some cv =>
    obtain ⟨c', e, hco⟩ := ha pos cv hc
    subst e
    refine PySem.W.kdv_makeTailHit (mg := X.mg) (c := c) (P := P) (ps := ps) (closure_ok hfree) I.ok.glob (I.mod.glob.keeps I.bk) hcode (TB.code.keeps I.bk) hP' ht hc bP fun ctv doc h' tk hx hsz => ?_
    have I1 : Inv X pins σ H { s with heap := h'.push (lamO (X.env.qual ++ "<lambda>") params body scope (cloFrom X.env.cells scope.names []) dV doc ((X.mg "__name__").getD .none) c' ctv), toks := tk } := I.kept fun b o e => Heap.get?_push_of_some _ (hx b o e)
    exact h h'.objs.size c' doc ((X.mg "__name__").getD .none) ctv H _ I1 (ExtN.refl H) (fun _ e => e) hT (fun b o n e => ⟨Heap.get?_push_of_some _ (hx b o e), n⟩) (Heap.get?_push_size _ rfl) (I.hok.fresh hsz) (nofr _ hsz) hco
/-- the lambda is made: what its parameters are bound to is told of all later states -/
theorem lam_mk {T : List (Addr × Str)} {c P : Addr} {params : Arguments} {body : Expr} {scope : Scope} {pos : Pos} {E : Value → Shared → Prop} {Q : Value → Shared → Prop} (I : Inv X pins σ H s) (TB : TabB X.base X.mg c P) (hcode : X.env.code = .ref c)
    (hm : (P, X.env.qual ++ "<lambda>") ∈ T) (hu : ∀ p ∈ T, p.1 = P → p.2 = X.env.qual ++ "<lambda>") (hT : Tabs T H) (hfree : ∀ y ∈ scope.names, y.2 = .free → ∃ c, X.env.cells.lookup y.1 = some c)
    (hd : (defaultsOf params X.env = ([], []) ∧ ∀ (q : Str) (cl : List (Str × Addr)) (doc pm cv ctv : Value), bindArgs (lamF q params body scope cl .none doc pm cv ctv) ⟨[], []⟩ = pure []) ∨
      ∃ (n : Int) (kc : Nat) (cp : Pos) (y : Str), defaultsOf params X.env = ([eval (.Constant (.int n) kc cp) X.env], []) ∧ scope.names.lookup y = some .local ∧ ∀ (q : Str) (cl : List (Str × Addr)) (dT : Addr) (doc pm cv ctv v : Value), ∃ k,
        bindArgs (lamF q params body scope cl (.ref dT) doc pm cv ctv) ⟨[], []⟩ = seqItems? (.ref dT) >>= k ∧ k (some #[v]) = pure [(y, v)])
    (h : ∀ (f c' : Addr) (dV doc pm ctv : Value) (bs : List (Str × Value)) (H1 : Hp) (s' : Shared), Inv X pins σ H1 s' → ExtN H H1 → (∀ b, H1 b = none → H b = none) → Tabs T H1 →
      s'.heap.get? f = some (lamO (X.env.qual ++ "<lambda>") params body scope (cloFrom X.env.cells scope.names []) dV doc pm c' ctv) → H1 f = none → f ∉ frs X.stack → H1 c' = some (CodeO c' (X.env.qual ++ "<lambda>")) → (∀ y ∈ bs, scope.names.lookup y.1 = some .local) →
      (∀ s1 : Shared, (∀ b o, s'.heap.get? b = some o → H1 b = none → b ∉ frs X.stack → s1.heap.get? b = some o) → BindsTo s1 (lamF (X.env.qual ++ "<lambda>") params body scope (cloFrom X.env.cells scope.names []) dV doc pm (.ref c') ctv) ⟨[], []⟩ bs) → Q (.ref f) s') :
    wpAny (model X.prog X.w) X.A (eval (.Lambda params body scope pos) X.env) Q E s := by
  rw [arm_eval_Lambda]
  rcases hd with ⟨hdef, hb⟩ | ⟨n, kc, cp, y, hdef, hy, hb⟩
  · rw [hdef]
    show wpAny _ _ (do let dv ← evalAll []; let kdv ← holding dv (evalAllOpt []); makeFunction "<lambda>" (X.env.qual ++ "<lambda>") params (.expr body) scope X.env dv kdv [] pos pos.line) Q E s
    refine wpAny_bind (wpAny_pure (wpAny_bind (wpAny_holding (wpAny_pure ?_))))
    rw [makeFunction_eq]
    simp only [List.zip_nil_right, List.filterMap_nil, List.isEmpty_nil, if_true, pure_bind]
    refine lam_tail I TB hcode hm hu hT hfree fun f c' doc pm ctv H1 s' I1 eN nn T1 _ hf hfn hfr hco => ?_
    exact h f c' .none doc pm ctv [] H1 s' I1 eN nn T1 hf hfn hfr hco (fun y hy => nomatch hy) fun s1 _ => .of_eq (hb _ _ _ _ _ _)
  · rw [hdef]
    show wpAny _ _ (do let dv ← evalAll [eval (.Constant (.int n) kc cp) X.env]; let kdv ← holding dv (evalAllOpt []); makeFunction "<lambda>" (X.env.qual ++ "<lambda>") params (.expr body) scope X.env dv kdv [] pos pos.line) Q E s
    have he : PE X (.Constant (.int n) kc cp) (tC (.int n)) := pe_int
    refine wpAny_bind (wpAny_evalAll_cons (thn (he.run pins s σ H (fun v H1 => v = .int n ∧ H1 = H) I ⟨rfl, rfl⟩) fun v s1 ⟨y1, H1, I1, r1, e1, e2⟩ => wpAny_evalAll_nil (wpAny_bind (wpAny_holding (wpAny_pure ?_)))))
    subst e1 e2
    rw [makeFunction_eq]
    simp only [List.zip_nil_right, List.filterMap_nil, List.isEmpty_nil, List.isEmpty_cons, if_true, if_false, Bool.false_eq_true, pure_bind]
    refine wpAny_bind (wpAny_newTextTuple ?_)
    generalize hdt : s1.heap.objs.size = dT
    have I2 : Inv X pins σ H1 { s1 with heap := s1.heap.push { cls := .type "tuple", data := .seq [v].toArray } } := I1.kept (t' := s1.toks) fun b o e => Heap.get?_push_of_some _ e
    have hT2 : (s1.heap.push { cls := .type "tuple", data := .seq [v].toArray }).get? dT = some { cls := .type "tuple", data := .seq [v].toArray } := by rw [← hdt]; exact Heap.get?_push_size _ rfl
    have hTn : H1 dT = none := by rw [← hdt]; exact I1.hok.fresh (Nat.le_refl _)
    have hTf : dT ∉ frs X.stack := fun z => by
      rcases List.mem_cons.mp (I1.stkSub _ z) with e | e
      · have h1 := I1.lt
        rw [← e, ← hdt] at h1
        exact absurd h1 (Nat.lt_irrefl _)
      · exact I1.nofs (Nat.le_of_eq hdt) e
    refine lam_tail I2 TB hcode hm hu hT hfree fun f c' doc pm ctv H3 s' I3 eN nn T1 kp hf hfn hfr hco => ?_
    refine h f c' (.ref dT) doc pm ctv [(y, v)] H3 s' I3 eN nn T1 hf hfn hfr hco (fun z hz => ?_) fun s4 st => ?_
    · rw [List.mem_singleton.mp hz]
      exact hy
    · obtain ⟨k, e1, e2⟩ := hb (X.env.qual ++ "<lambda>") (cloFrom X.env.cells scope.names []) dT doc pm (.ref c') ctv v
      obtain ⟨g1, g2⟩ := kp dT _ hTn hT2
      exact .of_defaults rfl (st dT _ g1 g2 hTf) rfl e1 e2
end
end Fb

set_option Elab.async false
set_option linter.all false
set_option maxRecDepth 100000
set_option maxHeartbeats 4000000
namespace Fb
open PySem PySem.Spec PyProof.Rows L2 LamX
section
variable {X : Cx} {pins : List (Addr × Obj)} {σ : L2.St} {H HZ : Hp} {s s1 : Shared}
/-- the body's context is good at its start -/
theorem lamG_start {A : Around} {outer : List Env} {E : XK} {scope : Scope} {f c' : Addr} {h₁ : Heap} {tk : Nat} {m : Str → Option Value} (I : Inv X pins σ H s) (L : LamG X.N X.env.scope scope) (e0 : Env0 X.prog X.w X.K X.mg X.base A outer s1 HZ) (hd : A.handled = none)
    (un : Un (frs X.stack) [] H HZ s.heap s1.heap) (hns : h₁.Ns s1.heap.objs.size m) (kp : ∀ b o, s1.heap.get? b = some o → h₁.get? b = some o) : Inv (lamCx X A outer s1 HZ E scope f c') [] σ HZ { s1 with heap := h₁, toks := tk } := by
  have hfree := L.has I.ok
  have cm : ∀ {y c}, (cloFrom X.env.cells scope.names []).lookup y = some c → X.env.cells.lookup y = some c := fun {y c} e => by
    rcases cloFrom_mem (PySem.mem_of_lookup e) with hm | ⟨h1, h2⟩
    · cases hm
    · obtain ⟨c1, hc⟩ := hfree _ h1 rfl
      have hc : X.env.cells.lookup y = some c1 := hc
      have e2 : c = c1 := by
        rw [h2, hc]
        rfl
      rw [e2]
      exact hc
  have look : ∀ {y}, scope.names.lookup y = some .free → ∃ c, (cloFrom X.env.cells scope.names []).lookup y = some c := fun {y} hl => mem_lookup (cloFrom_has (cells := X.env.cells) (acc := []) (show (y, NameKind.free) ∈ scope.names from PySem.mem_of_lookup hl))
  have cellK : ∀ {c : Addr} {v : Option Value}, H c = none → s.heap.IsCell c v → h₁.IsCell c v := fun {c v} n ⟨o, ho, hd⟩ => by
    obtain ⟨sl, q⟩ := un.any ho n (by simp)
    exact ⟨_, kp _ _ q, hd⟩
  have noA : ∀ b : Addr, b ∉ (lamCx X A outer s1 HZ E scope f c').ex := fun b z => absurd (show b ∈ ([] : List Addr) from z) (by simp)
  refine ⟨⟨e0.mod, L.kind, rfl, rfl, Nat.le_refl _, fun y z c e1 e2 => I.ok.inj y z c (cm e1) (cm e2), fun y hy => ?_, fun y c z _ => ?_, fun _ => hd, Around.frames_deeper e0.frames, .inr ⟨rfl, rfl⟩, fun b z => absurd z (noA b), e0.bs, e0.bsz, fun b _ _ => noA b, fun b z => absurd z (noA b), e0.funs, e0.frf⟩,
    rfl, e0.bare, Un.kept kp, ⟨_, hns, fun i y v e1 e2 e3 => ?_⟩, fun y c e => ?_, e0.hok.fresh (Nat.le_refl _), fun y c e => ?_, fun q hq => absurd (show q ∈ ([] : List (Addr × Obj)) ++ [] from hq) (by simp), e0.hok.kept kp, I.len⟩
  · have hy : scope.names.lookup y = some .cell ∨ scope.names.lookup y = some .free := hy
    rcases hy with hy | hy
    · exact absurd rfl (L.own _ (PySem.mem_of_lookup hy)).1
    · exact look hy
  · have z : false = true := z
    cases z
  · have e3 : Vis scope y := e3
    have hyN : y ∈ X.N := List.mem_of_getElem? e1
    rcases e3 with k | k | k
    · exact absurd hyN ((L.own _ (PySem.mem_of_lookup k)).2 rfl)
    · exact absurd rfl (L.own _ (PySem.mem_of_lookup k)).1
    · obtain ⟨m2, hn, hl⟩ := I.loc
      have hvis : Vis X.env.scope y := (L.free _ (PySem.mem_of_lookup k) rfl).elim (fun k => .inr (.inl k)) (fun k => .inr (.inr k))
      obtain ⟨w', r, q⟩ := hl i y v e1 e2 hvis
      obtain ⟨c2, h2⟩ := look k
      refine ⟨w', r, .inr ⟨.inr k, c2, h2, ?_⟩⟩
      have c1 := cm h2
      rcases q with ⟨k', _⟩ | ⟨_, c3, e', z⟩
      · have k' : X.env.scope.names.lookup y = some .local := k'
        rcases L.free _ (PySem.mem_of_lookup k) rfl with k2 | k2 <;> rw [show X.env.scope.names.lookup y = _ from k2] at k' <;> cases k'
      · rw [c1] at e'
        cases e'
        exact cellK (I.freeC y _ c1) z
  · obtain ⟨w', z⟩ := I.cell y c (cm e)
    exact ⟨w', cellK (I.freeC y c (cm e)) z⟩
  · obtain ⟨v, o, ho, hd⟩ := I.cell y c (cm e)
    exact un.free c o ho (I.freeC y c (cm e)) (by simp)
/-- a(), a the def's parameter that holds the lambda -/
theorem pe_actG {CXg : CXT} {Eg : XK} {Ng : List Str} {qg : Str} {sg : Scope} {g f c' : Addr} {cdg dV doc pm ctv : Value} {params : Arguments} {body : Expr} {scope : Scope} {bs : List (Str × Value)} {k i : Nat} {a : Str} {pn : List (Addr × Obj)} {xe : Value → Shared → Prop} {W : WX} {E : XK} {tb : TE} {p1 p2 : Pos}
    (I : Inv X pins σ H s) (L : LamG X.N X.env.scope scope) (hf : s.heap.get? f = some (lamO (X.env.qual ++ "<lambda>") params body scope (cloFrom X.env.cells scope.names []) dV doc pm c' ctv)) (hfn : H f = none) (hfr : f ∉ frs X.stack) (hloc : ∀ y ∈ bs, scope.names.lookup y.1 = some .local)
    (hbind : ∀ s1 : Shared, (∀ b o, s.heap.get? b = some o → H b = none → b ∉ frs X.stack → s1.heap.get? b = some o) → BindsTo s1 (lamF (X.env.qual ++ "<lambda>") params body scope (cloFrom X.env.cells scope.names []) dV doc pm (.ref c') ctv) ⟨[], []⟩ bs)
    (tk : Takes ((cxOf CXg X.prog X.w X.K X.mg X.base Ng qg sg g cdg X.A X.stack s H Eg).tr pn xe) W) (hW : ∀ cls d σ' H', E cls d H' → W cls d σ' H') (hr : Room (k + 1) (X.A.deeper (envOfC qg sg s.heap.objs.size g cdg)))
    (hbody : ∀ (A : Around) (outer : List Env) (s : Shared) (H : Hp), Room k (A.deeper (lamEnv X scope s.heap.objs.size f c')) → PE (lamCx X A outer s H E scope f c') body tb) (hN : Ng[i]? = some a) (hv : Vis sg a) (hd : (a == ("__debug__" : Str)) = false := by decide) (hcd : (a == ("__classdict__" : Str)) = false := by decide) :
    PE ((cxOf CXg X.prog X.w X.K X.mg X.base Ng qg sg g cdg X.A X.stack s H Eg).tr pn xe) (.Call (.Name a p1) [] [] p2) (fun σZ HZ Q => σZ[i]? = some (some (.ref f)) ∧ HZ c' = some (CodeO c' (X.env.qual ++ "<lambda>")) ∧ tb σ HZ Q) := by
  refine ⟨fun pinsZ sZ σZ HZ Q IZ h => ?_⟩
  obtain ⟨hs, hc, ht⟩ := h
  refine wpAny_Call_Name_kw (thn ((pe_var (pos := p1) (i := i) hN hv hd hcd).run pinsZ sZ σZ HZ (fun v H1 => v = .ref f ∧ H1 = HZ) IZ ⟨.ref f, hs, rfl, rfl⟩) fun u s1 ⟨v, H1, I1, r1, ev, eH⟩ => ?_)
  subst ev
  rw [eH] at I1
  obtain rfl : u = Value.ref f := r1
  have stays : ∀ b o, s.heap.get? b = some o → H b = none → b ∉ frs X.stack → s1.heap.get? b = some o := fun b o e n nf => I1.base.keep b _ e n nf (fun z => nomatch (show b ∈ ([] : List Addr) from z))
  have of1 := stays f _ hf hfn hfr
  refine PySem.W.callWith_F0 ⟨_, _, _, _, of1⟩ ?_
  have un : Un (frs X.stack) [] H HZ s.heap s1.heap := I1.base
  obtain ⟨⟨oc, vs, t, hoc, hdc, hvc⟩, _, _⟩ := I1.hok c' _ hc
  have rc : codeAny (model X.prog X.w) (X.A.deeper (envOfC qg sg s.heap.objs.size g cdg)) (.call (.ref f) ⟨[], []⟩) (CR (L2.CX X.prog X.w) (envOfC qg sg s.heap.objs.size g cdg :: X.stack) X.prog X.w HZ s1 Q E) s1 := by
    refine PySem.W.kla_callFunE hr.depth of1 rfl L.co L.gen rfl ⟨c', oc, vs, t, rfl, hoc, hdc, hvc⟩ (hbind s1 stays _ _ _ _ ?_)
    refine wpAny_newFunctionEnv (fun y hy => (L.own y hy).1) hloc (fun h₁ hns hsb => ⟨I1.nolimit.fresh _ hsb, ?_⟩) L.kind
    show codeAny _ _ (.expr body (lamEnv X scope s1.heap.objs.size f c')) _ _
    have kp : ∀ b o, s1.heap.get? b = some o → h₁.get? b = some o := fun b o e => hsb.extBut b o (Nat.ne_of_lt (Heap.lt_size e)) (Heap.get?_push_of_some _ e)
    have J : Inv (lamCx X (X.A.deeper (envOfC qg sg s.heap.objs.size g cdg)) (envOfC qg sg s.heap.objs.size g cdg :: X.stack) s1 HZ E scope f c') [] σ HZ { s1 with heap := h₁, toks := s1.toks + bs.length } := lamG_start I L I1.env0 hr.hd un hns kp
    refine PySem.W.kla_codeExpr (wpAny_mono ((hbody _ _ s1 HZ (hr.deeper _)).run [] _ _ HZ Q J ht) (fun v s' hq => ?_) fun e s' hq => hq)
    obtain ⟨w', H', J', rv, q⟩ := hq
    exact ⟨w', H', J'.os, J'.bare, J'.base, J'.hok, rv, q⟩
  have hx : Passes (L2.CX X.prog X.w) ((cxOf CXg X.prog X.w X.K X.mg X.base Ng qg sg g cdg X.A X.stack s H Eg).tr pn xe) E := passes_call tk hW
  refine wpAny_call (codeAny_mono rc fun r s' hq => ?_)
  cases r with
  | error e => exact hx pinsZ σZ HZ s1 e s' I1 hq
  | ok fl =>
    cases fl with
    | ret u => exact I1.after hq
    | next => exact False.elim hq
    | brk => exact False.elim hq
    | cont => exact False.elim hq
end
/-- how a lambda's parameters are bound when it is called without arguments: no parameter, or one with a number for its default -/
def Dfl0 (X : Cx) (params : Arguments) (body : Expr) (scope : Scope) : Prop := (defaultsOf params X.env = ([], []) ∧ ∀ (q : Str) (cl : List (Str × Addr)) (doc pm cv ctv : Value), bindArgs (lamF q params body scope cl .none doc pm cv ctv) ⟨[], []⟩ = pure []) ∨
      ∃ (n : Int) (kc : Nat) (cp : Pos) (y : Str), defaultsOf params X.env = ([eval (.Constant (.int n) kc cp) X.env], []) ∧ scope.names.lookup y = some .local ∧ ∀ (q : Str) (cl : List (Str × Addr)) (dT : Addr) (doc pm cv ctv v : Value), ∃ k,
        bindArgs (lamF q params body scope cl (.ref dT) doc pm cv ctv) ⟨[], []⟩ = seqItems? (.ref dT) >>= k ∧ k (some #[v]) = pure [(y, v)]
/-- as tLam, told too that nothing that was tracked is gone -/
def tLamM (T : List (Addr × Str)) (TT : (XK → Hp → VK → Prop) → Hp → VK → Prop) (t : XK → TE) : TE := fun σ H Q => Tabs T H ∧ ∀ H1, ExtN H H1 → (∀ b, H1 b = none → H b = none) → Tabs T H1 → TT (fun E H' Q' => t E σ H' Q') H1 Q
/-- x(lambda: body) -/
theorem pe_lamG {X : Cx} {T : List (Addr × Str)} {TT : (XK → Hp → VK → Prop) → Hp → VK → Prop} {x a : Str} {g c P : Addr} {k : Nat} {pg : Arguments} {bg : List Stmt} {sg : Scope} {dV kV doc pm cdv ct oc : Value} {an od : Option Addr} {osl : Array (Option Value)} {Ng : List Str}
    {params : Arguments} {body : Expr} {scope : Scope} {t : XK → TE} {p lpos pos : Pos} (hg : Gl X x) (hm : X.mg x = some (.ref g)) (hk : PySem.W.keepIn X.K (.ref g) = true)
    (lk : X.K.lookup g = some ⟨oc, od, .func (PySem.W.fnOf x x pg bg sg dV kV doc pm an cdv ct), osl⟩) (hcg : PySem.W.codeIn X.K cdv x = true) (hb : L2.Binds X.K (PySem.W.fnOf x x pg bg sg dV kV doc pm an cdv ct) [a] []) (Sg : FnScope Ng [a] sg) (hNg : Ng[0]? = some a) (hva : Vis sg a)
    (hG : GivesTo X Ng x sg g cdv bg a (X.env.qual ++ "<lambda>") TT) (TB : TabB X.base X.mg c P) (hcode : X.env.code = .ref c) (hmT : (P, X.env.qual ++ "<lambda>") ∈ T) (hu : ∀ p ∈ T, p.1 = P → p.2 = X.env.qual ++ "<lambda>") (hr : Room (k + 2) X.A) (L : LamG X.N X.env.scope scope) (hdef : Dfl0 X params body scope)
    (hbody : ∀ (A : Around) (outer : List Env) (s : Shared) (H : Hp) (E : XK) (f c' : Addr), Room k (A.deeper (lamEnv X scope s.heap.objs.size f c')) → PE (lamCx X A outer s H E scope f c') body (t E))
    (hdb : (x == ("__debug__" : Str)) = false := by decide) (hd : (a == ("__debug__" : Str)) = false := by decide) (hcd : (a == ("__classdict__" : Str)) = false := by decide) : PE X (.Call (.Name x p) [.Lambda params body scope lpos] [] pos) (tLamM T TT t) := by
  refine ⟨fun pins s σ H Q I h => ?_⟩
  obtain ⟨hT, h⟩ := h
  refine wpAny_Call_Name_kw (ld_glob I hg hm ?_ hdb)
  refine PySem.W.callWith_K (h₀ := X.base) I.ok.mod.kin hk ?_ (by rfl) (by rfl)
  show wpAny _ _ (spliced ((false, eval (.Lambda params body scope lpos) X.env) :: backTo pos (starEach [] X.env))) _ _ s
  refine Calls.spliced_cons (lam_mk I TB hcode hmT hu hT (L.has I.ok) hdef fun f c' dV' doc' pm' ctv bs H1 s' I1 eN nn T1 hf hfn hfr hco hloc hbind => ?_)
  refine Calls.spliced_nil ⟨I1.kIn, ?_⟩
  have rc : codeAny (model X.prog X.w) X.A (.call (.ref g) ⟨[.ref f], []⟩) (CR C8.CX0 X.stack X.prog X.w H1 s' Q C8.E0) s' := by
    refine run_ofS (N := Ng) (ps := [a]) (us := [.ref f]) (vs := [.ref f]) lk hcg Sg hr I1.env0 (hb s' [.ref f] I1.kIn rfl) (.cons rfl .nil) rfl fun hr' => ?_
    obtain ⟨t', ht', hq'⟩ := hG f c' s' H1 Q (fun E H' Q' => t E σ H' Q') (fun W pn xe E p1 p2 tk hW => pe_actG (i := 0) I1 L hf hfn hfr hloc hbind tk hW hr' (fun A outer s H hr2 => hbody A outer s H E f c' hr2) hNg hva hd hcd) hco (h H1 eN nn T1)
    exact ⟨t', ht'.nox, hq'⟩
  refine wpAny_call (codeAny_mono rc fun r s2 hq => ?_)
  cases r with
  | error e => exact (show False from hq).elim
  | ok fl =>
    cases fl with
    | ret u => exact I1.after hq
    | next => exact False.elim hq
    | brk => exact False.elim hq
    | cont => exact False.elim hq
end Fb

set_option Elab.async false
set_option linter.all false
set_option maxRecDepth 100000
set_option maxHeartbeats 4000000
namespace K1
open PySem PySem.Spec PyProof.Rows L2 Fb
abbrev sAsk : Stmt := top 35
/-- by what they are caught -/
structure Ex (K : PySem.W.Frag) (mg : Str → Option Value) (C : Str → Addr) : Prop where
  gR : mg "RuleError" = some (.ref (C "RuleError"))
  gM : mg "Missing" = some (.ref (C "Missing"))
  ex : ∀ x fl, (x, fl) ∈ tbl → PySem.W.exmAny K (.ref (C x)) [.ref (C "RuleError"), .ref (C "Missing")] = some true
/-- the errors that are due: then the list of their values is handed back -/
def EAsk (C : Str → Addr) (Q : VK) : XK := fun cls d H' => ∃ (x : Str) (fl : List Str) (ys : List V) (dd : Addr), cls = .ref (C x) ∧ (x, fl) ∈ tbl ∧ ys.length = fl.length ∧ d = some dd ∧ H' dd = some (.xd (flds x fl ys)) ∧ ∀ (l : Addr) (H'' : Hp), Same H' H'' → H' l = none → H'' l = some (.lst (.str x :: ys)) → Q (.ref l) H''
/-- asked: told, or the error's values -/
def TAsk (C : Str → Addr) : (XK → Hp → VK → Prop) → Hp → VK → Prop := fun tl H Q =>
  tl (EAsk C Q) H
    (fun v H1 => 2 ≤ sizeLine ∧ ∀ l, H1 l = none → Q (.ref l) (upd H1 l (.lst [.str "told", v])))
abbrev NAsk : List Str := ["deed", "error"]
theorem scAsk : FnScope NAsk ["deed"] (defScope sAsk) := ⟨rfl, rfl, rfl, by decide +kernel, rfl, by decide +kernel, by decide +kernel⟩
theorem ask_gives {X : Cx} {C : Str → Addr} {g : Addr} {cdg : Value} {q : Str} (MX : Ex X.K X.mg C) (R : RdW X.prog X.w X.K X.mg X.base CX0 1 "_law_fault" ["error"] (spFault C)) (hr : ∀ (s : Shared), RoomH 1 (X.A.deeper (envOfC "_law_ask_any" (defScope sAsk) s.heap.objs.size g cdg))) :
    LamX.GivesTo X NAsk "_law_ask_any" (defScope sAsk) g cdg (defBody sAsk) "deed" q (TAsk C) := by
  intro f c' s H Q tl act hc h
  refine ⟨_, pss_one (ps_try2 (X := (cxOf C8.CX0 X.prog X.w X.K X.mg X.base NAsk "_law_ask_any" (defScope sAsk) g cdg X.A X.stack s H C8.E0).nox)
      (tb := fun W D σ H => ∃ Ech : XK, (∀ cls d σ' H', Ech cls d H' → W cls d σ' H') ∧ σ[0]? = some (some (.ref f)) ∧ H c' = some (LamX.CodeO c' q) ∧ tl Ech H (fun v H1 => 2 ≤ sizeLine ∧ ∀ l, H1 l = none → D.rt (.ref l) (upd H1 l (.lst [.str "told", v])))) (i := 1)
      rfl rfl scAsk.nd rfl takes0 (fun W pn xe tk _ => ⟨fun pins s' σ H' D I h' => ?_⟩) rfl rfl ⟨rfl, by decide, .inl MX.gR⟩ ⟨rfl, by decide, .inl MX.gM⟩
      (fun a pn => pss_one (ps_ret (pe_rdW R (hr s).marked rfl pass0 (pa_cons (pv 1) pa_nil))))), ?_⟩
  · obtain ⟨Ech, hW, h1, h2, h3⟩ := h'
    exact (pss_one (ps_ret (pe_lst (pa_cons pe_str (pa_cons (act W pn xe Ech _ _ tk hW) pa_nil))))).run pins s' σ H' D I ⟨h1, h2, h3⟩
  · refine ⟨EAsk C Q, fun cls d σ' H' hE => ?_, rfl, hc, h⟩
    obtain ⟨x, fl, ys, dd, rfl, hm, hl, rfl, hx, qq⟩ := hE
    refine ⟨MX.ex x fl hm, fun hlen a oe vs na c1 c2 c3 => ?_⟩
    have hda : dd ≠ a := ne_of_none hx na
    have er : Err (upd H' a (exk a oe)) a (C x) (flds x fl ys) := ⟨dd, .inr ⟨oe, vs, upd_same, c1, c2, c3⟩, .inl ((upd_ne hda).trans hx)⟩
    have hlen : σ'.length = 2 := hlen
    obtain ⟨v0, v1, rfl⟩ : ∃ v0 v1, σ' = [v0, v1] := by
      match σ', hlen with
      | [v0, v1], _ => exact ⟨v0, v1, rfl⟩
    refine ⟨_, rfl, x, fl, a, ys, rfl, hm, hl, er, fun l H3 s3 hn hat => ?_⟩
    have s1 : Same H' (upd H' a (exk a oe)) := same_new na _
    exact qq l H3 (s1.trans s3) (s1.free hn) hat
end K1

set_option Elab.async false
set_option linter.all false
set_option maxRecDepth 100000
set_option maxHeartbeats 4000000
/-! tuples made by tuple(list), known to the last: their methods may be called -/
namespace Fb
open PySem PySem.Spec PyProof.Rows L2
def TupX (H : Hp) (p : Addr) (xs : List V) : Prop := ∃ o : Obj, H p = some (.frz o (.tup xs)) ∧ o.cls = .type "tuple" ∧ o.dict = none
theorem TupX.seq {K : PySem.W.Frag} {H : Hp} {p : Addr} {xs : List V} (h : TupX H p xs) : SqT K H p xs := by
  obtain ⟨o, h, _⟩ := h
  exact .inl (.inr ⟨o, h⟩)
theorem TupX.same {H H' : Hp} {p : Addr} {xs : List V} (h : TupX H p xs) (s : Same H H') : TupX H' p xs := by
  obtain ⟨o, h, r⟩ := h
  exact ⟨o, s _ _ h, r⟩
section
variable {X : Cx}
theorem call_tuple_frz : CallR X (.type "tuple") (fun xs H Q => ∃ p ys, xs = [.ref p] ∧ SqL X.K H p ys ∧ ∀ (l : Addr) (o : Obj), H l = none → o.cls = .type "tuple" → o.dict = none → Q (.ref l) (upd H l (.frz o (.tup ys)))) := by
  intro pins s σ H xs us Q I r h
  obtain ⟨p, ys, rfl, hq, q⟩ := h
  obtain ⟨u, rfl, rx⟩ := vals1 r
  obtain rfl := rx
  obtain ⟨its, r', pl, hz⟩ := I.list hq
  have hlen := r'.length
  refine call_tuple_list pl.isList (fun h' kp => ?_) (by simp only [List.size_toArray]; omega)
  have I1 : Inv X pins σ H { s with heap := h' } := I.kept (t' := s.toks) kp
  have at_ : (h'.push { cls := .type "tuple", data := .seq its.toArray }).get? h'.objs.size = some { cls := .type "tuple", data := .seq its.toArray } := Heap.get?_push_size _ rfl
  have I2 : Inv X pins σ (upd H h'.objs.size (.frz { cls := .type "tuple", data := .seq its.toArray } (.tup ys))) { s with heap := h'.push { cls := .type "tuple", data := .seq its.toArray } } :=
    I1.laid (t' := s.toks) (fun b o e => Heap.get?_push_of_some _ e) (Nat.le_refl _) ⟨at_, hz, its, r', IsTup.new _ _⟩
  exact ⟨.ref h'.objs.size, _, I2, rfl, q _ _ (I1.hok.fresh (Nat.le_refl _)) rfl rfl⟩
variable {o e : Expr} {to te : TE} {apos cpos : Pos}
/-- t.index(x), the first place -/
theorem pe_tidx {t : TA} (ho : PE X o to) (ha : PA X [e] t) (hbase : attributeBase o "index" X.env (eval o X.env) = eval o X.env := by rfl)
    (hfew : ((backTo cpos (starEach [e] X.env)).all (fun x => !x.1) && (backToKw cpos (keywordEach [] X.env)).all (fun x => x.1.isSome) && decide ([e].length + ([] : List Keyword).length + (if ([] : List Keyword).isEmpty then 0 else 1) < 30)) = true := by rfl)
    (hline : (apos.endLine == cpos.line) = true := by rfl) (hs : starEach [e] X.env = (false, eval e X.env) :: starEach [] X.env := by rfl) (hplain : (backTo cpos (starEach [] X.env)).any (·.1) = false := by rfl) : PE X (.Call (.Attribute o "index" apos) [e] [] cpos)
      (fun σ H Q => to σ H fun x H1 => ∃ p xs, x = .ref p ∧ TupX H1 p xs ∧ t σ H1 fun vs H2 => ∃ (ys : List Str) (z : Str) (j : Nat), vs = [.str z] ∧ SqT X.K H2 p (ys.map V.str) ∧ ys[j]? = some z ∧ (∀ m, m < j → ys[m]? ≠ some z) ∧ Q (.int (j : Nat)) H2) := by
  refine ⟨fun pins s σ H Q I h => ?_⟩
  refine wpAny_Call_method_late hbase hfew hline rfl (thn (ho.run pins s σ H _ I h) fun v s1 ⟨x, H1, I1, r1, p, xs, ex, ⟨ob, hx, oc, od⟩, q1⟩ => ?_)
  subst ex
  obtain rfl := r1
  obtain ⟨hg, _⟩ := I1.hok p _ hx
  refine ⟨"tuple", "tuple.index", PySem.F.plainAttrs_tuple, PySem.F.slot_tuple_index, PySem.F.type_tuple_index, ⟨ob, hg, oc⟩, fun a e => ?_, ?_⟩
  · cases e
    exact ⟨ob, hg, od⟩
  have hA := ha.run cpos pins s1 σ H1 _ I1 q1
  rw [hs] at hA ⊢
  refine Calls.callWith_builtin (by show (false || (backTo cpos (starEach [] X.env)).any (·.1)) = false; rw [hplain]; rfl) (Calls.evalArgs_plain ?_)
  exact thn hA fun us s2 ⟨vs, H2, I2, r2, ys, z, j, ev, h1, h2, h3, q2⟩ => mt_tup_index pins s2 σ H2 (.ref p) vs (.ref p) us Q I2 rfl r2 ⟨p, ys, z, j, rfl, ev, h1, h2, h3, q2⟩
end
end Fb

set_option Elab.async false
set_option linter.all false
set_option maxRecDepth 100000
set_option maxHeartbeats 4000000
namespace Fb
open PySem PySem.Spec PyProof.Rows L2
/-- a dict comprehension over what is walked -/
theorem dc_it {J : It} {n : Nat} {G : Hp → Prop} {Y : Nat → Hp → V → Hp → Prop} (w : Walk J n G Y) {g : TG} {tt : TT} {tk tv : TE} {vs : List Nat} {σ : L2.St} {H1 : Hp} {D : Addr} {Qd : Hp → Prop} (Pv : Nat → Hp → Prop) (h0 : Pv 0 (upd H1 D (.dK []))) (hG : ∀ i H, i ≤ n → Pv i H → G H)
    (hs : ∀ i x H H', i < n → Pv i H → Y i H x H' → g x (wipe σ vs) H' fun σ2 H2 => wipe σ2 vs = wipe σ vs ∧ tt σ2 H2 fun b H3 =>
      if b = true then tk σ2 H3 fun y H4 => tv σ2 H4 fun z H5 => ∃ kvs k, y = kV k ∧ H5 D = some (.dK kvs) ∧ kvs.length < sizeLine ∧ Pv (i + 1) (upd H5 D (.dK (putK kvs k z))) else Pv (i + 1) H3) (hd : ∀ H, Pv n H → Qd H) :
    ∃ W : Nat → Nat → Hp → Prop, (∃ m, W 0 m (upd H1 D (.dK []))) ∧ ∀ i m H, W i m H → (J.stop i H ∧ Qd H) ∨ (J.go i H ∧ ∃ Nx : Hp → Prop, (∀ H', Nx H' → ∃ m', m' < m ∧ W (i + 1) m' H') ∧ ∀ x H', J.yld i H x H' → g x (wipe σ vs) H' fun σ2 H2 => wipe σ2 vs = wipe σ vs ∧ tt σ2 H2 fun b H3 =>
        if b = true then tk σ2 H3 fun y H4 => tv σ2 H4 fun z H5 => ∃ kvs k, y = kV k ∧ H5 D = some (.dK kvs) ∧ kvs.length < sizeLine ∧ Nx (upd H5 D (.dK (putK kvs k z))) else Nx H3) := by
  refine ⟨fun i m H => m = n - i ∧ i ≤ n ∧ Pv i H, ⟨n, by simp, Nat.zero_le _, h0⟩, ?_⟩
  rintro i m H ⟨rfl, hi, p⟩
  have q := hG i H hi p
  by_cases hlt : i < n
  · exact .inr ⟨w.goes i H hlt q, Pv (i + 1), fun H' p' => ⟨n - (i + 1), by omega, rfl, hlt, p'⟩, fun x H' y => hs i x H H' hlt p (w.yields i H x H' hlt q y)⟩
  · obtain rfl : i = n := by omega
    exact .inl ⟨w.stops H q, hd H p⟩
end Fb
namespace K1
open PySem PySem.Spec PyProof.Rows L2 Fb
abbrev sInit : Stmt := inClass (top 20) 0
def lfs (tn ts ta d : Addr) : List (Str × V) := [("names", V.ref tn), ("signs", V.ref ts), ("_all", V.ref ta), ("_places", V.ref d)]
/-- letters stand at a: their parts, their words, their places -/
def LettersAt (K : PySem.W.Frag) (CL : Addr) (H : Hp) (a : Addr) (ps : List (Str × Str)) : Prop := ∃ dx tn ts ta d : Addr, H a = some (.ins CL dx (lfs tn ts ta d)) ∧ TupX H tn ((ps.map (·.1)).map V.str) ∧ SqT K H ts ((ps.map (·.2)).map V.str) ∧ SqT K H ta ((lettersOf ps).map V.str) ∧
  H d = some (.dK (plc (lettersOf ps) (lettersOf ps).length))
theorem LettersAt.same {K : PySem.W.Frag} {CL : Addr} {H H' : Hp} {a : Addr} {ps : List (Str × Str)} (h : LettersAt K CL H a ps) (s : Same H H') : LettersAt K CL H' a ps := by
  obtain ⟨dx, tn, ts, ta, d, h1, h2, h3, h4, h5⟩ := h
  exact ⟨dx, tn, ts, ta, d, s _ _ h1, h2.same s, Same.seqT s h3, Same.seqT s h4, s _ _ h5⟩
abbrev g1 (u : V) : List (Str × V) := [("names", u)]
abbrev g2 (u v : V) : List (Str × V) := [("names", u), ("signs", v)]
abbrev g3 (u v x : V) : List (Str × V) := [("names", u), ("signs", v), ("_all", x)]
abbrev g4 (u v x y : V) : List (Str × V) := [("names", u), ("signs", v), ("_all", x), ("_places", y)]
theorem put1 (u : V) : putF "names" u [] = g1 u := rfl
theorem put2 (u v : V) : putF "signs" v (g1 u) = g2 u v := rfl
theorem put3 (u v x : V) : putF "_all" x (g2 u v) = g3 u v x := rfl
theorem put4 (u v x y : V) : putF "_places" y (g3 u v x) = g4 u v x y := rfl
/-- all but one stay -/
def Oth (a : Addr) (H H' : Hp) : Prop := ∀ b o, b ≠ a → H b = some o → H' b = some o
theorem Oth.same {a : Addr} {H H1 H2 : Hp} (h : Oth a H H1) (s : Same H1 H2) : Oth a H H2 := fun b o hb e => s _ _ (h b o hb e)
theorem Oth.put {a : Addr} {H H1 : Hp} {o : HO} (h : Oth a H H1) : Oth a H (upd H1 a o) := fun b o hb e => (upd_ne hb).trans (h b o hb e)
theorem seq_put {K : PySem.W.Frag} {H : Hp} {a t C0 dx0 : Addr} {fs0 : List (Str × V)} {u : HO} {xs : List V} (ha : H a = some (.ins C0 dx0 fs0)) (h : SqT K H t xs) : SqT K (upd H a u) t xs := by
  rcases h with (h | ⟨o, h⟩) | h
  · exact .inl (.inl ((upd_ne fun z => by rw [z, ha] at h; cases h).trans h))
  · exact .inl (.inr ⟨o, (upd_ne fun z => by rw [z, ha] at h; cases h).trans h⟩)
  · exact .inr h
theorem tupX_put {H : Hp} {a t C0 dx0 : Addr} {fs0 : List (Str × V)} {u : HO} {xs : List V} (ha : H a = some (.ins C0 dx0 fs0)) (h : TupX H t xs) : TupX (upd H a u) t xs := by
  obtain ⟨o, h, r⟩ := h
  exact ⟨o, (upd_ne fun z => by rw [z, ha] at h; cases h).trans h, r⟩
theorem pairs_put {K : PySem.W.Frag} {H : Hp} {a C0 dx0 : Addr} {fs0 : List (Str × V)} {u : HO} (ha : H a = some (.ins C0 dx0 fs0)) : ∀ {ts : List Addr} {ps : List (Str × Str)}, PairsAt K H ts ps → PairsAt K (upd H a u) ts ps
  | [], [], _ => trivial
  | _ :: _, _ :: _, h => ⟨seq_put ha h.1, pairs_put ha h.2⟩
theorem verdict_head {ps : List (Str × Str)} {e : Str × List V} (h : head ps = some e) : verdict ps = some e := by
  unfold verdict
  rw [h]
theorem verdict_many {ps : List (Str × Str)} (h : head ps = none) (hm : 16 < many ps) : verdict ps = some (eMany (many ps)) := by
  unfold verdict
  rw [h]
  exact if_pos hm
theorem verdict_good {ps : List (Str × Str)} (h : head ps = none) (hm : many ps ≤ 16) : verdict ps = none := by
  unfold verdict
  rw [h]
  exact if_neg (by omega)
/-- the class as the top has made it -/
structure LC (K : PySem.W.Frag) (mg : Str → Option Value) (CL : Addr) : Prop where
  gC : mg "Letters" = some (.ref CL)
  cl : Cls K CL
  nN : NoAttr K CL "names"
  nS : NoAttr K CL "signs"
  nA : NoAttr K CL "_all"
  nP : NoAttr K CL "_places"
section
variable {P : Program} {w : World} {K : PySem.W.Frag} {mg : Str → Option Value} {base : Heap} {C : Str → Addr} {CL : Addr}
abbrev NInit : List Str := ["self", "parts", "name", "_", "signs", "letter", "place"]
theorem scInit : FnScope NInit ((["self"] : List Str) ++ (["parts"] : List Str)) (defScope sInit) := ⟨rfl, rfl, rfl, by decide +kernel, rfl, by decide +kernel, by decide +kernel⟩
def spInit0 (K : PySem.W.Frag) (C : Str → Addr) (CL : Addr) : Sp := fun vs H Q E => ∃ (a dx p : Addr) (ps : List (Str × Str)), vs = [.ref a, .ref p] ∧ H a = some (.ins CL dx []) ∧ PartsT K H p ps ∧ Small ps ∧
  (verdict ps = none → ∀ H', (∀ b o, b ≠ a → H b = some o → H' b = some o) → LettersAt K CL H' a ps → Q .non H') ∧ (∀ e, verdict ps = some e → Raises C H E e)
theorem init_body {f : Addr} (L : LC K mg CL) (RC : Rd P w K mg base (L2.CX P w) 3 "_check_parts" ["parts"] (spCheck K C)) (RM : Rd P w K mg base (L2.CX P w) 3 "_check_many" ["parts"] (spMany K (C "TooMany"))) (RL : Rd P w K mg base CX0 1 "_letters_of" ["signs_in_order"] (spLettersOf K)) (mt : mg "tuple" = none) (me : mg "enumerate" = none)
    (cdv : Value) (A : Around) (outer : List Env) (s : Shared) (H : Hp) (vs : List V) (Q : VK) (E : XK) (hr : Room 3 (A.deeper (envOfC "Letters.__init__" (defScope sInit) s.heap.objs.size f cdv))) (h : spInit0 K C CL vs H Q E) :
    ∃ t, PSs (cxOf (L2.CX P w) P w K mg base NInit "Letters.__init__" (defScope sInit) f cdv A outer s H E) (defBody sInit) t ∧ t { nx := fun _ H' => Q .non H', rt := Q } (start NInit vs) H := by
  obtain ⟨a, dx, p, ps, rfl, ha, hp, hsm, q1, q2⟩ := h
  have hr1 := hr.mono (by decide : 1 ≤ 3)
  refine ⟨_, pss_cons (ps_expr (pe_rd RC hr rfl (passes_call (takes_of rfl rfl rfl rfl) fun _ _ _ _ h => h) (pa_cons (pv 1) pa_nil)))
    (pss_cons (ps_expr (pe_rd RM hr rfl (passes_call (takes_of rfl rfl rfl rfl) fun _ _ _ _ h => h) (pa_cons (pv 1) pa_nil)))
    (pss_cons (ps_fld (pv 0) (pe_callTy call_tuple_frz rfl mt (by decide +kernel) (pa_cons (pe_lc (own := [("name", 2), ("_", 3)]) (g := gTup K 2 (gCons (gName 2) (gCons (gName 3) gNil))) (tt := tYes) (te := tVar 2) rfl scInit.nd (pi_tup (pv 1)) (blkOk_by (N := NInit) (sc := defScope sInit) (by decide +kernel))
        (fun _ _ _ _ _ => pg_tup rfl (pgs_cons (pg_name (i := 2) scInit.nd rfl (Or.inl rfl) (.inr rfl)) (pgs_cons (pg_name (i := 3) scInit.nd rfl (Or.inl rfl) (.inr rfl)) pgs_nil))) (fun _ _ _ _ _ => pts_nil) (fun _ _ _ _ _ => pv 2)) pa_nil)) rfl)
    (pss_cons (ps_fld (pv 0) (pe_callTy call_tuple_of rfl mt (by decide +kernel) (pa_cons (pe_lc (own := [("_", 3), ("signs", 4)]) (g := gTup K 2 (gCons (gName 3) (gCons (gName 4) gNil))) (tt := tYes) (te := tVar 4) rfl scInit.nd (pi_tup (pv 1)) (blkOk_by (N := NInit) (sc := defScope sInit) (by decide +kernel))
        (fun _ _ _ _ _ => pg_tup rfl (pgs_cons (pg_name (i := 3) scInit.nd rfl (Or.inl rfl) (.inr rfl)) (pgs_cons (pg_name (i := 4) scInit.nd rfl (Or.inl rfl) (.inr rfl)) pgs_nil))) (fun _ _ _ _ _ => pts_nil) (fun _ _ _ _ _ => pv 4)) pa_nil)) rfl)
    (pss_cons (ps_fld (pv 0) (pe_callTy call_tuple_of rfl mt (by decide +kernel) (pa_cons (pe_rd RL hr1 rfl pass0 (pa_cons (pe_fld (pv 0) rfl) pa_nil)) pa_nil)) rfl)
    (pss_one (ps_fld (pv 0) (pe_dc (own := [("letter", 5), ("place", 6)]) (g := gTup K 2 (gCons (gName 6) (gCons (gName 5) gNil))) (tt := tYes) (tk := tVar 5) (tv := tVar 6) rfl scInit.nd (pi_enumT rfl me (pa_cons (pe_fld (pv 0) rfl) pa_nil)) (blkOk_by (N := NInit) (sc := defScope sInit) (by decide +kernel))
        (fun _ _ _ _ _ => pg_tup rfl (pgs_cons (pg_name (i := 6) scInit.nd rfl (Or.inl rfl) (.inr rfl)) (pgs_cons (pg_name (i := 5) scInit.nd rfl (Or.inl rfl) (.inr rfl)) pgs_nil))) (fun _ _ _ _ _ => pts_nil) (fun _ _ _ _ _ => pv 5) (fun _ _ _ _ _ => pv 6)) rfl)))))), ?_⟩
  have hz2 : sizeLine = 16777216 := sizeLine_eq
  refine ⟨_, rfl, p, ps, rfl, hp, hsm, fun hh H1 s1 => ?_, fun e he => q2 e (verdict_head he)⟩
  refine ⟨_, rfl, p, ps, rfl, hp.same s1, ⟨hsm.1, fun y hy => (hsm.2 y hy).2, head_small hh⟩, fun hle H2 s2 => ?_, fun hgt d H' s' hd hx => (q2 _ (verdict_many hh hgt)).same s1 d H' s' hd hx⟩
  have hv := verdict_good hh hle
  have G := GoodPs.of hv
  have s12 : Same H H2 := s1.trans s2
  have ha2 := s12 _ _ ha
  obtain ⟨ts, hp2, hps2⟩ := hp.same s12
  have hlen := hps2.len
  -- self.names
  refine ⟨_, rfl, p, rfl, ⟨_, hp2⟩, fun D hD => lc_tup (xs := ts.map V.ref) (PvTexts (·.1) ps H2 D) ⟨by rw [List.take_zero]; exact upd_same, same_new hD _⟩ (fun i Hi _ pv => Same.seqT pv.2 hp2) ?_ ?_⟩
  · intro i y Hi hi pv
    obtain ⟨t, ht, rfl⟩ : ∃ t, ts[i]? = some t ∧ V.ref t = y := by
      rw [List.getElem?_map] at hi
      exact Option.map_eq_some_iff.mp hi
    obtain ⟨r, hr2, hrt⟩ := (hps2.same pv.2).get ht
    refine ⟨t, [.str r.1, .str r.2], rfl, hrt, rfl, .str r.1, _, rfl, .str r.2, _, rfl, rfl, rfl, _, rfl, _, pv.1, ?_, pv.step hD hr2⟩
    rw [List.length_map, List.length_map, List.length_take]
    have := hsm.1
    omega
  rintro H3 ⟨d3, s3⟩
  rw [List.length_map, hlen, List.take_of_length_le (Nat.le_refl _)] at d3
  refine ⟨D, _, rfl, SqL.of d3, fun tn on htn oc od => ?_⟩
  have s4 : Same H2 (upd H3 tn (.frz on (.tup ((ps.map (·.1)).map V.str)))) := s3.trans (same_new htn _)
  have n4 : TupX (upd H3 tn (.frz on (.tup ((ps.map (·.1)).map V.str)))) tn ((ps.map (·.1)).map V.str) := ⟨on, upd_same, oc, od⟩
  have a4 := s4 _ _ ha2
  have o4 : Oth a H (upd H3 tn (.frz on (.tup ((ps.map (·.1)).map V.str)))) := fun b o _ e => s4 _ _ (s12 _ _ e)
  have p4 := Same.seqT s4 hp2
  have q4 := hps2.same s4
  refine ⟨_, rfl, a, CL, dx, [], rfl, a4, L.cl, L.nN, (by show 0 < 1000; decide), ?_⟩
  rw [put1]
  replace n4 := tupX_put (u := .ins CL dx (g1 (.ref tn))) a4 n4
  replace p4 := seq_put (u := .ins CL dx (g1 (.ref tn))) a4 p4
  replace q4 : PairsAt K (upd (upd H3 tn (.frz on (.tup ((ps.map (·.1)).map V.str)))) a (.ins CL dx (g1 (.ref tn)))) ts ps := pairs_put a4 q4
  replace o4 : Oth a H (upd (upd H3 tn (.frz on (.tup ((ps.map (·.1)).map V.str)))) a (.ins CL dx (g1 (.ref tn)))) := o4.put
  replace a4 : upd (upd H3 tn (.frz on (.tup ((ps.map (·.1)).map V.str)))) a (.ins CL dx (g1 (.ref tn))) a = some (.ins CL dx (g1 (.ref tn))) := upd_same
  generalize upd (upd H3 tn (.frz on (.tup ((ps.map (·.1)).map V.str)))) a (.ins CL dx (g1 (.ref tn))) = H4 at n4 p4 q4 o4 a4
  clear s4 d3 s3 hD htn
  -- self.signs
  refine ⟨_, rfl, p, rfl, ⟨_, p4⟩, fun D hD => lc_tup (xs := ts.map V.ref) (PvTexts (·.2) ps H4 D) ⟨by rw [List.take_zero]; exact upd_same, same_new hD _⟩ (fun i Hi _ pv => Same.seqT pv.2 p4) ?_ ?_⟩
  · intro i y Hi hi pv
    obtain ⟨t, ht, rfl⟩ : ∃ t, ts[i]? = some t ∧ V.ref t = y := by
      rw [List.getElem?_map] at hi
      exact Option.map_eq_some_iff.mp hi
    obtain ⟨r, hr2, hrt⟩ := (q4.same pv.2).get ht
    refine ⟨t, [.str r.1, .str r.2], rfl, hrt, rfl, .str r.1, _, rfl, .str r.2, _, rfl, rfl, rfl, _, rfl, _, pv.1, ?_, pv.step hD hr2⟩
    rw [List.length_map, List.length_map, List.length_take]
    have := hsm.1
    omega
  rintro H5 ⟨d5, s5⟩
  rw [List.length_map, hlen, List.take_of_length_le (Nat.le_refl _)] at d5
  refine ⟨D, _, rfl, .inl ⟨SqL.of d5, fun tg htg => ?_⟩⟩
  have s6 : Same H4 (upd H5 tg (.tup ((ps.map (·.2)).map V.str))) := s5.trans (same_new htg _)
  have n6 := n4.same s6
  have t6 : SqT K (upd H5 tg (.tup ((ps.map (·.2)).map V.str))) tg ((ps.map (·.2)).map V.str) := SqT.of upd_same
  have a6 := s6 _ _ a4
  have o6 := o4.same s6
  refine ⟨_, rfl, a, CL, dx, g1 (.ref tn), rfl, a6, L.cl, L.nS, (by show 1 < 1000; decide), ?_⟩
  rw [put2]
  replace n6 := tupX_put (u := .ins CL dx (g2 (.ref tn) (.ref tg))) a6 n6
  replace t6 := seq_put (u := .ins CL dx (g2 (.ref tn) (.ref tg))) a6 t6
  replace o6 : Oth a H (upd (upd H5 tg (.tup ((ps.map (·.2)).map V.str))) a (.ins CL dx (g2 (.ref tn) (.ref tg)))) := o6.put
  replace a6 : upd (upd H5 tg (.tup ((ps.map (·.2)).map V.str))) a (.ins CL dx (g2 (.ref tn) (.ref tg))) a = some (.ins CL dx (g2 (.ref tn) (.ref tg))) := upd_same
  generalize upd (upd H5 tg (.tup ((ps.map (·.2)).map V.str))) a (.ins CL dx (g2 (.ref tn) (.ref tg))) = H6 at n6 t6 o6 a6
  clear s6 d5 s5 hD htg
  -- self._all
  have hzs : ∀ z ∈ ps.map (·.2), z.length ≤ 1000 := fun z hz => by
    obtain ⟨r, hr, rfl⟩ := List.mem_map.mp hz
    exact (hsm.2 r hr).2
  refine ⟨_, rfl, a, CL, dx, g2 (.ref tn) (.ref tg), _, rfl, a6, L.cl, L.nS, rfl, tg, ps.map (·.2), rfl, t6, by rw [List.length_map]; exact hsm.1, hzs, fun i hi => ?_, fun l H7 s7 hl hat => ?_⟩
  · rw [List.length_map] at hi
    exact Nat.le_trans (G.upTo hi) (by decide)
  refine ⟨l, _, rfl, .inl ⟨SqL.of hat, fun ta hta => ?_⟩⟩
  have s8 : Same H6 (upd H7 ta (.tup ((lettersOf ps).map V.str))) := s7.trans (same_new hta _)
  have n8 := n6.same s8
  have t8 := Same.seqT s8 t6
  have w8 : SqT K (upd H7 ta (.tup ((lettersOf ps).map V.str))) ta ((lettersOf ps).map V.str) := SqT.of upd_same
  have a8 := s8 _ _ a6
  have o8 := o6.same s8
  refine ⟨_, rfl, a, CL, dx, g2 (.ref tn) (.ref tg), rfl, a8, L.cl, L.nA, (by show 2 < 1000; decide), ?_⟩
  rw [put3]
  replace n8 := tupX_put (u := .ins CL dx (g3 (.ref tn) (.ref tg) (.ref ta))) a8 n8
  replace t8 := seq_put (u := .ins CL dx (g3 (.ref tn) (.ref tg) (.ref ta))) a8 t8
  replace w8 := seq_put (u := .ins CL dx (g3 (.ref tn) (.ref tg) (.ref ta))) a8 w8
  replace o8 : Oth a H (upd (upd H7 ta (.tup ((lettersOf ps).map V.str))) a (.ins CL dx (g3 (.ref tn) (.ref tg) (.ref ta)))) := o8.put
  replace a8 : upd (upd H7 ta (.tup ((lettersOf ps).map V.str))) a (.ins CL dx (g3 (.ref tn) (.ref tg) (.ref ta))) a = some (.ins CL dx (g3 (.ref tn) (.ref tg) (.ref ta))) := upd_same
  generalize upd (upd H7 ta (.tup ((lettersOf ps).map V.str))) a (.ins CL dx (g3 (.ref tn) (.ref tg) (.ref ta))) = H8 at n8 t8 w8 o8 a8
  clear s8 hat s7 hl hta
  -- self._places
  have h16 := G.count
  generalize hws : lettersOf ps = ws at w8 h16
  refine ⟨_, rfl, a, CL, dx, g3 (.ref tn) (.ref tg) (.ref ta), _, rfl, a8, L.cl, L.nA, rfl, ta, ws.map V.str, rfl, w8, fun D hD => dc_it walk_enumT (fun i Hi => Hi D = some (.dK (plc ws i)) ∧ Same H8 Hi) ⟨upd_same, same_new hD _⟩ (fun i Hi _ pv => Same.seqT pv.2 w8) ?_ ?_⟩
  · rintro i x Hi Hj hi ⟨di, si⟩ ⟨T0, y1, y2, rfl, hT0, rfl, e1, e2⟩
    obtain rfl : V.int (i : Nat) = y1 := Option.some.inj e1
    have e2 : (ws.map V.str)[i]? = some y2 := e2
    rw [List.getElem?_map] at e2
    obtain ⟨w0, hw0, rfl⟩ := Option.map_eq_some_iff.mp e2
    have hDT : D ≠ T0 := ne_of_none di hT0
    have hgd : ws.getD i "" = w0 := by
      rw [List.getD_eq_getElem?_getD, hw0]
      rfl
    have hpl := plc_len ws i
    rw [List.length_map] at hi
    refine ⟨T0, [.int (i : Nat), .str w0], rfl, SqT.of upd_same, rfl, .int (i : Nat), _, rfl, .str w0, _, rfl, rfl, rfl, _, rfl, _, rfl, plc ws i, .inr w0, rfl, (upd_ne hDT).trans di, by omega, ?_, fun b o e => (upd_ne (ne_of_none e hD)).trans ((upd_ne (ne_of_none (si _ _ e) hT0)).trans (si _ _ e))⟩
    have e3 : plc ws (i + 1) = putK (plc ws i) (.inr w0) (.int (i : Nat)) := by
      show putK (plc ws i) (.inr (ws.getD i "")) (.int (i : Nat)) = _
      rw [hgd]
    rw [e3]
    exact upd_same
  · rintro H9 ⟨d9, s9⟩
    rw [List.length_map] at d9
    refine ⟨_, rfl, a, CL, dx, g3 (.ref tn) (.ref tg) (.ref ta), rfl, s9 _ _ a8, L.cl, L.nP, (by show 3 < 1000; decide), ?_⟩
    rw [put4]
    have hDa : D ≠ a := fun z => by
      rw [z, a8] at hD
      cases hD
    have a9 := s9 _ _ a8
    refine q1 hv _ (o8.same s9).put ⟨dx, tn, tg, ta, D, upd_same, tupX_put a9 (n8.same s9), seq_put a9 (Same.seqT s9 t8), ?_, ?_⟩
    · rw [hws]
      exact seq_put a9 (Same.seqT s9 w8)
    · rw [hws]
      exact (upd_ne hDa).trans d9
end
end K1

set_option Elab.async false
set_option linter.all false
set_option maxRecDepth 100000
set_option maxHeartbeats 4000000
namespace K1
open PySem PySem.Spec PyProof.Rows L2 Fb
section
variable {P : Program} {w : World} {K : PySem.W.Frag} {mg : Str → Option Value} {base : Heap} {C : Str → Addr} {CL : Addr}
/-- __init__ of the letters, its parts as they are handed in -/
def spMkL (K : PySem.W.Frag) (C : Str → Addr) (CL : Addr) : Sp := fun vs H Q E => ∃ (a dx : Addr) (ts : List Addr) (ps : List (Str × Str)), vs = .ref a :: ts.map V.ref ∧ H a = some (.ins CL dx []) ∧ PairsAt K H ts ps ∧ Small ps ∧
  (verdict ps = none → ∀ H', Oth a H H' → LettersAt K CL H' a ps → Q .non H') ∧ (∀ e, verdict ps = some e → Raises C H E e)
theorem ok_init {f : Addr} {fd : FuncData} (F : Fun K "__init__" "Letters.__init__" sInit f fd) (L : LC K mg CL) (RC : Rd P w K mg base (L2.CX P w) 3 "_check_parts" ["parts"] (spCheck K C)) (RM : Rd P w K mg base (L2.CX P w) 3 "_check_many" ["parts"] (spMany K (C "TooMany"))) (RL : Rd P w K mg base CX0 1 "_letters_of" ["signs_in_order"] (spLettersOf K)) (mt : mg "tuple" = none) (me : mg "enumerate" = none) :
    FnR P w K mg base (L2.CX P w) 4 f (spMkL K C CL) := by
  obtain ⟨oc, od, kV, doc, pm, an, cdv, ct, osl, rfl, lk, hcd⟩ := F.ex
  have G := StX.fn_star (P := P) (w := w) (mg := mg) (base := base) (CX := L2.CX P w) (k := 3) (ps := ["self"]) (pv := "parts") (sp := spInit0 K C CL) lk hcd scInit StX.cxUp (StX.bind_star1 (B := fun us => bindArgs (PySem.W.fnOf "__init__" "Letters.__init__" (defArgs sInit) (defBody sInit) (defScope sInit) .none kV doc pm an cdv ct) ⟨us, []⟩) (p1 := "self") (pv := "parts") (fun a => by rfl) (fun a r rs => by rfl)) (fun A outer s H vs Q E hr h => init_body (w := w) (base := base) L RC RM RL mt me cdv A outer s H vs Q E hr h)
  refine G.imp fun vs H Q E h => ?_
  obtain ⟨a, dx, ts, ps, rfl, ha, hps, hsm, q1, q2⟩ := h
  have hz2 : sizeLine = 16777216 := sizeLine_eq
  have hlen := hps.len
  refine ⟨[.ref a], ts.map V.ref, rfl, rfl, by rw [List.length_map]; have := hsm.1; omega, fun p hp => ⟨a, dx, p, ps, rfl, (same_new hp _) _ _ ha, ⟨ts, SqT.of upd_same, hps.same (same_new hp _)⟩, hsm, fun hv H' o l => q1 hv H' (fun b u hb e => o b u hb ((same_new hp _) _ _ e)) l, fun e he => (q2 e he).same (same_new hp _)⟩⟩
end
end K1

set_option Elab.async false
set_option linter.all false
set_option maxRecDepth 100000
set_option maxHeartbeats 4000000
namespace Fb
open PySem PySem.Spec PyProof.Rows L2
theorem dpStrs {K : PySem.W.Frag} {H : Hp} : ∀ ys : List Str, DpAll K H (ys.map V.str) (ys.map PyData.str)
  | [] => .nil
  | y :: r => .cons (.str y) (dpStrs r)
theorem eqvStrs : ∀ xs ys : List Str, PyData.eqvAll (xs.map PyData.str) (ys.map PyData.str) = decide (xs = ys)
  | [], [] => rfl
  | [], y :: s => by
    show false = _
    rw [decide_eq_false (fun h => nomatch h)]
  | x :: r, [] => by
    show false = _
    rw [decide_eq_false (fun h => nomatch h)]
  | x :: r, y :: s => by
    show ((x == y) && PyData.eqvAll (r.map PyData.str) (s.map PyData.str)) = _
    rw [eqvStrs r s, Bool.eq_iff_iff, Bool.and_eq_true, beq_iff_eq, decide_eq_true_iff, decide_eq_true_iff, List.cons.injEq]
/-- signs of moderate codes -/
def Low (z : Str) : Prop := ∀ c ∈ TL.tl z, c < 1000
theorem lowOk {z : Str} (h : Low z) : PyData.canLay0 (.str z) = true := by
  simp only [PyData.canLay0]
  show z.cps.all (· < 0x110000) = true
  rw [Array.all_eq_true']
  intro c hc
  have : c < 1000 := h c (by simpa using hc)
  exact decide_eq_true (by omega)
theorem layStrs : ∀ {ys : List Str}, (∀ y ∈ ys, Low y) → PyData.canLayAll0 (ys.map PyData.str) = true
  | [], _ => by simp [PyData.canLayAll0]
  | y :: r, h => by
    have h1 := lowOk (h y List.mem_cons_self)
    have h2 := layStrs (ys := r) fun z hz => h z (List.mem_cons_of_mem _ hz)
    simp only [List.map_cons, PyData.canLayAll0, h1, h2, Bool.and_true]
theorem depStrs : ∀ ys : List Str, PyData.depthAll (ys.map PyData.str) = 0
  | [] => by simp [PyData.depthAll]
  | y :: r => by
    have h1 := depStrs r
    simp only [List.map_cons, PyData.depthAll, PyData.depth, h1]
    rfl
theorem shapedT {ys : List Str} (h : ∀ y ∈ ys, Low y) : SeqAt.shaped (.tuple (ys.map PyData.str)) = true := by
  show (PyData.canLay0 (.tuple (ys.map PyData.str)) && decide (PyData.depth (.tuple (ys.map PyData.str)) ≤ 64)) = true
  simp only [PyData.canLay0, PyData.depth, layStrs h, depStrs]
  rfl
/-- pairs of texts as data -/
abbrev dPair (p : Str × Str) : PyData := .tuple [.str p.1, .str p.2]
theorem dpPairs {K : PySem.W.Frag} {H : Hp} : ∀ {ts : List Addr} {ps : List (Str × Str)}, PairsAt K H ts ps → DpAll K H (ts.map V.ref) (ps.map dPair)
  | [], [], _ => .nil
  | _ :: _, p :: _, h => .cons (.tup h.1 (.cons (.str p.1) (.cons (.str p.2) .nil))) (dpPairs h.2)
theorem eqvPairs : ∀ xs ys : List (Str × Str), PyData.eqvAll (xs.map dPair) (ys.map dPair) = decide (xs = ys)
  | [], [] => rfl
  | [], y :: s => by
    show false = _
    rw [decide_eq_false (fun h => nomatch h)]
  | x :: r, [] => by
    show false = _
    rw [decide_eq_false (fun h => nomatch h)]
  | (a, b) :: r, (c, d) :: s => by
    show (((a == c) && ((b == d) && true)) && PyData.eqvAll (r.map dPair) (s.map dPair)) = _
    rw [eqvPairs r s, Bool.eq_iff_iff, Bool.and_true, Bool.and_eq_true, Bool.and_eq_true, beq_iff_eq, beq_iff_eq, decide_eq_true_iff, decide_eq_true_iff, List.cons.injEq, Prod.mk.injEq]
theorem layPairs : ∀ {ys : List (Str × Str)}, (∀ y ∈ ys, Low y.1 ∧ Low y.2) → PyData.canLayAll0 (ys.map dPair) = true
  | [], _ => by simp [PyData.canLayAll0]
  | y :: r, h => by
    have h1 := h y List.mem_cons_self
    have h2 := layPairs (ys := r) fun z hz => h z (List.mem_cons_of_mem _ hz)
    simp only [List.map_cons, PyData.canLayAll0, PyData.canLay0, h2, Bool.and_true]
    have e1 := lowOk h1.1
    have e2 := lowOk h1.2
    simp only [PyData.canLay0] at e1 e2
    rw [e1, e2]
    rfl
theorem depPairs : ∀ ys : List (Str × Str), PyData.depthAll (ys.map dPair) ≤ 1
  | [] => by simp [PyData.depthAll]
  | y :: r => by
    have h1 := depPairs r
    simp only [List.map_cons, PyData.depthAll, PyData.depth]
    omega
theorem shapedP {ys : List (Str × Str)} (h : ∀ y ∈ ys, Low y.1 ∧ Low y.2) : SeqAt.shaped (.list (ys.map dPair)) = true := by
  have h1 := depPairs ys
  show (PyData.canLay0 (.list (ys.map dPair)) && decide (PyData.depth (.list (ys.map dPair)) ≤ 64)) = true
  simp only [PyData.canLay0, PyData.depth, layPairs h, Bool.true_and]
  exact decide_eq_true (by omega)
theorem low_name {z : Str} (h : isName z = true) : Low z := fun c hc => by
  have h1 := (isName_len h).2.2 c hc
  have h2 : ∀ c ∈ lowers.cps.toList, c < 1000 := by decide +kernel
  exact h2 c h1
theorem low_signs {z : Str} (h : areSigns z = true) : Low z := fun c hc => by
  have h1 := (areSigns_len h).2.2.2 c hc
  have h2 : ∀ c ∈ signsS.cps.toList, c < 1000 := by decide +kernel
  exact h2 c h1
theorem GoodPs.low {ps : List (Str × Str)} (g : GoodPs ps) : ∀ p ∈ ps, Low p.1 ∧ Low p.2 := fun p hp => ⟨low_name (g.mem hp).1, low_signs (g.mem hp).2⟩
theorem zip_eq {ps qs : List (Str × Str)} (h1 : ps.map (·.1) = qs.map (·.1)) (h2 : ps.map (·.2) = qs.map (·.2)) : ps = qs := by
  have h : ∀ (l : List (Str × Str)), l = (l.map (·.1)).zip (l.map (·.2)) := fun l => by
    induction l with
    | nil => rfl
    | cons p r ih =>
      show p :: r = (p.1, p.2) :: (r.map (·.1)).zip (r.map (·.2))
      rw [← ih]
  rw [h ps, h qs, h1, h2]
end Fb

set_option Elab.async false
set_option linter.all false
set_option maxRecDepth 100000
set_option maxHeartbeats 4000000
namespace Fb
open PySem PySem.Spec PyProof.Rows L2
/-- a text of moderate length -/
theorem fm_any {K : PySem.W.Frag} {H : Hp} {z : Str} (h : z.length ≤ 60) (hl : Low z) : Fm K H (.str z) := by
  have h1 : (reprText z).length ≤ 10 * z.length + 2 := StrLaws.reprText_len z fun c hc => Nat.lt_trans (hl c hc) (by decide)
  exact ⟨.str z, 10, 1000, 2, .str z, .str z (by omega) (by omega), by decide, by decide +kernel, by decide⟩
end Fb
namespace K1
open PySem PySem.Spec PyProof.Rows L2 Fb
abbrev sM (i : Nat) : Stmt := inClass (top 20) i
theorem l_all {tn ts ta d : Addr} : (lfs tn ts ta d).lookup ("_all" : Str) = some (.ref ta) := rfl
theorem l_places {tn ts ta d : Addr} : (lfs tn ts ta d).lookup ("_places" : Str) = some (.ref d) := rfl
theorem l_names {tn ts ta d : Addr} : (lfs tn ts ta d).lookup ("names" : Str) = some (.ref tn) := rfl
theorem l_signs {tn ts ta d : Addr} : (lfs tn ts ta d).lookup ("signs" : Str) = some (.ref ts) := rfl
section
variable {P : Program} {w : World} {K : PySem.W.Frag} {mg : Str → Option Value} {base : Heap} {C : Str → Addr} {CL : Addr}
/-! ### listed, is_letter, in, len -/
theorem sc1 : FnScope ["self"] ["self"] (defScope (sM 1)) := ⟨rfl, rfl, rfl, by decide +kernel, rfl, by decide +kernel, by decide +kernel⟩
theorem sc9 : FnScope ["self"] ["self"] (defScope (sM 9)) := ⟨rfl, rfl, rfl, by decide +kernel, rfl, by decide +kernel, by decide +kernel⟩
theorem sc2 : FnScope ["self", "text"] ["self", "text"] (defScope (sM 2)) := ⟨rfl, rfl, rfl, by decide +kernel, rfl, by decide +kernel, by decide +kernel⟩
theorem sc10 : FnScope ["self", "text"] ["self", "text"] (defScope (sM 10)) := ⟨rfl, rfl, rfl, by decide +kernel, rfl, by decide +kernel, by decide +kernel⟩
theorem sc3 : FnScope ["self", "letter"] ["self", "letter"] (defScope (sM 3)) := ⟨rfl, rfl, rfl, by decide +kernel, rfl, by decide +kernel, by decide +kernel⟩
def spListedM (K : PySem.W.Frag) (CL : Addr) : Sp := fun vs H Q _ => ∃ (a : Addr) (ps : List (Str × Str)), vs = [.ref a] ∧ LettersAt K CL H a ps ∧ ∀ (l : Addr) (H' : Hp), Same H H' → H l = none → H' l = some (.lst ((lettersOf ps).map V.str)) → Q (.ref l) H'
theorem ok_m_listed {f : Addr} {fd : FuncData} (F : Fun K "listed" "Letters.listed" (sM 1) f fd) (L : LC K mg CL) (ml : mg "list" = none) : FnOk P w K mg base CX0 1 f fd ["self"] (spListedM K CL) := by
  refine F.ok sc1 (fun vs H Q E h => ?_) (fun cdv A outer s H vs Q E hr h => ?_)
  · obtain ⟨a, ps, rfl, _⟩ := h
    rfl
  obtain ⟨a, ps, rfl, ⟨dx, tn, ts, ta, d, h1, h2, h3, h4, h5⟩, q⟩ := h
  refine ⟨_, pss_one (ps_ret (pe_callTy call_list_of rfl ml (by decide +kernel) (pa_cons (pe_fld (pv 0) rfl) pa_nil))), ?_⟩
  exact ⟨_, rfl, a, CL, dx, _, _, rfl, h1, L.cl, L.nA, l_all, ta, _, rfl, .inr (Same.seqT (Same.refl _) h4), fun l hl => q l _ (same_new hl _) hl upd_same⟩
def spIsLetter (K : PySem.W.Frag) (CL : Addr) : Sp := fun vs H Q _ => ∃ (a : Addr) (z : Str) (ps : List (Str × Str)), vs = [.ref a, .str z] ∧ GoodPs ps ∧ LettersAt K CL H a ps ∧ ∀ H', Same H H' → Q (.bl (decide (z ∈ lettersOf ps))) H'
theorem ok_m_is {f : Addr} {fd : FuncData} (F : Fun K "is_letter" "Letters.is_letter" (sM 2) f fd) (L : LC K mg CL) : FnOk P w K mg base CX0 1 f fd ["self", "text"] (spIsLetter K CL) := by
  refine F.ok sc2 (fun vs H Q E h => ?_) (fun cdv A outer s H vs Q E hr h => ?_)
  · obtain ⟨a, z, ps, rfl, _⟩ := h
    rfl
  obtain ⟨a, z, ps, rfl, G, ⟨dx, tn, ts, ta, d, h1, h2, h3, h4, h5⟩, q⟩ := h
  refine ⟨_, pss_one (ps_ret (pe_cmp (pc_din (hu_of hr) (pv 1) (pe_fld (pv 0) rfl)) rfl)), ?_⟩
  refine ⟨_, rfl, _, rfl, a, CL, dx, _, _, rfl, h1, L.cl, L.nP, l_places, d, _, rfl, DGet.k (k := Sum.inr z) h5, ?_⟩
  rw [plc_isSome G.letters]
  exact q _ (Same.refl _)
theorem ok_m_in {f : Addr} {fd : FuncData} (F : Fun K "__contains__" "Letters.__contains__" (sM 10) f fd) (L : LC K mg CL) : FnOk P w K mg base CX0 1 f fd ["self", "text"] (spIsLetter K CL) := by
  refine F.ok sc10 (fun vs H Q E h => ?_) (fun cdv A outer s H vs Q E hr h => ?_)
  · obtain ⟨a, z, ps, rfl, _⟩ := h
    rfl
  obtain ⟨a, z, ps, rfl, G, ⟨dx, tn, ts, ta, d, h1, h2, h3, h4, h5⟩, q⟩ := h
  refine ⟨_, pss_one (ps_ret (pe_cmp (pc_din (hu_of hr) (pv 1) (pe_fld (pv 0) rfl)) rfl)), ?_⟩
  refine ⟨_, rfl, _, rfl, a, CL, dx, _, _, rfl, h1, L.cl, L.nP, l_places, d, _, rfl, DGet.k (k := Sum.inr z) h5, ?_⟩
  rw [plc_isSome G.letters]
  exact q _ (Same.refl _)
def spLen (K : PySem.W.Frag) (CL : Addr) : Sp := fun vs H Q _ => ∃ (a : Addr) (ps : List (Str × Str)), vs = [.ref a] ∧ GoodPs ps ∧ LettersAt K CL H a ps ∧ ∀ H', Same H H' → Q (.int (lettersOf ps).length) H'
theorem ok_m_len {f : Addr} {fd : FuncData} (F : Fun K "__len__" "Letters.__len__" (sM 9) f fd) (L : LC K mg CL) (ml : mg "len" = none) : FnOk P w K mg base CX0 1 f fd ["self"] (spLen K CL) := by
  refine F.ok sc9 (fun vs H Q E h => ?_) (fun cdv A outer s H vs Q E hr h => ?_)
  · obtain ⟨a, ps, rfl, _⟩ := h
    rfl
  obtain ⟨a, ps, rfl, G, ⟨dx, tn, ts, ta, d, h1, h2, h3, h4, h5⟩, q⟩ := h
  refine ⟨_, pss_one (ps_ret (pe_callB call_len_seq rfl ml PySem.boot_len (pa_cons (pe_fld (pv 0) rfl) pa_nil))), ?_⟩
  refine ⟨_, rfl, a, CL, dx, _, _, rfl, h1, L.cl, L.nA, l_all, ta, _, rfl, .inr h4, ?_⟩
  rw [List.length_map]
  exact q _ (Same.refl _)
/-! ### place -/
def spPlace (K : PySem.W.Frag) (C : Str → Addr) (CL : Addr) : Sp := fun vs H Q E => ∃ (a : Addr) (z : Str) (ps : List (Str × Str)), vs = [.ref a, .str z] ∧ GoodPs ps ∧ LettersAt K CL H a ps ∧ z.length ≤ 60 ∧ Low z ∧
  (∀ j : Nat, (lettersOf ps)[j]? = some z → ∀ H', Same H H' → Q (.int j) H') ∧ (z ∉ lettersOf ps → Raises C H E ("BadNumber", [V.str z]))
theorem ok_m_place {f : Addr} {fd : FuncData} (F : Fun K "place" "Letters.place" (sM 3) f fd) (L : LC K mg CL) (T : Tab P w K mg base C) : FnOk P w K mg base (L2.CX P w) 3 f fd ["self", "letter"] (spPlace K C CL) := by
  refine F.okX sc3 (fun vs H Q E h => ?_) (fun cdv A outer s H vs Q E hr h => ?_)
  · obtain ⟨a, z, ps, rfl, _⟩ := h
    rfl
  obtain ⟨a, z, ps, rfl, G, ⟨dx, tn, ts, ta, d, h1, h2, h3, h4, h5⟩, hz, hl, q1, q2⟩ := h
  refine ⟨_, pss_cons (ps_if (pt_cmp (pc_dnotin (hu_of hr) (pv 1) (pe_fld (pv 0) rfl))) (pss_one (ps_raise rfl (takes_of rfl rfl rfl rfl) (pmk_cl1 T.cBadNumber hr rfl pass0 (pa_cons (pv 1) pa_nil)))) pss_nil)
    (pss_one (ps_ret (pe_dget (hu_of hr) (pe_fld (pv 0) rfl) (pv 1) (fun _ _ => rfl)))), ?_⟩
  refine ⟨_, rfl, _, rfl, a, CL, dx, _, _, rfl, h1, L.cl, L.nP, l_places, d, _, rfl, DGet.k (k := Sum.inr z) h5, _, rfl, ?_⟩
  rw [plc_isSome G.letters]
  by_cases hm : z ∈ lettersOf ps
  · rw [decide_eq_true hm]
    obtain ⟨j, hj⟩ := List.mem_iff_getElem?.mp hm
    refine iteF ⟨_, rfl, a, CL, dx, _, _, rfl, h1, L.cl, L.nP, l_places, _, rfl, d, .int (j : Nat), rfl, ?_, q1 j hj _ (Same.refl _)⟩
    have e := DGet.k (k := Sum.inr z) h5
    rw [plc_at G.letters hj] at e
    exact e
  · rw [decide_eq_false hm]
    refine iteT ⟨_, rfl, rfl, rai_sp ⟨rfl, fun y hy => ?_, fun d' H' s' hd hx => q2 hm d' H' s' hd hx⟩⟩
    obtain rfl : y = .str z := by simpa using hy
    exact fm_any hz hl
end
end K1

set_option Elab.async false
set_option linter.all false
set_option maxRecDepth 100000
set_option maxHeartbeats 4000000
namespace Fb
open PySem PySem.Spec PyProof.Rows L2
/-- the place of a name -/
def nameAt (ps : List (Str × Str)) (n : Str) : Nat := (ps.map (·.1)).idxOf n
theorem nameAt_get {ps : List (Str × Str)} {n : Str} (h : n ∈ ps.map (·.1)) : (ps.map (·.1))[nameAt ps n]? = some n ∧ nameAt ps n < ps.length ∧ ∀ m, m < nameAt ps n → (ps.map (·.1))[m]? ≠ some n := by
  have h1 : nameAt ps n < (ps.map (·.1)).length := List.idxOf_lt_length_iff.mpr h
  refine ⟨?_, by rwa [List.length_map] at h1, fun m hm e => ?_⟩
  · rw [List.getElem?_eq_getElem h1]
    exact congrArg some (List.getElem_idxOf h1)
  · have hml := (List.getElem?_eq_some_iff.mp e)
    obtain ⟨hlt, he⟩ := hml
    have h2 := List.not_of_lt_findIdx (p := (· == n)) (xs := ps.map fun x => x.1) (i := m) (by unfold nameAt List.idxOf at hm; exact hm)
    rw [he] at h2
    simp at h2
end Fb
namespace K1
open PySem PySem.Spec PyProof.Rows L2 Fb
section
variable {P : Program} {w : World} {K : PySem.W.Frag} {mg : Str → Option Value} {base : Heap} {C : Str → Addr} {CL : Addr}
theorem sc4 : FnScope ["self", "name"] ["self", "name"] (defScope (sM 4)) := ⟨rfl, rfl, rfl, by decide +kernel, rfl, by decide +kernel, by decide +kernel⟩
def spSignsOf (K : PySem.W.Frag) (C : Str → Addr) (CL : Addr) : Sp := fun vs H Q E => ∃ (a : Addr) (z : Str) (ps : List (Str × Str)), vs = [.ref a, .str z] ∧ LettersAt K CL H a ps ∧ z.length ≤ 60 ∧ Low z ∧
  (z ∈ ps.map (·.1) → ∀ p, ps[nameAt ps z]? = some p → ∀ H', Same H H' → Q (.str p.2) H') ∧ (z ∉ ps.map (·.1) → Raises C H E ("UnknownPart", [V.str z]))
theorem ok_m_signs {f : Addr} {fd : FuncData} (F : Fun K "signs_of" "Letters.signs_of" (sM 4) f fd) (L : LC K mg CL) (T : Tab P w K mg base C) : FnOk P w K mg base (L2.CX P w) 3 f fd ["self", "name"] (spSignsOf K C CL) := by
  refine F.okX sc4 (fun vs H Q E h => ?_) (fun cdv A outer s H vs Q E hr h => ?_)
  · obtain ⟨a, z, ps, rfl, _⟩ := h
    rfl
  obtain ⟨a, z, ps, rfl, ⟨dx, tn, ts, ta, d, h1, h2, h3, h4, h5⟩, hz, hl, q1, q2⟩ := h
  refine ⟨_, pss_cons (ps_if (pt_cmpR op_notIn_seq (pv 1) (pe_fld (pv 0) rfl) rfl) (pss_one (ps_raise rfl (takes_of rfl rfl rfl rfl) (pmk_cl1 T.cUnknownPart hr rfl pass0 (pa_cons (pv 1) pa_nil)))) pss_nil)
    (pss_one (ps_ret (pe_ix ix_tup (pe_fld (pv 0) rfl) (pe_tidx (pe_fld (pv 0) rfl) (pa_cons (pv 1) pa_nil)) (fun _ _ => rfl)))), ?_⟩
  refine ⟨_, rfl, _, rfl, a, CL, dx, _, _, rfl, h1, L.cl, L.nN, l_names, tn, _, rfl, .inr h2.seq, rfl, Fb.flat_strs _, _, rfl, ?_⟩
  by_cases hm : z ∈ ps.map (·.1)
  · have hi : (!inV (.str z) ((ps.map (·.1)).map V.str)) = false := by rw [inV_strs, decide_eq_true hm]; rfl
    obtain ⟨g1, g2, g3⟩ := nameAt_get hm
    have hat : atI ((ps.map (·.2)).map V.str) ((nameAt ps z : Nat) : Int) = some (.str (ps[nameAt ps z]).2) := by
      refine atI_nat ?_
      rw [List.getElem?_map, List.getElem?_map, List.getElem?_eq_getElem g2]
      rfl
    show (if (!inV (.str z) ((ps.map (·.1)).map V.str)) = true then _ else _)
    refine iteN hi ?_
    exact ⟨_, rfl, a, CL, dx, _, _, rfl, h1, L.cl, L.nS, l_signs, _, rfl, a, CL, dx, _, _, rfl, h1, L.cl, L.nN, l_names, tn, _, rfl, h2, _, rfl, ps.map (·.1), z, nameAt ps z, rfl, h2.seq, g1, g3, ts, _, _, _, rfl, rfl, h3, hat, q1 hm _ (List.getElem?_eq_getElem g2) _ (Same.refl _)⟩
  · have hi : (!inV (.str z) ((ps.map (·.1)).map V.str)) = true := by rw [inV_strs, decide_eq_false hm]; rfl
    show (if (!inV (.str z) ((ps.map (·.1)).map V.str)) = true then _ else _)
    refine iteY hi ⟨_, rfl, rfl, rai_sp ⟨rfl, fun y hy => ?_, fun d' H' s' hd hx => q2 hm d' H' s' hd hx⟩⟩
    obtain rfl : y = .str z := by simpa using hy
    exact fm_any hz hl
end
end K1

set_option Elab.async false
set_option linter.all false
set_option maxRecDepth 100000
set_option maxHeartbeats 4000000
/-! what may be a list or a tuple, walked -/
namespace Fb
open PySem PySem.Spec PyProof.Rows L2
def ItSeq (K : PySem.W.Frag) (H : Hp) (a : Addr) (J : It) : Prop := (J = Itl K a ∧ ∃ xs, SqL K H a xs) ∨ (J = Itt K a ∧ ∃ xs, SqT K H a xs)
def iSeq (K : PySem.W.Frag) (tl : TE) : TI := fun σ H R => tl σ H fun x H1 => ∃ a J, x = .ref a ∧ ItSeq K H1 a J ∧ R J H1
theorem pi_seq {X : Cx} {tg l : Expr} {tl : TE} (hl : PE X l tl) : PI X tg l (iSeq X.K tl) := by
  refine ⟨fun pins s σ H R I h => ?_⟩
  refine thn (hl.run pins s σ H _ I h) fun v s1 ⟨x, H1, I1, r1, a, J, ex, hj, q⟩ => ?_
  subst ex
  obtain rfl := r1
  have fp : ∀ b ∈ [s1.heap.objs.size], FpOk X pins H1 b := fun b hb => by
    rw [List.mem_singleton.mp hb]
    exact I1.fpOk (Nat.le_refl _) (I1.hok.fresh (Nat.le_refl _))
  rcases hj with ⟨rfl, xs, hq⟩ | ⟨rfl, xs, hq⟩
  · obtain ⟨its, rv, p, hz⟩ := I1.list hq
    refine wpAny_pyIter_list p.isList ?_
    exact ⟨s1.heap.objs.size, [s1.heap.objs.size], _, _, H1, rfl, I1.kept (t' := s1.toks) fun b o e => Heap.get?_push_of_some _ e, turn_list a _, ⟨_, Heap.get?_push_size _ rfl, rfl, rfl⟩, fp, q⟩
  · obtain ⟨its, rv, p, hz⟩ := I1.tuple hq
    refine wpAny_pyIter_tuple (show s1.heap.IsTuple a its.toArray from p) ?_
    exact ⟨s1.heap.objs.size, [s1.heap.objs.size], _, _, H1, rfl, I1.kept (t' := s1.toks) fun b o e => Heap.get?_push_of_some _ e, turn_tuple a _, ⟨_, Heap.get?_push_size _ rfl, rfl, rfl⟩, fp, q⟩
def SeqA (K : PySem.W.Frag) (H : Hp) (a : Addr) (xs : List V) : Prop := SqL K H a xs ∨ SqT K H a xs
theorem SeqA.same {K : PySem.W.Frag} {H H' : Hp} {a : Addr} {xs : List V} (h : SeqA K H a xs) (s : Same H H') : SeqA K H' a xs := h.imp (fun h => s.seq h) fun h => Same.seqT s h
theorem seq_walk {K : PySem.W.Frag} {H : Hp} {a : Addr} {xs : List V} (h : SeqA K H a xs) : ∃ J, ItSeq K H a J ∧ Walk J xs.length (fun Hi => Same H Hi) (YAt xs) := by
  rcases h with h | h
  · exact ⟨_, .inl ⟨rfl, _, h⟩, walk_list.mono (fun Hi s => s.seq h) fun i H x H' _ _ y => y⟩
  · exact ⟨_, .inr ⟨rfl, _, h⟩, walk_tup.mono (fun Hi s => Same.seqT s h) fun i H x H' _ _ y => y⟩
end Fb

set_option Elab.async false
set_option linter.all false
set_option maxRecDepth 100000
set_option maxHeartbeats 4000000
namespace Fb
open PySem PySem.Spec PyProof.Rows L2
/-- the sign of a letter at the part with a name -/
def signAt (ps : List (Str × Str)) (z n : Str) : Nat := z.cps.toList.getD (nameAt ps n) 0
def seenT (ps : List (Str × Str)) (z : Str) (names : List Str) : Str := Txt.join (Str.ofString "") (names.map fun n => (⟨#[signAt ps z n]⟩ : Str))
end Fb
namespace K1
open PySem PySem.Spec PyProof.Rows L2 Fb
section
variable {P : Program} {w : World} {K : PySem.W.Frag} {mg : Str → Option Value} {base : Heap} {C : Str → Addr} {CL : Addr}
abbrev NSeenM : List Str := ["self", "letter", "names", "name"]
theorem sc5 : FnScope NSeenM ["self", "letter", "names"] (defScope (sM 5)) := ⟨rfl, rfl, rfl, by decide +kernel, rfl, by decide +kernel, by decide +kernel⟩
def spSeenM (K : PySem.W.Frag) (C : Str → Addr) (CL : Addr) : Sp := fun vs H Q E => ∃ (a n : Addr) (z : Str) (ps : List (Str × Str)) (names : List Str), vs = [.ref a, .str z, .ref n] ∧ GoodPs ps ∧ LettersAt K CL H a ps ∧ z.length ≤ 60 ∧ Low z ∧ SeqA K H n (names.map V.str) ∧ names.length ≤ 1000 ∧ (∀ t ∈ names, t.length ≤ 60 ∧ Low t) ∧
  (z ∉ lettersOf ps → Raises C H E ("BadNumber", [V.str z])) ∧ (z ∈ lettersOf ps → (∀ (i : Nat) (t : Str), names[i]? = some t → t ∉ ps.map (·.1) → (∀ j < i, ∀ u, names[j]? = some u → u ∈ ps.map (·.1)) → Raises C H E ("UnknownPart", [V.str t])) ∧
    ((∀ t ∈ names, t ∈ ps.map (·.1)) → ∀ H', Same H H' → Q (.str (seenT ps z names)) H'))
theorem ok_m_seen {f : Addr} {fd : FuncData} (F : Fun K "seen" "Letters.seen" (sM 5) f fd) (L : LC K mg CL) (T : Tab P w K mg base C) : FnOk P w K mg base (L2.CX P w) 3 f fd ["self", "letter", "names"] (spSeenM K C CL) := by
  refine F.okX sc5 (fun vs H Q E h => ?_) (fun cdv A outer s H vs Q E hr h => ?_)
  · obtain ⟨a, n, z, ps, names, rfl, _⟩ := h
    rfl
  obtain ⟨a, n, z, ps, names, rfl, G, ⟨dx, tn, ts, ta, d, h1, h2, h3, h4, h5⟩, hz, hl, hn, hnl, hna, q1, q2⟩ := h
  refine ⟨_, pss_cons (ps_if (pt_cmp (pc_dnotin (hu_of hr) (pv 1) (pe_fld (pv 0) rfl))) (pss_one (ps_raise rfl (takes_of rfl rfl rfl rfl) (pmk_cl1 T.cBadNumber hr rfl pass0 (pa_cons (pv 1) pa_nil)))) pss_nil)
    (pss_cons (ps_for (passes_of rfl) rfl (pi_seq (pv 2)) (pg_name (i := 3) sc5.nd rfl (Or.inl rfl))
      (pss_one (ps_if (pt_cmpR op_notIn_seq (pv 3) (pe_fld (pv 0) rfl) rfl) (pss_one (ps_raise rfl (takes_of rfl rfl rfl rfl) (pmk_cl1 T.cUnknownPart hr rfl pass0 (pa_cons (pv 3) pa_nil)))) pss_nil)))
    (pss_one (ps_ret (pe_join pe_str (pe_lc (own := [("name", 3)]) (g := gName 3) (tt := tYes) (te := tOp rIxS (tVar 1) (fun σ H Q => tFld K (tVar 0) "names" σ H fun x H1 => ∃ p xs, x = .ref p ∧ TupX H1 p xs ∧ tCons (tVar 3) tNil σ H1 fun vs H2 => ∃ (ys : List Str) (z : Str) (j : Nat), vs = [.str z] ∧ SqT K H2 p (ys.map V.str) ∧ ys[j]? = some z ∧ (∀ m, m < j → ys[m]? ≠ some z) ∧ Q (.int (j : Nat)) H2)) rfl sc5.nd (pi_seq (pv 2)) (blkOk_by (N := NSeenM) (sc := defScope (sM 5)) (by decide +kernel))
        (fun _ _ _ _ _ => pg_name (i := 3) sc5.nd rfl (Or.inl rfl)) (fun _ _ _ _ _ => pts_nil) (fun _ _ _ _ _ => pe_ix ix_str (pv 1) (pe_tidx (pe_fld (pv 0) rfl) (pa_cons (pv 3) pa_nil)) (fun _ _ => rfl))))))), ?_⟩
  refine ⟨_, rfl, _, rfl, a, CL, dx, _, _, rfl, h1, L.cl, L.nP, l_places, d, _, rfl, DGet.k (k := Sum.inr z) h5, _, rfl, ?_⟩
  rw [plc_isSome G.letters]
  by_cases hm : z ∈ lettersOf ps
  · rw [decide_eq_true hm]
    obtain ⟨q3, q4⟩ := q2 hm
    have hz2 : sizeLine = 16777216 := sizeLine_eq
    obtain ⟨J, hJ, W⟩ := seq_walk hn
    have hzl : z.length = ps.length := by
      have := listed_word hm
      rw [List.length_map] at this
      exact this
    refine iteF ⟨_, rfl, n, J, rfl, hJ, for_it W (fun i σ Hi => Same H Hi ∧ (∀ j < i, ∀ u, names[j]? = some u → u ∈ ps.map (·.1)) ∧ ∃ v3, σ = [some (.ref a), some (.str z), some (.ref n), v3]) ⟨Same.refl _, fun j hj => absurd hj (Nat.not_lt_zero j), _, rfl⟩ (fun i σ Hi _ h => h.1) ?_ ?_⟩
    · rintro i x σ Hi Hj hi ⟨si, hno, v3, rfl⟩ ⟨rfl, hx⟩
      rw [List.getElem?_map] at hx
      obtain ⟨t, ht, rfl⟩ := Option.map_eq_some_iff.mp hx
      refine ⟨_, rfl, _, rfl, a, CL, dx, _, _, rfl, si _ _ h1, L.cl, L.nN, l_names, tn, _, rfl, .inr (h2.same si).seq, rfl, Fb.flat_strs _, _, rfl, ?_⟩
      by_cases hmt : t ∈ ps.map (·.1)
      · have hb : (!inV (.str t) ((ps.map (·.1)).map V.str)) = false := by rw [inV_strs, decide_eq_true hmt]; rfl
        show (if (!inV (.str t) ((ps.map (·.1)).map V.str)) = true then _ else _)
        refine iteN hb ⟨si, fun j hj u hu => ?_, _, rfl⟩
        by_cases hji : j = i
        · rw [hji, ht] at hu
          cases hu
          exact hmt
        · exact hno j (by omega) u hu
      · have hb : (!inV (.str t) ((ps.map (·.1)).map V.str)) = true := by rw [inV_strs, decide_eq_false hmt]; rfl
        show (if (!inV (.str t) ((ps.map (·.1)).map V.str)) = true then _ else _)
        refine iteY hb ⟨_, rfl, rfl, rai_sp ⟨rfl, fun y hy => ?_, fun d' H' s' hd hx => (q3 i t ht hmt hno).same si d' H' s' hd hx⟩⟩
        obtain rfl : y = .str t := by simpa using hy
        have := hna t (List.mem_of_getElem? ht)
        exact fm_any this.1 this.2
    · rintro σ Hi ⟨si, hno, v3, rfl⟩
      rw [List.length_map] at hno
      have hall : ∀ t ∈ names, t ∈ ps.map (·.1) := fun t ht => by
        obtain ⟨j, hj⟩ := List.mem_iff_getElem?.mp ht
        exact hno j (List.getElem?_eq_some_iff.mp hj).1 t hj
      obtain ⟨J2, hJ2, W2⟩ := seq_walk (hn.same si)
      refine ⟨⟨_, rfl⟩, _, rfl, n, J2, rfl, hJ2, fun D hD => lc_it W2 (fun i Hk => Hk D = some (.lst (((names.take i).map fun n => (⟨#[signAt ps z n]⟩ : Str)).map V.str)) ∧ Same Hi Hk) ⟨by rw [List.take_zero]; exact upd_same, same_new hD _⟩ (fun i Hk _ pv => pv.2) ?_ ?_⟩
      · rintro i x Hk Hj hi ⟨pk, sk⟩ ⟨rfl, hx⟩
        rw [List.getElem?_map] at hx
        obtain ⟨t, ht, rfl⟩ := Option.map_eq_some_iff.mp hx
        have hmt := hall t (List.mem_of_getElem? ht)
        obtain ⟨e1, e2, e3⟩ := nameAt_get hmt
        have hzc : nameAt ps t < z.cps.toList.length := by
          have : z.cps.toList.length = z.length := by simp [Str.length]
          omega
        have hat : atI z.cps.toList ((nameAt ps t : Nat) : Int) = some (signAt ps z t) := by
          refine atI_nat ?_
          unfold signAt
          rw [List.getD_eq_getElem?_getD, List.getElem?_eq_getElem hzc]
          rfl
        have st := si.trans sk
        refine ⟨rfl, _, rfl, _, rfl, a, CL, dx, _, _, rfl, st _ _ h1, L.cl, L.nN, l_names, tn, _, rfl, h2.same st, _, rfl, ps.map (·.1), t, nameAt ps t, rfl, (h2.same st).seq, e1, e3, z, _, _, rfl, rfl, by omega, hat, _, pk, ?_, ?_, fun b o e => (upd_ne (ne_of_none e hD)).trans (sk _ _ e)⟩
        · rw [List.length_map, List.length_map, List.length_take]
          omega
        · have e : names.take (i + 1) = names.take i ++ [t] := by rw [List.take_succ, ht]; rfl
          rw [e, List.map_append, List.map_append]
          exact upd_same
      · rintro Hk ⟨pk, sk⟩
        rw [List.length_map, List.take_of_length_le (Nat.le_refl _)] at pk
        refine ⟨_, D, names.map fun n => (⟨#[signAt ps z n]⟩ : Str), rfl, rfl, .inl (SqL.of pk), ?_, q4 hall _ (si.trans sk)⟩
        have e := sum_ones (names.map fun n => (⟨#[signAt ps z n]⟩ : Str)) fun y hy => by
          obtain ⟨c, _, rfl⟩ := List.mem_map.mp hy
          rfl
        rw [e, List.length_map]
        show names.length + names.length * 0 ≤ _
        omega
  · rw [decide_eq_false hm]
    refine iteT ⟨_, rfl, rfl, rai_sp ⟨rfl, fun y hy => ?_, fun d' H' s' hd hx => q1 hm d' H' s' hd hx⟩⟩
    obtain rfl : y = .str z := by simpa using hy
    exact fm_any hz hl
end
end K1

set_option Elab.async false
set_option linter.all false
set_option maxRecDepth 100000
set_option maxHeartbeats 4000000
namespace Fb
open PySem PySem.Spec PyProof.Rows L2
theorem GoodPs.len {ps : List (Str × Str)} (g : GoodPs ps) : ∀ p ∈ ps, p.1.length ≤ 6 ∧ p.2.length ≤ 16 := fun p hp => ⟨(isName_len (g.mem hp).1).2.1, (areSigns_len (g.mem hp).2).2.1⟩
theorem empty_app (z : Str) : Str.empty ++ z = z := tl_inj (by rw [TL.tl_append]; rfl)
end Fb
namespace K1
open PySem PySem.Spec PyProof.Rows L2 Fb RZ
section
variable {P : Program} {w : World} {K : PySem.W.Frag} {mg : Str → Option Value} {base : Heap} {C : Str → Addr} {CL : Addr}
abbrev NStr : List Str := ["self", "name", "signs"]
def teStr : TE := fun σ H Q => tJs [tFmt (tVar 1), tC (.str ":"), tFmt (tVar 2)] Str.empty σ H fun out H1 => Q (.str out) H1
theorem sc6 : FnScope NStr ["self"] (defScope (sM 6)) := ⟨rfl, rfl, rfl, by decide +kernel, rfl, by decide +kernel, by decide +kernel⟩
def spStr (K : PySem.W.Frag) (CL : Addr) : Sp := fun vs H Q _ => ∃ (a : Addr) (ps : List (Str × Str)), vs = [.ref a] ∧ GoodPs ps ∧ LettersAt K CL H a ps ∧ ∀ H', Same H H' → Q (.str (partsText ps)) H'
theorem ok_m_str {f : Addr} {fd : FuncData} (F : Fun K "__str__" "Letters.__str__" (sM 6) f fd) (L : LC K mg CL) (mz : mg "zip" = none) : FnOk P w K mg base CX0 1 f fd ["self"] (spStr K CL) := by
  refine F.ok sc6 (fun vs H Q E h => ?_) (fun cdv A outer s H vs Q E hr h => ?_)
  · obtain ⟨a, ps, rfl, _⟩ := h
    rfl
  obtain ⟨a, ps, rfl, G, ⟨dx, tn, ts, ta, d, h1, h2, h3, h4, h5⟩, q⟩ := h
  refine ⟨_, pss_one (ps_ret (pe_join pe_str (pe_lc (own := [("name", 1), ("signs", 2)]) (g := gTup K 2 (gCons (gName 1) (gCons (gName 2) gNil))) (tt := tYes) (te := teStr) rfl sc6.nd (pi_zipA rfl mz (pa_cons (pe_fld (pv 0) rfl) (pa_cons (pe_fld (pv 0) rfl) pa_nil))) (blkOk_by (N := NStr) (sc := defScope (sM 6)) (by decide +kernel))
        (fun _ _ _ _ _ => pg_tup rfl (pgs_cons (pg_name (i := 1) sc6.nd rfl (Or.inl rfl) (.inr rfl)) (pgs_cons (pg_name (i := 2) sc6.nd rfl (Or.inl rfl) (.inr rfl)) pgs_nil))) (fun _ _ _ _ _ => pts_nil) (fun _ _ _ _ _ => pe_joined (.cons (pe_fmt (pv 1)) (.cons pe_str (.cons (pe_fmt (pv 2)) .nil))))))), ?_⟩
  have hz2 : sizeLine = 16777216 := sizeLine_eq
  refine ⟨⟨_, rfl⟩, _, rfl, a, CL, dx, _, _, rfl, h1, L.cl, L.nN, l_names, _, rfl, a, CL, dx, _, _, rfl, h1, L.cl, L.nS, l_signs, tn, ts, _, _, rfl, .inr ⟨h2.seq, h3, fun D hD => lc_it (walk_zipTT (by rw [List.length_map, List.length_map, List.length_map, List.length_map])) (PvTexts ptext ps H D) ⟨by rw [List.take_zero]; exact upd_same, same_new hD _⟩ (fun i Hi _ p => ⟨Same.seqT p.2 h2.seq, Same.seqT p.2 h3⟩) (fun i v Hi Hj hi p y => ?_) (fun Hi p => ?_)⟩⟩
  · obtain ⟨T, x', y', rfl, hT, rfl, e1, e2⟩ := y
    rw [List.length_map, List.length_map] at hi
    replace e1 : ((ps.map (·.1)).map V.str)[i]? = some x' := e1
    replace e2 : ((ps.map (·.2)).map V.str)[i]? = some y' := e2
    rw [List.getElem?_map, List.getElem?_map, List.getElem?_eq_getElem hi] at e1 e2
    obtain rfl : x' = .str (ps[i]).1 := (Option.some.inj e1).symm
    obtain rfl : y' = .str (ps[i]).2 := (Option.some.inj e2).symm
    have hl := G.len _ (List.getElem_mem hi)
    have hDT : D ≠ T := ne_of_none p.1 hT
    refine ⟨T, _, rfl, SqT.of upd_same, rfl, _, _, rfl, _, _, rfl, rfl, rfl, ?_⟩
    refine ⟨_, rfl, .inl ⟨_, rfl, by omega, _, rfl, ?_, _, rfl, ?_, _, rfl, .inl ⟨_, rfl, by omega, _, rfl, ?_, ?_⟩⟩⟩
    · rw [empty_app]
      omega
    · rw [empty_app, strLen_append]
      show (ps[i]).1.length + 1 ≤ _
      omega
    · rw [empty_app, strLen_append, strLen_append]
      show (ps[i]).1.length + 1 + _ ≤ _
      omega
    · rw [empty_app]
      have p3 : PvTexts ptext ps H D i (upd Hi T (.tup [.str (ps[i]).1, .str (ps[i]).2])) := ⟨(upd_ne hDT).trans p.1, p.2.trans (same_new hT _)⟩
      refine ⟨_, p3.1, ?_, p3.step hD (List.getElem?_eq_getElem hi)⟩
      rw [List.length_map, List.length_map, List.length_take]
      have := G.few
      omega
  · obtain ⟨p1, p2⟩ := p
    rw [List.length_map, List.length_map, List.take_of_length_le (Nat.le_refl _)] at p1
    refine ⟨_, D, ps.map ptext, rfl, rfl, .inl (SqL.of p1), ?_, q _ p2⟩
    have e := strlen_sum (m := 23) (ps.map ptext) fun y hy => by
      obtain ⟨r, hr, rfl⟩ := List.mem_map.mp hy
      have := G.len r hr
      unfold ptext
      rw [strLen_append, strLen_append]
      show r.1.length + 1 + r.2.length ≤ 23
      omega
    rw [List.length_map] at e ⊢
    have h3 := G.few
    show _ + ps.length * 1 ≤ _
    omega
end
end K1

set_option Elab.async false
set_option linter.all false
set_option maxRecDepth 100000
set_option maxHeartbeats 4000000
/-! a method of an own class, ready to be called -/
namespace Fb
open PySem PySem.Spec PyProof.Rows L2
structure Mt (P : Program) (w : World) (K : PySem.W.Frag) (mg : Str → Option Value) (base : Heap) (CX : CXT) (k : Nat) (C : Addr) (m : Str) (ps : List Str) (sp : Sp) : Prop where
  ex : ∃ f fd, FnOk P w K mg base CX k f fd ps sp ∧ Meth K C m f ∧ L2.Binds K fd ps []
section
variable {P : Program} {w : World} {K : PySem.W.Frag} {mg : Str → Option Value} {base : Heap}
theorem FnOk.toR {CX : CXT} {k : Nat} {f : Addr} {fd : FuncData} {ps : List Str} {sp : Sp} (F : FnOk P w K mg base CX k f fd ps sp) (hb : L2.Binds K fd ps []) : FnR P w K mg base CX k f sp := by
  intro A outer s H us vs Q E hr e r h
  have hl := F.len _ _ _ _ h
  have hl2 := r.length
  have hb2 := hb s us (e.mod.kin.keeps fun b o h => (e.bs b o h).1) (by rw [List.append_nil]; omega)
  rw [List.append_nil] at hb2
  exact F.run A outer s H ⟨us, []⟩ us vs Q E hr e hb2 r h
end
section
variable {X : Cx} {CX : CXT} {k : Nat} {C : Addr} {ps : List Str} {sp : Sp} {E : XK} {x m : Str} {pos apos : Pos} {e o : Expr} {es : List Expr} {ta : TE} {t : TA}
theorem Mt.own (M : Mt X.prog X.w X.K X.mg X.base CX k C m ps sp) (hx : Passes CX X E) : Own X CX k C m sp E := by
  obtain ⟨f, fd, F, hm, hb⟩ := M.ex
  exact ⟨⟨f, FnOk.toR F hb, hm.at_, hm.fn⟩, hx⟩
theorem pe_mt {pl : Sem Bool} (M : Mt X.prog X.w X.K X.mg X.base CX k C m ps sp) (c : Cls X.K C) (ho : PE X o ta) (hr : Room k X.A) (hx : Passes CX X E) (ha : PA X (e :: es) t) (hs : starEach (e :: es) X.env = (false, eval e X.env) :: starEach es X.env := by rfl) (hp : (backTo pos (starEach es X.env)).any (·.1) = false := by rfl)
    (ht : eval (.Call (.Attribute o m apos) (e :: es) [] pos) X.env = (do
      let ov ← eval o X.env
      standAt apos.atName
      let (f, first) ← holding [ov] (getMethod ov m pl)
      callWith pos f first (backTo pos (starEach (e :: es) X.env)) (backToKw pos (keywordEach [] X.env))) := by rfl) :
    PE X (.Call (.Attribute o m apos) (e :: es) [] pos) (tMeth C m sp [] E ta t) := by
  obtain ⟨f, fd, F, hm, hb⟩ := M.ex
  exact pe_meth ho c hm F hr hb .nil hx ha hs hp ht
theorem pe_mt0 {pl : Sem Bool} (M : Mt X.prog X.w X.K X.mg X.base CX k C m ps sp) (c : Cls X.K C) (ho : PE X o ta) (hr : Room k X.A) (hx : Passes CX X E)
    (ht : eval (.Call (.Attribute o m apos) [] [] pos) X.env = (do
      let ov ← eval o X.env
      standAt apos.atName
      let (f, first) ← holding [ov] (getMethod ov m pl)
      callWith pos f first (backTo pos (starEach [] X.env)) (backToKw pos (keywordEach [] X.env))) := by rfl) :
    PE X (.Call (.Attribute o m apos) [] [] pos) (tMeth C m sp [] E ta tNil) := by
  obtain ⟨f, fd, F, hm, hb⟩ := M.ex
  exact pe_meth0 ho c hm F hr hb .nil hx ht
end
end Fb

set_option Elab.async false
set_option linter.all false
set_option maxRecDepth 100000
set_option maxHeartbeats 4000000
namespace Fb
open PySem PySem.Spec PyProof.Rows L2
theorem joinL_len {sep : List Nat} {m : Nat} : ∀ xs : List (List Nat), (∀ x ∈ xs, x.length ≤ m) → (TL.joinL sep xs).length ≤ xs.length * (m + sep.length)
  | [], _ => Nat.zero_le _
  | [p], h => by
    have := h p List.mem_cons_self
    show p.length ≤ 1 * (m + sep.length)
    omega
  | p :: q :: r, h => by
    have ih := joinL_len (sep := sep) (q :: r) fun x hx => h x (List.mem_cons_of_mem _ hx)
    have := h p List.mem_cons_self
    show (p ++ (sep ++ TL.joinL sep (q :: r))).length ≤ (q :: r).length.succ * (m + sep.length)
    rw [List.length_append, List.length_append, Nat.succ_mul]
    omega
theorem str_len (z : Str) : z.length = (TL.tl z).length := by simp [Str.length]
theorem join_len {sep : Str} {m : Nat} (ys : List Str) (h : ∀ y ∈ ys, y.length ≤ m) : (Txt.join sep ys).length ≤ ys.length * (m + sep.length) := by
  have e : TL.tl (Txt.join sep ys) = TL.joinL (TL.tl sep) (ys.map TL.tl) := by
    rw [TL.join_eq, TL.tl_join]
  have q := joinL_len (sep := TL.tl sep) (m := m) (ys.map TL.tl) fun x hx => by
    obtain ⟨y, hy, rfl⟩ := List.mem_map.mp hx
    have := h y hy
    rwa [str_len] at this
  rw [str_len, e, str_len sep]
  rwa [List.length_map] at q
theorem GoodPs.text {ps : List (Str × Str)} (g : GoodPs ps) : (partsText ps).length ≤ 200 := by
  have h := join_len (sep := " ") (m := 23) (ps.map ptext) fun y hy => by
    obtain ⟨r, hr, rfl⟩ := List.mem_map.mp hy
    have := g.len r hr
    unfold ptext
    rw [strLen_append, strLen_append]
    show r.1.length + 1 + r.2.length ≤ 23
    omega
  have h2 := g.few
  have h3 : ((" " : Str)).length = 1 := by decide
  rw [List.length_map, h3] at h
  unfold partsText
  omega
end Fb
namespace K1
open PySem PySem.Spec PyProof.Rows L2 Fb RZ
/-- isinstance(_, Letters) -/
structure LI (K : PySem.W.Frag) (CL : Addr) : Prop where
  c1 : PySem.W.findIn K (.ref CL) "__class__" = some (some (.builtin "object.__class__"))
  c2 : PySem.W.specialIn K (.builtin "object.__class__") "__get__" = some (some (.builtin "getset_descriptor.__get__"))
  c3 : PySem.W.takesIn K (.builtin "object.__class__") = some true
  c4 : PySem.W.mroIn K CL (.type "object") = some true
  own : PySem.W.kitOne K (.ref CL) (.ref CL) = some true
  str : PySem.W.kitOne K (.type "str") (.ref CL) = some false
  lst : PySem.W.kitOne K (.type "list") (.ref CL) = some false
section
variable {P : Program} {w : World} {K : PySem.W.Frag} {mg : Str → Option Value} {base : Heap} {C : Str → Addr} {CL : Addr}
theorem sc7 : FnScope ["self"] ["self"] (defScope (sM 7)) := ⟨rfl, rfl, rfl, by decide +kernel, rfl, by decide +kernel, by decide +kernel⟩
def reprL (ps : List (Str × Str)) : Str := "Letters(" ++ partsText ps ++ ")"
def spReprL (K : PySem.W.Frag) (CL : Addr) : Sp := fun vs H Q _ => ∃ (a : Addr) (ps : List (Str × Str)), vs = [.ref a] ∧ GoodPs ps ∧ LettersAt K CL H a ps ∧ ∀ H', Same H H' → Q (.str (reprL ps)) H'
theorem ok_m_repr {f : Addr} {fd : FuncData} (F : Fun K "__repr__" "Letters.__repr__" (sM 7) f fd) (L : LC K mg CL) (M : Mt P w K mg base CX0 1 CL "__str__" ["self"] (spStr K CL)) (ms : mg "str" = none) : FnOk P w K mg base CX0 4 f fd ["self"] (spReprL K CL) := by
  refine F.ok sc7 (fun vs H Q E h => ?_) (fun cdv A outer s H vs Q E hr h => ?_)
  · obtain ⟨a, ps, rfl, _⟩ := h
    rfl
  obtain ⟨a, ps, rfl, G, hL, q⟩ := h
  refine ⟨_, pss_one (ps_ret (pe_joined (.cons pe_str (.cons (pe_fmt (pe_callTy (call_strO (Mt.own M pass0) hr) rfl ms (by decide +kernel) (pa_cons (pv 0) pa_nil))) (.cons pe_str .nil))))), ?_⟩
  have hz2 : sizeLine = 16777216 := sizeLine_eq
  have ht := G.text
  obtain ⟨dx, tn, ts, ta, d, h1, h2⟩ := id hL
  refine ⟨_, rfl, by decide, _, rfl, a, dx, _, rfl, h1, a, ps, rfl, G, hL, fun H' s1 => ⟨_, rfl, .inl ⟨_, rfl, by omega, _, rfl, ?_, _, rfl, ?_, ?_⟩⟩⟩
  · rw [strLen_append]
    have e : (Str.empty ++ Str.ofString "Letters(").length = 8 := by decide
    omega
  · rw [strLen_append, strLen_append]
    have e : (Str.empty ++ Str.ofString "Letters(").length = 8 := by decide
    have e2 : (Str.ofString ")").length = 1 := by decide
    omega
  · rw [empty_app]
    exact q H' s1
theorem sc8 : FnScope ["self", "other"] ["self", "other"] (defScope (sM 8)) := ⟨rfl, rfl, rfl, by decide +kernel, rfl, by decide +kernel, by decide +kernel⟩
def spEq (K : PySem.W.Frag) (CL : Addr) : Sp := fun vs H Q _ => ∃ (a : Addr) (ps : List (Str × Str)), GoodPs ps ∧ LettersAt K CL H a ps ∧ ((∃ z, vs = [.ref a, .str z] ∧ ∀ H', Same H H' → Q (.bl false) H') ∨ (∃ p xs, vs = [.ref a, .ref p] ∧ SqL K H p xs ∧ ∀ H', Same H H' → Q (.bl false) H') ∨
  ∃ b qs, vs = [.ref a, .ref b] ∧ GoodPs qs ∧ LettersAt K CL H b qs ∧ ∀ H', Same H H' → Q (.bl (decide (ps = qs))) H')
theorem dpT {K : PySem.W.Frag} {H : Hp} {t : Addr} {ys : List Str} (h : SqT K H t (ys.map V.str)) : Dp K H (.ref t) (.tuple (ys.map PyData.str)) := .tup h (dpStrs ys)
theorem ok_m_eq {f : Addr} {fd : FuncData} (F : Fun K "__eq__" "Letters.__eq__" (sM 8) f fd) (L : LC K mg CL) (I : LI K CL) (mi : mg "isinstance" = none) : FnOk P w K mg base CX0 2 f fd ["self", "other"] (spEq K CL) := by
  refine F.ok sc8 (fun vs H Q E h => ?_) (fun cdv A outer s H vs Q E hr h => ?_)
  · obtain ⟨a, ps, _, _, ⟨z, rfl, _⟩ | ⟨p, xs, rfl, _⟩ | ⟨b, qs, rfl, _⟩⟩ := h <;> rfl
  obtain ⟨a, ps, G, ⟨dx, tn, ts, ta, d, h1, h2, h3, h4, h5⟩, h⟩ := h
  have hu : (A.deeper (envOfC "Letters.__eq__" (defScope (sM 8)) s.heap.objs.size f cdv)).units + 64 < cLine := by have := hr.un; omega
  refine ⟨_, pss_one (ps_ret (pe_and (pe_callB call_isi rfl mi (by decide +kernel) (pa_cons (pv 1) (pa_cons (pe_glob (v := .ref CL) rfl L.gC rfl) pa_nil))) (pe_and (pe_cmpR (op_eqD hu) (pe_fld (pv 0) rfl) (pe_fld (pv 1) rfl) (nomark _)) (pe_one (pe_cmpR (op_eqD hu) (pe_fld (pv 0) rfl) (pe_fld (pv 1) rfl) (nomark _)))))), ?_⟩
  rcases h with ⟨z, rfl, q⟩ | ⟨p, xs, rfl, hp, q⟩ | ⟨b, qs, rfl, G2, ⟨dx', tn', ts', ta', d', g1, g2, g3, g4, g5⟩, q⟩
  · exact ⟨_, rfl, _, _, _, _, false, rfl, .own CL, .base (.str z), I.str, false, rfl, iteF (q _ (Same.refl _))⟩
  · exact ⟨_, rfl, _, _, _, _, false, rfl, .own CL, ty_seqL hp, I.lst, false, rfl, iteF (q _ (Same.refl _))⟩
  · refine ⟨_, rfl, _, _, _, _, true, rfl, .own CL, .base (.ins g1 L.cl I.c1 I.c2 I.c3 I.c4), I.own, true, rfl, iteT ?_⟩
    have low1 : ∀ y ∈ ps.map (·.1), Low y := fun y hy => by obtain ⟨p, hp, rfl⟩ := List.mem_map.mp hy; exact (G.low p hp).1
    have low2 : ∀ y ∈ ps.map (·.2), Low y := fun y hy => by obtain ⟨p, hp, rfl⟩ := List.mem_map.mp hy; exact (G.low p hp).2
    have low3 : ∀ y ∈ qs.map (·.1), Low y := fun y hy => by obtain ⟨p, hp, rfl⟩ := List.mem_map.mp hy; exact (G2.low p hp).1
    have low4 : ∀ y ∈ qs.map (·.2), Low y := fun y hy => by obtain ⟨p, hp, rfl⟩ := List.mem_map.mp hy; exact (G2.low p hp).2
    refine ⟨_, rfl, a, CL, dx, _, _, rfl, h1, L.cl, L.nN, l_names, _, rfl, b, CL, dx', _, _, rfl, g1, L.cl, L.nN, l_names, _, _, dpT h2.seq, dpT g2.seq, shapedT low1, shapedT low3, _, rfl, ?_⟩
    have e1 : PyData.eqv (.tuple ((ps.map (·.1)).map PyData.str)) (.tuple ((qs.map (·.1)).map PyData.str)) = decide (ps.map (·.1) = qs.map (·.1)) := eqvStrs _ _
    rw [e1]
    by_cases hn : ps.map (·.1) = qs.map (·.1)
    · refine iteY (decide_eq_true hn) ⟨_, rfl, a, CL, dx, _, _, rfl, h1, L.cl, L.nS, l_signs, _, rfl, b, CL, dx', _, _, rfl, g1, L.cl, L.nS, l_signs, _, _, dpT h3, dpT g3, shapedT low2, shapedT low4, ?_⟩
      have e2 : PyData.eqv (.tuple ((ps.map (·.2)).map PyData.str)) (.tuple ((qs.map (·.2)).map PyData.str)) = decide (ps = qs) := by
        refine (eqvStrs _ _).trans ?_
        by_cases hs : ps.map (·.2) = qs.map (·.2)
        · rw [decide_eq_true hs, decide_eq_true (zip_eq hn hs)]
        · rw [decide_eq_false hs, decide_eq_false fun z => hs (by rw [z])]
      rw [e2]
      exact q _ (Same.refl _)
    · have e3 : decide (ps = qs) = false := decide_eq_false fun z => hn (by rw [z])
      rw [e3] at q
      exact iteN (decide_eq_false hn) (q _ (Same.refl _))
end
end K1

set_option Elab.async false
set_option linter.all false
set_option maxRecDepth 100000
set_option maxHeartbeats 4000000
/-! a text cut at each place of a sign -/
namespace Fb
open PySem PySem.Spec PyProof.Rows L2
def mkS (l : List Nat) : Str := ⟨l.toArray⟩
def one (c : Nat) : Str := ⟨#[c]⟩
theorem tl_mkS (l : List Nat) : TL.tl (mkS l) = l := rfl
theorem mkS_tl (z : Str) : mkS (TL.tl z) = z := tl_inj rfl
def cutC (c : Nat) : List Nat → List Nat → List (List Nat)
  | acc, [] => [acc]
  | acc, d :: r => if d = c then acc :: cutC c [] r else cutC c (acc ++ [d]) r
theorem cutC_ne (c : Nat) : ∀ (l acc : List Nat), cutC c acc l ≠ []
  | [], _ => by simp [cutC]
  | d :: r, acc => by
    unfold cutC
    split
    · simp
    · exact cutC_ne c r _
theorem spl_cut (c : Nat) : ∀ (l acc : List Nat), TL.spl [c] 0 acc l = cutC c acc l
  | [], acc => TL.spl_nil _ _ _
  | d :: r, acc => by
    by_cases h : d = c
    · rw [TL.spl_hit (by simp [TL.pre, h])]
      show acc :: TL.spl [c] 0 [] r = _
      rw [spl_cut c r]
      unfold cutC
      rw [if_pos h]
      cases r <;> rfl
    · rw [TL.spl_miss (by simp [TL.pre, h]), spl_cut c r]
      conv => rhs; unfold cutC
      rw [if_neg h]
theorem split_cut {c : Nat} (hc : c < 256) (x : Str) : Txt.split x (one c) = (cutC c [] (TL.tl x)).map mkS := by
  have h := TL.split_spl x (one c) (by simp [one, TL.tl]) (TL.kind_ok (by simp [one, hc]))
  have e : TL.tl (one c) = [c] := rfl
  rw [e, spl_cut] at h
  rw [← h, List.map_map]
  have : (mkS ∘ TL.tl) = id := funext mkS_tl
  rw [this, List.map_id]
theorem split_count {c : Nat} (hc : c < 256) (x : Str) : ((Txt.split x (one c)).length : Int) = Txt.count x (one c) + 1 := by
  have hk : ¬Builtin.Str.strKind x < Builtin.Str.strKind (one c) := TL.kind_ok (by simp [one, hc])
  have h1 : (one c).length = 1 := rfl
  unfold Txt.split Txt.count
  by_cases h0 : x.length < (one c).length
  · have hx : x.length = 0 := by omega
    rw [if_pos (by simp [h0])]
    rcases PySem.StrLaws.occ_head x (one c) (x.length + 1) (by omega) with ⟨e, _⟩ | ⟨i, r, e, ha, _⟩
    · rw [e]; rfl
    · have := (TL.at_iff (x := x) (y := one c) (by simp [one, TL.tl]) i).mp ha
      have hl : (TL.tl x).length = 0 := by rw [← str_len]; exact hx
      have hl2 : TL.tl x = [] := List.eq_nil_of_length_eq_zero hl
      rw [hl2] at this
      simp [TL.pre, one, TL.tl] at this
  · rw [if_neg (by simp [h0, hk])]
    split
    · rename_i he
      rw [List.isEmpty_iff.mp he]
      rfl
    · rw [PySem.length_partsBetween]
      omega
theorem count_cut {c : Nat} (hc : c < 256) (x : Str) : Txt.count x (one c) = ((cutC c [] (TL.tl x)).length : Int) - 1 := by
  have h := split_count hc x
  rw [split_cut hc, List.length_map] at h
  omega
/-- the words of a text -/
def wordsZ (z : Str) : List Str := (cutC 32 [] (TL.tl z)).map mkS
def isPair (w : Str) : Bool := (cutC 58 [] (TL.tl w)).length == 2
def pairOf (w : Str) : Str × Str := (mkS ((cutC 58 [] (TL.tl w)).getD 0 []), mkS ((cutC 58 [] (TL.tl w)).getD 1 []))
theorem split_pair {w : Str} (h : isPair w = true) : Txt.split w (one 58) = [(pairOf w).1, (pairOf w).2] := by
  rw [split_cut (by decide)]
  unfold isPair at h
  unfold pairOf
  match hc : cutC 58 [] (TL.tl w), h with
  | [a, b], _ => rfl
  | [], h => simp [hc] at h
  | [a], h => simp [hc] at h
  | a :: b :: c :: r, h => simp [hc] at h
theorem count_pair (w : Str) : (Txt.count w (one 58) = 1) ↔ isPair w = true := by
  rw [count_cut (by decide)]
  unfold isPair
  rw [beq_iff_eq]
  omega
theorem cutC_len (c : Nat) : ∀ (l acc : List Nat), ((cutC c acc l).map (·.length)).sum + (cutC c acc l).length = acc.length + l.length + 1
  | [], acc => by simp [cutC]
  | d :: r, acc => by
    unfold cutC
    split
    · have h := cutC_len c r []
      simp only [List.map_cons, List.sum_cons, List.length_cons] at h ⊢
      simp only [List.length_nil] at h
      omega
    · have h := cutC_len c r (acc ++ [d])
      rw [List.length_append] at h
      simp only [List.length_cons, List.length_nil] at h ⊢
      omega
theorem mem_le_sum : ∀ (l : List Nat), ∀ x ∈ l, x ≤ l.sum
  | [], _, h => absurd h List.not_mem_nil
  | y :: r, x, h => by
    rw [List.sum_cons]
    rcases List.mem_cons.mp h with rfl | h
    · omega
    · have := mem_le_sum r x h
      omega
theorem wordsZ_len (z : Str) : (wordsZ z).length ≤ z.length + 1 := by
  have h := cutC_len 32 (TL.tl z) []
  unfold wordsZ
  rw [List.length_map, str_len]
  simp only [List.length_nil] at h
  omega
theorem wordsZ_at {z w : Str} (h : w ∈ wordsZ z) : w.length ≤ z.length := by
  have h0 := cutC_len 32 (TL.tl z) []
  have h1 : 1 ≤ (cutC 32 [] (TL.tl z)).length := List.length_pos_iff.mpr (cutC_ne _ _ _)
  obtain ⟨l, hl, rfl⟩ := List.mem_map.mp h
  have h2 := mem_le_sum _ _ (List.mem_map_of_mem (f := fun x : List Nat => x.length) hl)
  rw [str_len, tl_mkS, str_len]
  simp only [List.length_nil] at h0
  omega
theorem pairOf_len {w : Str} (h : isPair w = true) : (pairOf w).1.length ≤ w.length ∧ (pairOf w).2.length ≤ w.length := by
  have h0 := cutC_len 58 (TL.tl w) []
  unfold isPair at h
  unfold pairOf
  rw [str_len w]
  match hc : cutC 58 [] (TL.tl w), h with
  | [a, b], _ =>
    rw [hc] at h0
    simp only [List.map_cons, List.map_nil, List.sum_cons, List.sum_nil, List.length_cons, List.length_nil] at h0
    show (mkS a).length ≤ _ ∧ (mkS b).length ≤ _
    rw [str_len, tl_mkS, str_len, tl_mkS]
    omega
  | [], h => simp [hc] at h
  | [a], h => simp [hc] at h
  | a :: b :: c :: r, h => simp [hc] at h
/-- the parts that a text tells -/
def readable (z : Str) : Bool := (wordsZ z).all isPair
def readPs (z : Str) : List (Str × Str) := (wordsZ z).map pairOf
end Fb

set_option Elab.async false
set_option linter.all false
set_option maxRecDepth 100000
set_option maxHeartbeats 4000000
namespace K1
open PySem PySem.Spec PyProof.Rows L2 Fb RZ
abbrev sRead : Stmt := top 21
/-- tuples of pairs in the making -/
def PvPairs (K : PySem.W.Frag) (ws : List Str) (H : Hp) (D : Addr) (i : Nat) (Hi : Hp) : Prop := ∃ ts : List Addr, Hi D = some (.lst (ts.map V.ref)) ∧ PairsAt K Hi ts ((ws.take i).map pairOf) ∧ Same H Hi
def rTupOf (K : PySem.W.Frag) : List V → Hp → VK → Prop := fun xs H Q => ∃ p ys, xs = [.ref p] ∧ ((SqL K H p ys ∧ ∀ l, H l = none → Q (.ref l) (upd H l (.tup ys))) ∨ (SqT K H p ys ∧ Q (.ref p) H))
def rSplit : V → List V → Hp → VK → Prop := fun x xs H Q => ∃ a b, x = .str a ∧ xs = [.str b] ∧ (b.length == 0) = false ∧ a.length + 2 ≤ sizeLine ∧ rNewStrs (Txt.split a b) H Q
section
variable {P : Program} {w : World} {K : PySem.W.Frag} {mg : Str → Option Value} {base : Heap} {C : Str → Addr} {CL : Addr}
abbrev NRead : List Str := ["text", "words", "word", "parts"]
theorem scRead : FnScope NRead ["text"] (defScope sRead) := ⟨rfl, rfl, rfl, by decide +kernel, rfl, by decide +kernel, by decide +kernel⟩
def spRead (K : PySem.W.Frag) (C : Str → Addr) (CL : Addr) : Sp := fun vs H Q E => ∃ z : Str, vs = [.str z] ∧ z.length ≤ 99 ∧ (readable z = false → Raises C H E ("BadText", [.int 0, .str "form"])) ∧
  (readable z = true → (verdict (readPs z) = none → ∀ (a : Addr) (H' : Hp), Same H H' → H a = none → LettersAt K CL H' a (readPs z) → Q (.ref a) H') ∧ ∀ e, verdict (readPs z) = some e → Raises C H E e)
theorem ok_read {f fI : Addr} {fd : FuncData} (F : Fun K "read_letters" "read_letters" sRead f fd) (L : LC K mg CL) (T : Tab P w K mg base C) (M : Mk K CL fI) (FI : FnR P w K mg base (L2.CX P w) 4 fI (spMkL K C CL)) (mt : mg "tuple" = none) : FnOk P w K mg base (L2.CX P w) 6 f fd ["text"] (spRead K C CL) := by
  refine F.okX scRead (fun vs H Q E h => ?_) (fun cdv A outer s H vs Q E hr h => ?_)
  · obtain ⟨z, rfl, _⟩ := h
    rfl
  obtain ⟨z, rfl, hz, q1, q2⟩ := h
  have hr2 := hr.mono (by decide : 2 ≤ 5)
  refine ⟨_, pss_cons (ps_set (i := 1) scRead.nd rfl (Or.inl rfl) (pe_split (pv 0) pe_str))
    (pss_cons (ps_for (passes_of rfl) rfl (pi_list (pv 1)) (pg_name (i := 2) scRead.nd rfl (Or.inl rfl))
      (pss_one (ps_if (pt_cmpR op_ne (pe_m1 PySem.F.slot_str_count PySem.F.type_str_count mt_count (pv 2) pe_str) pe_int (nomark _)) (pss_one (ps_raise rfl (takes_of rfl rfl rfl rfl) (pmk_cl2 T.cBadText hr2 rfl pass0 (pa_cons pe_int (pa_cons pe_str pa_nil))))) pss_nil)))
    (pss_cons (ps_setLc (i := 3) (own := [("word", 2)]) (g := gName 2) (tt := tYes) (te := tCB (rTupOf K) (tCons (tM1 rSplit (tVar 2) (tC (.str ":"))) tNil)) rfl scRead.nd rfl rfl (sw_true rfl rfl rfl (by decide +kernel)) (pi_list (pv 1)) (blkOk_by (N := NRead) (sc := defScope sRead) (by decide +kernel))
        (fun _ _ _ _ _ => pg_name (i := 2) scRead.nd rfl (Or.inl rfl)) (fun _ _ _ _ _ => pts_nil) (fun _ _ _ _ _ => pe_callTy call_tuple_of rfl mt (by decide +kernel) (pa_cons (pe_split (pv 2) pe_str) pa_nil)))
    (pss_one (ps_ret (pe_makeS M FI hr rfl L.gC (passes_call (takes_of rfl rfl rfl rfl) fun _ _ _ _ h => h) (pv 3)))))), ?_⟩
  have hz2 : sizeLine = 16777216 := sizeLine_eq
  have e1 : Txt.split z (Str.ofString " ") = wordsZ z := by
    have h : (Str.ofString " ") = one 32 := by decide
    rw [h, split_cut (by decide)]
    rfl
  have hwl := wordsZ_len z
  have e2 : (Str.ofString ":") = one 58 := by decide
  refine ⟨_, rfl, ⟨_, rfl⟩, _, _, rfl, rfl, rfl, by omega, fun m hm => ?_⟩
  rw [e1]
  have s1 : Same H (upd H m (.lst ((wordsZ z).map V.str))) := same_new hm _
  have hm1 : upd H m (.lst ((wordsZ z).map V.str)) m = some (.lst ((wordsZ z).map V.str)) := upd_same
  generalize upd H m (.lst ((wordsZ z).map V.str)) = H1 at s1 hm1
  refine ⟨_, rfl, m, rfl, ⟨_, SqL.of hm1⟩, for_list (K := K) (a := m) (xs := (wordsZ z).map V.str) (fun i σ Hi => Hi = H1 ∧ (∀ j < i, ∀ u, (wordsZ z)[j]? = some u → isPair u = true) ∧ ∃ v2, σ = [some (.str z), some (.ref m), v2, none]) ⟨rfl, fun j hj => absurd hj (Nat.not_lt_zero j), _, rfl⟩ (fun i σ Hi _ h => by rw [h.1]; exact SqL.of hm1) ?_ ?_⟩
  · rintro i x σ Hi hx ⟨rfl, hno, v2, rfl⟩
    rw [List.getElem?_map] at hx
    obtain ⟨u, hu, rfl⟩ := Option.map_eq_some_iff.mp hx
    refine ⟨_, rfl, ⟨_, rfl⟩, _, _, rfl, rfl, rfl, _, rfl, ?_⟩
    rw [e2]
    by_cases hp : isPair u = true
    · refine iteN ?_ ⟨rfl, fun j hj v hv => ?_, _, rfl⟩
      · rw [(count_pair u).mpr hp]
        rfl
      · by_cases hji : j = i
        · rw [hji, hu] at hv
          cases hv
          exact hp
        · exact hno j (by omega) v hv
    · have hc : Txt.count u (one 58) ≠ 1 := fun h => hp ((count_pair u).mp h)
      have hr : readable z = false := by
        unfold readable
        rw [List.all_eq_false]
        exact ⟨u, List.mem_of_getElem? hu, hp⟩
      refine iteY ?_ ⟨rfl, rai_sp ⟨rfl, fun y hy => ?_, fun d' H' s' hd hx => (q1 hr).same s1 d' H' s' hd hx⟩⟩
      · show (!decide (V.int (Txt.count u (one 58)) = V.int 1)) = true
        rw [decide_eq_false fun h => hc (V.int.inj h)]
        rfl
      · have hy2 : y = .int 0 ∨ y = .str "form" := by simpa using hy
        rcases hy2 with rfl | rfl
        · exact fm_int (by decide) (by decide)
        · exact fm_str (by decide +kernel) (by decide +kernel)
  · rintro σ Hi ⟨rfl, hno, v2, rfl⟩
    rw [List.length_map] at hno
    have hall : ∀ u ∈ wordsZ z, isPair u = true := fun u hu => by
      obtain ⟨j, hj⟩ := List.mem_iff_getElem?.mp hu
      exact hno j (List.getElem?_eq_some_iff.mp hj).1 u hj
    have hrd : readable z = true := List.all_eq_true.mpr hall
    obtain ⟨qa, qb⟩ := q2 hrd
    refine ⟨_, rfl, m, rfl, ⟨_, SqL.of hm1⟩, fun D hD => lc_list (xs := (wordsZ z).map V.str) (PvPairs K (wordsZ z) Hi D) ⟨[], upd_same, trivial, same_new hD _⟩ (fun i Hk _ pv => by obtain ⟨ts, _, _, h⟩ := pv; exact h.seq (SqL.of hm1)) ?_ ?_⟩
    · intro i y Hk hx pv
      rw [List.getElem?_map] at hx
      obtain ⟨u, hu, rfl⟩ := Option.map_eq_some_iff.mp hx
      obtain ⟨ts, p1, p2, p3⟩ := pv
      have hul := wordsZ_at (List.mem_of_getElem? hu)
      refine ⟨rfl, _, rfl, ⟨_, rfl⟩, _, _, rfl, rfl, rfl, by omega, fun l hl => ?_⟩
      rw [e2, split_pair (hall u (List.mem_of_getElem? hu))]
      refine ⟨l, _, rfl, .inl ⟨SqL.of upd_same, fun t ht => ?_⟩⟩
      have hDl : D ≠ l := ne_of_none p1 hl
      have p1' : upd Hk l (.lst ([(pairOf u).1, (pairOf u).2].map V.str)) D = some (.lst (ts.map V.ref)) := (upd_ne hDl).trans p1
      have hDt : D ≠ t := ne_of_none p1' ht
      have st : Same Hk (upd (upd Hk l (.lst ([(pairOf u).1, (pairOf u).2].map V.str))) t (.tup ([(pairOf u).1, (pairOf u).2].map V.str))) := (same_new hl _).trans (same_new ht _)
      have p4 : upd (upd Hk l (.lst ([(pairOf u).1, (pairOf u).2].map V.str))) t (.tup ([(pairOf u).1, (pairOf u).2].map V.str)) D = some (.lst (ts.map V.ref)) := (upd_ne hDt).trans p1'
      have ht4 : SqT K (upd (upd Hk l (.lst ([(pairOf u).1, (pairOf u).2].map V.str))) t (.tup ([(pairOf u).1, (pairOf u).2].map V.str))) t [.str (pairOf u).1, .str (pairOf u).2] := SqT.of upd_same
      have p5 := p2.same st
      have s5 := p3.trans st
      have hD4 : Hi D = none := hD
      generalize upd (upd Hk l (.lst ([(pairOf u).1, (pairOf u).2].map V.str))) t (.tup ([(pairOf u).1, (pairOf u).2].map V.str)) = H4 at p4 ht4 p5 s5
      have hlen := p2.len
      rw [List.length_map, List.length_take] at hlen
      have e : (wordsZ z).take (i + 1) = (wordsZ z).take i ++ [u] := by rw [List.take_succ, hu]; rfl
      have hput : ∀ {x : Addr} {xs : List V}, SqT K H4 x xs → SqT K (upd H4 D (.lst (ts.map V.ref ++ [.ref t]))) x xs := fun {x xs} h => by
        rcases h with (h | ⟨o, h⟩) | h
        · exact .inl (.inl ((upd_ne fun z => by rw [z, p4] at h; cases h).trans h))
        · exact .inl (.inr ⟨o, (upd_ne fun z => by rw [z, p4] at h; cases h).trans h⟩)
        · exact .inr h
      have hputs : ∀ {ts' : List Addr} {ps' : List (Str × Str)}, PairsAt K H4 ts' ps' → PairsAt K (upd H4 D (.lst (ts.map V.ref ++ [.ref t]))) ts' ps' := by
        intro ts'
        induction ts' with
        | nil => intro ps' h; cases ps' with
          | nil => trivial
          | cons _ _ => exact h
        | cons a r ih => intro ps' h; cases ps' with
          | nil => exact h
          | cons _ _ => exact ⟨hput h.1, ih h.2⟩
      refine ⟨_, p4, by rw [List.length_map]; omega, ts ++ [t], ?_, ?_, fun b o hb => (upd_ne (ne_of_none hb hD4)).trans (s5 _ _ hb)⟩
      · rw [List.map_append]
        exact upd_same
      · rw [e, List.map_append]
        exact PairsAt.snoc (hput ht4) (hputs p5)
    · rintro Hk ⟨ts, p1, p2, p3⟩
      rw [List.length_map, List.take_of_length_le (Nat.le_refl _)] at p2
      have s13 := s1.trans p3
      have hsm : Small (readPs z) := by
        refine ⟨by show ((wordsZ z).map pairOf).length ≤ 100; rw [List.length_map]; omega, fun p hp => ?_⟩
        obtain ⟨u, hu, rfl⟩ := List.mem_map.mp hp
        have h1 := wordsZ_at hu
        have h2 := pairOf_len (hall u hu)
        omega
      refine ⟨_, rfl, D, ts.map V.ref, rfl, .inr (SqL.of p1), fun x dx hx hdx hne => ?_⟩
      have hxx : upd Hk dx (.own x) x = none := (upd_ne (Ne.symm hne)).trans hx
      have sx : Same Hk (upd (upd Hk dx (.own x)) x (.ins CL dx [])) := (same_new hdx _).trans (same_new hxx _)
      refine ⟨x, dx, ts, readPs z, rfl, upd_same, p2.same sx, hsm, fun hv H' o l => ⟨rfl, qa hv x H' (fun b u hb => o b u (fun e => ?_) (sx _ _ (s13 _ _ hb))) (s13.free hx) l⟩, fun e he => (qb e he).same (s13.trans sx)⟩
      have := s13 _ _ hb
      rw [e, hx] at this
      cases this
end
end K1

set_option Elab.async false
set_option linter.all false
set_option maxRecDepth 100000
set_option maxHeartbeats 4000000
namespace K1
open PySem PySem.Spec PyProof.Rows L2 Fb RZ
abbrev sLetters : Stmt := top 31
abbrev sLettersOfL : Stmt := top 37
theorem ref_at {ts : List Addr} {i : Nat} {t : Addr} (h : ts[i]? = some t) : atI (ts.map V.ref) (i : Nat) = some (.ref t) := atI_nat (by rw [List.getElem?_map, h]; rfl)
section
variable {P : Program} {w : World} {K : PySem.W.Frag} {mg : Str → Option Value} {base : Heap} {C : Str → Addr} {CL : Addr}
theorem mk_sp {H : Hp} {ts : List Addr} {ps : List (Str × Str)} {Q : VK} {E : XK} (hps : PairsAt K H ts ps) (hsm : Small ps) (qa : verdict ps = none → ∀ (a : Addr) (H' : Hp), Same H H' → H a = none → LettersAt K CL H' a ps → Q (.ref a) H') (qb : ∀ e, verdict ps = some e → Raises C H E e) (x dx : Addr) (hx : H x = none) (hdx : H dx = none) (hne : dx ≠ x) :
    spMkL K C CL (V.ref x :: ts.map V.ref) (upd (upd H dx (.own x)) x (.ins CL dx [])) (fun v H2 => v = .non ∧ Q (.ref x) H2) E := by
  have hxx : upd H dx (.own x) x = none := (upd_ne (Ne.symm hne)).trans hx
  have sx : Same H (upd (upd H dx (.own x)) x (.ins CL dx [])) := (same_new hdx _).trans (same_new hxx _)
  refine ⟨x, dx, ts, ps, rfl, upd_same, hps.same sx, hsm, fun hv H' o l => ⟨rfl, qa hv x H' (fun b u hb => o b u (fun e => ?_) (sx _ _ hb)) hx l⟩, fun e he => (qb e he).same sx⟩
  rw [e, hx] at hb
  cases hb
theorem scLetters : FnScope ["parts"] ["parts"] (defScope sLetters) := ⟨rfl, rfl, rfl, by decide +kernel, rfl, by decide +kernel, by decide +kernel⟩
def spLetters (K : PySem.W.Frag) (C : Str → Addr) (CL : Addr) (lo hi : Nat) : Sp := fun vs H Q E => ∃ (p : Addr) (ps : List (Str × Str)), vs = [.ref p] ∧ PartsAt K H p ps ∧ Small ps ∧ lo ≤ ps.length ∧ ps.length ≤ hi ∧ (verdict ps = none → ∀ (a : Addr) (H' : Hp), Same H H' → H a = none → LettersAt K CL H' a ps → Q (.ref a) H') ∧ ∀ e, verdict ps = some e → Raises C H E e
theorem ok_letters {f fI : Addr} {fd : FuncData} (F : Fun K "_law_letters" "_law_letters" sLetters f fd) (L : LC K mg CL) (M : Mk K CL fI) (FI : FnR P w K mg base (L2.CX P w) 4 fI (spMkL K C CL)) (ml : mg "len" = none) : FnOk P w K mg base (L2.CX P w) 6 f fd ["parts"] (spLetters K C CL 1 4) := by
  refine F.okX scLetters (fun vs H Q E h => ?_) (fun cdv A outer s H vs Q E hr h => ?_)
  · obtain ⟨p, ps, rfl, _⟩ := h
    rfl
  obtain ⟨p, ps, rfl, ⟨ts, hp, hps⟩, hsm, hl1, hl2, qa, qb⟩ := h
  have hlen := hps.len
  refine ⟨_, pss_cons (ps_if (pt_cmpR op_eq (pe_callB call_len_seq rfl ml PySem.boot_len (pa_cons (pv 0) pa_nil)) pe_int (nomark _)) (pss_one (ps_ret (StX.pe_makeR M FI hr rfl L.gC (passes_call (takes_of rfl rfl rfl rfl) fun _ _ _ _ h => h) (pa_cons (pe_ix ix_list (pv 0) pe_int (fun _ _ => rfl)) pa_nil)))) pss_nil)
    (pss_cons (ps_if (pt_cmpR op_eq (pe_callB call_len_seq rfl ml PySem.boot_len (pa_cons (pv 0) pa_nil)) pe_int (nomark _)) (pss_one (ps_ret (StX.pe_makeR M FI hr rfl L.gC (passes_call (takes_of rfl rfl rfl rfl) fun _ _ _ _ h => h) (pa_cons (pe_ix ix_list (pv 0) pe_int (fun _ _ => rfl)) (pa_cons (pe_ix ix_list (pv 0) pe_int (fun _ _ => rfl)) pa_nil))))) pss_nil)
    (pss_cons (ps_if (pt_cmpR op_eq (pe_callB call_len_seq rfl ml PySem.boot_len (pa_cons (pv 0) pa_nil)) pe_int (nomark _)) (pss_one (ps_ret (StX.pe_makeR M FI hr rfl L.gC (passes_call (takes_of rfl rfl rfl rfl) fun _ _ _ _ h => h) (pa_cons (pe_ix ix_list (pv 0) pe_int (fun _ _ => rfl)) (pa_cons (pe_ix ix_list (pv 0) pe_int (fun _ _ => rfl)) (pa_cons (pe_ix ix_list (pv 0) pe_int (fun _ _ => rfl)) pa_nil)))))) pss_nil)
    (pss_one (ps_ret (StX.pe_makeR M FI hr rfl L.gC (passes_call (takes_of rfl rfl rfl rfl) fun _ _ _ _ h => h) (pa_cons (pe_ix ix_list (pv 0) pe_int (fun _ _ => rfl)) (pa_cons (pe_ix ix_list (pv 0) pe_int (fun _ _ => rfl)) (pa_cons (pe_ix ix_list (pv 0) pe_int (fun _ _ => rfl)) (pa_cons (pe_ix ix_list (pv 0) pe_int (fun _ _ => rfl)) pa_nil))))))))), ?_⟩
  have go := mk_sp (C := C) (CL := CL) (Q := Q) (E := E) hps hsm qa qb
  have hts : ts.length ≤ 4 ∧ 1 ≤ ts.length := by omega
  clear hps hlen hl1 hl2 qa qb hsm
  refine ⟨_, rfl, p, _, rfl, .inl hp, rfl, _, rfl, ?_⟩
  match ts, hts with
  | [a], _ => exact iteT ⟨_, rfl, p, _, 0, _, rfl, rfl, hp, rfl, go⟩
  | [a, b], _ => exact iteF ⟨_, rfl, p, _, rfl, .inl hp, rfl, _, rfl, iteT ⟨_, rfl, p, _, 0, _, rfl, rfl, hp, rfl, _, rfl, p, _, 1, _, rfl, rfl, hp, rfl, go⟩⟩
  | [a, b, c], _ => exact iteF ⟨_, rfl, p, _, rfl, .inl hp, rfl, _, rfl, iteF ⟨_, rfl, p, _, rfl, .inl hp, rfl, _, rfl, iteT ⟨_, rfl, p, _, 0, _, rfl, rfl, hp, rfl, _, rfl, p, _, 1, _, rfl, rfl, hp, rfl, _, rfl, p, _, 2, _, rfl, rfl, hp, rfl, go⟩⟩⟩
  | [a, b, c, d], _ => exact iteF ⟨_, rfl, p, _, rfl, .inl hp, rfl, _, rfl, iteF ⟨_, rfl, p, _, rfl, .inl hp, rfl, _, rfl, iteF ⟨_, rfl, p, _, 0, _, rfl, rfl, hp, rfl, _, rfl, p, _, 1, _, rfl, rfl, hp, rfl, _, rfl, p, _, 2, _, rfl, rfl, hp, rfl, _, rfl, p, _, 3, _, rfl, rfl, hp, rfl, go⟩⟩⟩
  | [], h => exact absurd h.2 (by decide)
  | a :: b :: c :: d :: e :: r, h => simp at h
theorem scLettersOfL : FnScope ["parts"] ["parts"] (defScope sLettersOfL) := ⟨rfl, rfl, rfl, by decide +kernel, rfl, by decide +kernel, by decide +kernel⟩
theorem ok_lettersL {f fI : Addr} {fd : FuncData} (F : Fun K "_law_letters_of" "_law_letters_of" sLettersOfL f fd) (L : LC K mg CL) (M : Mk K CL fI) (FI : FnR P w K mg base (L2.CX P w) 4 fI (spMkL K C CL)) (R : Rd P w K mg base (L2.CX P w) 6 "_law_letters" ["parts"] (spLetters K C CL 1 4)) (ml : mg "len" = none) : FnOk P w K mg base (L2.CX P w) 7 f fd ["parts"] (spLetters K C CL 0 6) := by
  refine F.okX scLettersOfL (fun vs H Q E h => ?_) (fun cdv A outer s H vs Q E hr h => ?_)
  · obtain ⟨p, ps, rfl, _⟩ := h
    rfl
  have hr5 := hr.mono (by decide : 5 ≤ 6)
  obtain ⟨p, ps, rfl, ⟨ts, hp, hps⟩, hsm, hl1, hl2, qa, qb⟩ := h
  have hlen := hps.len
  refine ⟨_, pss_cons (ps_if (pt_cmpR op_eq (pe_callB call_len_seq rfl ml PySem.boot_len (pa_cons (pv 0) pa_nil)) pe_int (nomark _)) (pss_one (ps_ret (pe_makeR0 M FI hr5 rfl L.gC (passes_call (takes_of rfl rfl rfl rfl) fun _ _ _ _ h => h)))) pss_nil)
    (pss_cons (ps_if (pt_cmpR op_lt (pe_callB call_len_seq rfl ml PySem.boot_len (pa_cons (pv 0) pa_nil)) pe_int (nomark _)) (pss_one (ps_ret (pe_rd R hr rfl (passes_call (takes_of rfl rfl rfl rfl) fun _ _ _ _ h => h) (pa_cons (pv 0) pa_nil)))) pss_nil)
    (pss_cons (ps_if (pt_cmpR op_eq (pe_callB call_len_seq rfl ml PySem.boot_len (pa_cons (pv 0) pa_nil)) pe_int (nomark _)) (pss_one (ps_ret (StX.pe_makeR M FI hr5 rfl L.gC (passes_call (takes_of rfl rfl rfl rfl) fun _ _ _ _ h => h) (pa_cons (pe_ix ix_list (pv 0) pe_int (fun _ _ => rfl)) (pa_cons (pe_ix ix_list (pv 0) pe_int (fun _ _ => rfl)) (pa_cons (pe_ix ix_list (pv 0) pe_int (fun _ _ => rfl)) (pa_cons (pe_ix ix_list (pv 0) pe_int (fun _ _ => rfl)) (pa_cons (pe_ix ix_list (pv 0) pe_int (fun _ _ => rfl)) pa_nil)))))))) pss_nil)
    (pss_one (ps_ret (StX.pe_makeR M FI hr5 rfl L.gC (passes_call (takes_of rfl rfl rfl rfl) fun _ _ _ _ h => h) (pa_cons (pe_ix ix_list (pv 0) pe_int (fun _ _ => rfl)) (pa_cons (pe_ix ix_list (pv 0) pe_int (fun _ _ => rfl)) (pa_cons (pe_ix ix_list (pv 0) pe_int (fun _ _ => rfl)) (pa_cons (pe_ix ix_list (pv 0) pe_int (fun _ _ => rfl)) (pa_cons (pe_ix ix_list (pv 0) pe_int (fun _ _ => rfl)) (pa_cons (pe_ix ix_list (pv 0) pe_int (fun _ _ => rfl)) pa_nil))))))))))), ?_⟩
  have go := mk_sp (C := C) (CL := CL) (Q := Q) (E := E) hps hsm qa qb
  refine ⟨_, rfl, p, _, rfl, .inl hp, rfl, _, rfl, ?_⟩
  by_cases h5 : 1 ≤ ps.length ∧ ps.length < 5
  · refine iteN ?_ ⟨_, rfl, p, _, rfl, .inl hp, _, _, rfl, rfl, _, rfl, iteY ?_ ⟨_, rfl, p, ps, rfl, ⟨ts, hp, hps⟩, hsm, h5.1, by omega, qa, qb⟩⟩
    · rw [List.length_map, hlen]
      exact decide_eq_false fun h => by have := V.int.inj h; omega
    · rw [List.length_map, hlen]
      exact decide_eq_true (by omega)
  have hts : ts.length = 0 ∨ ts.length = 5 ∨ ts.length = 6 := by omega
  clear hps hlen hl1 hl2 qa qb hsm h5
  match ts, hts with
  | [], _ => exact iteT go
  | [a, b, c, d, e], _ => exact iteF ⟨_, rfl, p, _, rfl, .inl hp, _, _, rfl, rfl, _, rfl, iteF ⟨_, rfl, p, _, rfl, .inl hp, rfl, _, rfl, iteT ⟨_, rfl, p, _, 0, _, rfl, rfl, hp, rfl, _, rfl, p, _, 1, _, rfl, rfl, hp, rfl, _, rfl, p, _, 2, _, rfl, rfl, hp, rfl, _, rfl, p, _, 3, _, rfl, rfl, hp, rfl, _, rfl, p, _, 4, _, rfl, rfl, hp, rfl, go⟩⟩⟩
  | [a, b, c, d, e, f], _ => exact iteF ⟨_, rfl, p, _, rfl, .inl hp, _, _, rfl, rfl, _, rfl, iteF ⟨_, rfl, p, _, rfl, .inl hp, rfl, _, rfl, iteF ⟨_, rfl, p, _, 0, _, rfl, rfl, hp, rfl, _, rfl, p, _, 1, _, rfl, rfl, hp, rfl, _, rfl, p, _, 2, _, rfl, rfl, hp, rfl, _, rfl, p, _, 3, _, rfl, rfl, hp, rfl, _, rfl, p, _, 4, _, rfl, rfl, hp, rfl, _, rfl, p, _, 5, _, rfl, rfl, hp, rfl, go⟩⟩⟩
  | [_], h => simp at h
  | [_, _], h => simp at h
  | [_, _, _], h => simp at h
  | [_, _, _, _], h => simp at h
  | a :: b :: c :: d :: e :: f :: g :: r, h => simp at h
end
end K1

set_option Elab.async false
set_option linter.all false
set_option maxRecDepth 100000
set_option maxHeartbeats 4000000
namespace Fb
open PySem PySem.Spec PyProof.Rows L2
theorem cutS_to {z : Str} {j : Nat} : (cutS z none (some (j : Int))).cps.toList = z.cps.toList.take j := by
  show ((z.cps.toList.drop 0).take (HT.sIx z.length z.length (some (j : Int)) - 0)) = _
  rw [List.drop_zero, Nat.sub_zero, HT.sIx_nat]
  have h : z.cps.toList.length = z.length := by simp [Str.length]
  by_cases h5 : j ≤ z.length
  · rw [Nat.min_eq_left h5]
  · rw [Nat.min_eq_right (by omega), List.take_of_length_le (by omega), List.take_of_length_le (by omega)]
theorem areSigns_by {z : Str} (h1 : 1 ≤ z.length) (h2 : z.length ≤ 16) (h3 : ∀ j c, z.cps.toList[j]? = some c → c ∈ signsS.cps.toList ∧ c ∉ z.cps.toList.take j) : areSigns z = true := by
  unfold areSigns
  rw [decide_eq_true h1, decide_eq_true h2, decide_eq_true, Bool.true_and, Bool.true_and, Bool.true_and, List.all_eq_true]
  · intro c hc
    obtain ⟨j, hj⟩ := List.mem_iff_getElem?.mp hc
    exact decide_eq_true (h3 j c hj).1
  · show z.cps.toList.Nodup
    unfold List.Nodup
    rw [List.pairwise_iff_getElem]
    intro i j hi hj hlt e
    refine (h3 j _ (List.getElem?_eq_getElem hj)).2 ?_
    rw [← e]
    exact List.mem_iff_getElem?.mpr ⟨i, by rw [List.getElem?_take, if_pos hlt, List.getElem?_eq_getElem hi]⟩
theorem areSigns_no {z : Str} {j c : Nat} (h : z.cps.toList[j]? = some c) (hb : c ∉ signsS.cps.toList ∨ c ∈ z.cps.toList.take j) : areSigns z = false := by
  cases e : areSigns z with
  | false => rfl
  | true =>
    obtain ⟨_, _, h3, h4⟩ := areSigns_len e
    rcases hb with hb | hb
    · exact absurd (h4 c (List.mem_of_getElem? h)) hb
    · obtain ⟨i, hi⟩ := List.mem_iff_getElem?.mp hb
      rw [List.getElem?_take] at hi
      split at hi
      · rename_i hlt
        obtain ⟨l1, g1⟩ := List.getElem?_eq_some_iff.mp hi
        obtain ⟨l2, g2⟩ := List.getElem?_eq_some_iff.mp h
        have h3 : z.cps.toList.Nodup := h3
        have := List.pairwise_iff_getElem.mp h3 i j l1 l2 hlt
        exact absurd (g1.trans g2.symm) this
      · cases hi
end Fb
namespace K1
open PySem PySem.Spec PyProof.Rows L2 Fb RZ
abbrev sDue : Stmt := top 38
/-- an error as the law lists it -/
def errL (e : Str × List V) : List V := .str e.1 :: e.2
section
variable {P : Program} {w : World} {K : PySem.W.Frag} {mg : Str → Option Value} {base : Heap} {C : Str → Addr} {CL : Addr}
abbrev NDue : List Str := ["parts", "many", "k", "word", "signs", "part", "j"]
theorem scDue : FnScope NDue ["parts"] (defScope sDue) := ⟨rfl, rfl, rfl, by decide +kernel, rfl, by decide +kernel, by decide +kernel⟩
def spDue (K : PySem.W.Frag) : Sp := fun vs H Q _ => ∃ (p : Addr) (ps : List (Str × Str)), vs = [.ref p] ∧ PartsAt K H p ps ∧ Small ps ∧ (verdict ps = none → ∀ H', Same H H' → Q .non H') ∧
  (∀ e, verdict ps = some e → ∀ (l : Addr) (H' : Hp), Same H H' → H l = none → H' l = some (.lst (errL e)) → Q (.ref l) H')
theorem ok_due {f : Addr} {fd : FuncData} (F : Fun K "_law_due" "_law_due" sDue f fd) (RN : Rd P w K mg base CX0 1 "_law_is_name" ["word"] (spTold isName)) (ml : mg "len" = none) (mr : mg "range" = none) : FnOk P w K mg base CX0 2 f fd ["parts"] (spDue K) := by
  refine F.ok scDue (fun vs H Q E h => ?_) (fun cdv A outer s H vs Q E hr h => ?_)
  · obtain ⟨p, ps, rfl, _⟩ := h
    rfl
  obtain ⟨p, ps, rfl, ⟨ts, hp, hps⟩, ⟨hs1, hs2⟩, q1, q2⟩ := h
  refine ⟨_, pss_cons (ps_if (pt_cmpR op_gt (pe_callB call_len_seq rfl ml PySem.boot_len (pa_cons (pv 0) pa_nil)) pe_int (nomark _)) (pss_one (ps_ret (pe_lst (pa_cons pe_str (pa_cons pe_str (pa_cons (pe_callB call_len_seq rfl ml PySem.boot_len (pa_cons (pv 0) pa_nil)) pa_nil)))))) pss_nil)
    (pss_cons (ps_if (pt_cmpR op_eq (pe_callB call_len_seq rfl ml PySem.boot_len (pa_cons (pv 0) pa_nil)) pe_int (nomark _)) (pss_one (ps_ret (pe_lst (pa_cons pe_str (pa_cons (pe_op op_sub pe_int pe_int) pa_nil))))) pss_nil)
    (pss_cons (ps_set (i := 1) scDue.nd rfl (Or.inl rfl) pe_int)
    (pss_cons (ps_for PassesOwn.never rfl (pi_range1 rfl mr (pa_cons (pe_callB call_len_seq rfl ml PySem.boot_len (pa_cons (pv 0) pa_nil)) pa_nil)) (pg_name (i := 2) scDue.nd rfl (Or.inl rfl))
      (pss_cons (ps_asg (pe_ix ix_list (pv 0) (pv 2) (fun _ _ => rfl)) (pg_tup rfl (pgs_cons (pg_name (i := 3) scDue.nd rfl (Or.inl rfl)) (pgs_cons (pg_name (i := 4) scDue.nd rfl (Or.inl rfl)) pgs_nil))))
      (pss_cons (ps_if (PW.pt (pw_or (pt_not (pt_val (pe_rd RN hr rfl pass0 (pa_cons (pv 3) pa_nil)))) (pw_or1 (pt_cmpR op_in_seq (pv 3) (pe_lc (own := [("part", 5)]) (g := gName 5) (tt := tYes) (te := tOp (rIxT K) (tVar 5) (tC (.int 0))) rfl scDue.nd (pi_list (pe_slice sl_list (pv 0) po_none (po_some (pv 2)))) (blkOk_by (N := NDue) (sc := defScope sDue) (by decide +kernel))
            (fun _ _ _ _ _ => pg_name (i := 5) scDue.nd rfl (Or.inl rfl)) (fun _ _ _ _ _ => pts_nil) (fun _ _ _ _ _ => pe_ix ix_tup (pv 5) pe_int (fun _ _ => rfl))) rfl)))) (pss_one (ps_ret (pe_lst (pa_cons pe_str (pa_cons (pv 2) pa_nil))))) pss_nil)
      (pss_cons (ps_if (pt_not (pt_chain op_le op_le pe_int (pe_callB call_len rfl ml PySem.boot_len (pa_cons (pv 4) pa_nil)) pe_int)) (pss_one (ps_ret (pe_lst (pa_cons pe_str (pa_cons (pv 2) pa_nil))))) pss_nil)
      (pss_cons (ps_for PassesOwn.never rfl (pi_range1 rfl mr (pa_cons (pe_callB call_len_str rfl ml PySem.boot_len (pa_cons (pv 4) pa_nil)) pa_nil)) (pg_name (i := 6) scDue.nd rfl (Or.inl rfl))
        (pss_one (ps_if (PW.pt (pw_or (pt_cmpR op_notIn_sign (pe_ix ix_str (pv 4) (pv 6) (fun _ _ => rfl)) pe_str rfl) (pw_or1 (pt_cmpR op_in_sign (pe_ix ix_str (pv 4) (pv 6) (fun _ _ => rfl)) (pe_slice sl_str (pv 4) po_none (po_some (pv 6))) rfl)))) (pss_one (ps_ret (pe_lst (pa_cons pe_str (pa_cons (pv 2) pa_nil))))) pss_nil)))
      (pss_one (ps_set (i := 1) scDue.nd rfl (Or.inl rfl) (pe_op op_mul (pv 1) (pe_callB call_len_str rfl ml PySem.boot_len (pa_cons (pv 4) pa_nil))))))))))
    (pss_one (ps_ret (pe_ifExp (pt_cmpR op_gt (pv 1) pe_int (nomark _)) (pe_lst (pa_cons pe_str (pa_cons pe_str (pa_cons (pv 1) pa_nil)))) pe_non)))))), ?_⟩
  have hz2 : sizeLine = 16777216 := sizeLine_eq
  have hlen := hps.len
  have hL : (((ts.map V.ref).length : Nat) : Int) = (ps.length : Int) := by rw [List.length_map, hlen]
  have fail : ∀ {e : Str × List V}, verdict ps = some e → ∀ {Hi : Hp}, Same H Hi → ∀ l, Hi l = none → Q (.ref l) (upd Hi l (.lst (errL e))) := fun {e} h {Hi} s l hl => q2 e h l _ (s.trans (same_new hl _)) (s.free hl) upd_same
  refine ⟨_, rfl, p, _, rfl, .inl hp, _, _, rfl, rfl, _, rfl, ?_⟩
  by_cases c4 : 4 < ps.length
  · have hv : verdict ps = some (eParts ps.length) := verdict_head (if_pos c4)
    refine iteY (decide_eq_true (by omega)) ⟨_, rfl, p, _, rfl, .inl hp, (by show 3 ≤ sizeLine; decide), fun l hl => ?_⟩
    rw [hL]
    exact fail hv (Same.refl _) l hl
  refine iteN (decide_eq_false (by omega)) ⟨_, rfl, p, _, rfl, .inl hp, rfl, _, rfl, ?_⟩
  by_cases hnil : ps = []
  · have hv : verdict ps = some eNone := verdict_head ((if_neg c4).trans (if_pos hnil))
    refine iteY ?_ ⟨_, _, rfl, rfl, (by show 2 ≤ sizeLine; decide), fun l hl => fail hv (Same.refl _) l hl⟩
    rw [hL, hnil]
    rfl
  have hpos : 0 < ps.length := List.length_pos_iff.mpr hnil
  refine iteN (decide_eq_false fun h => by have := V.int.inj h; omega) ?_
  refine ⟨_, rfl, p, _, rfl, .inl hp, _, rfl, by omega, by omega, for_range (lo := 0) (n := (ts.map V.ref).length) (fun k σ Hi => Same H Hi ∧ (∀ j < k, badK ps j = false) ∧ many (ps.take k) ≤ 16 ^ k ∧ ∃ v2 v3 v4 v6 : Option V, σ = [some (.ref p), some (.int (many (ps.take k))), v2, v3, v4, none, v6]) ⟨Same.refl _, fun j hj => absurd hj (Nat.not_lt_zero j), by rw [List.take_zero]; decide, _, _, _, _, by rw [List.take_zero]; rfl⟩ ?_ ?_⟩
  · rintro k _ Hi hk ⟨si, hno, hmk, v2, v3, v4, v6, rfl⟩
    rw [List.length_map] at hk
    have e0 : ((0 : Int) + (k : Int)) = (k : Int) := by omega
    obtain ⟨r, hr2, hrt⟩ := (hps.same si).get (List.getElem?_eq_getElem hk)
    have hkp : k < ps.length := by omega
    obtain ⟨n1, n2⟩ := hs2 r (List.mem_of_getElem? hr2)
    have hat : atI (ts.map V.ref) (0 + (k : Int)) = some (.ref ts[k]) := by
      rw [e0]
      exact ref_at (List.getElem?_eq_getElem hk)
    have hpi := si.seq hp
    have bad : badPart ((ps.take k).map (·.1)) r = true → ∀ {H3 : Hp}, Same Hi H3 → ∀ l, H3 l = none → Q (.ref l) (upd H3 l (.lst [.str "BadLetters", .int (0 + (k : Int))])) := fun h {H3} s3 l hl => by
      have e : verdict ps = some (ePart k) := verdict_head (by
        have e : head ps = (badAt ps).map ePart := (if_neg c4).trans (if_neg hnil)
        rw [e, badAt_some hkp (by rw [badK_at hr2, h]) hno]
        rfl)
      rw [e0]
      exact fail e (si.trans s3) l hl
    refine ⟨_, rfl, _, rfl, p, _, _, .ref ts[k], rfl, rfl, hpi, hat, ts[k], _, rfl, hrt, rfl, .str r.1, _, rfl, .str r.2, _, rfl, rfl, ?_⟩
    refine ⟨_, rfl, r.1, rfl, by omega, fun H2 s2 => ⟨_, rfl, ?_⟩⟩
    refine ite2 (fun c1 => ?_) (fun c1 => ?_)
    · have hbad : badPart ((ps.take k).map (·.1)) r = true := by
        unfold badPart
        rw [c1, Bool.true_or]
      exact ⟨_, rfl, (by show 2 ≤ sizeLine; decide), fun l hl => bad hbad s2 l hl⟩
    have hp2 := s2.seq hpi
    refine ⟨_, rfl, _, rfl, _, rfl, _, rfl, p, _, rfl, hp2, fun q hq => ?_⟩
    have hcut : cutV (ts.map V.ref) none (some (0 + (k : Int))) = (ts.take k).map V.ref := by rw [e0, cut_nat, List.map_take]
    rw [hcut]
    have s3 : Same Hi (upd H2 q (.lst ((ts.take k).map V.ref))) := s2.trans (same_new hq _)
    have hq3 : upd H2 q (.lst ((ts.take k).map V.ref)) q = some (.lst ((ts.take k).map V.ref)) := upd_same
    generalize upd H2 q (.lst ((ts.take k).map V.ref)) = H3 at s3 hq3
    refine ⟨q, rfl, ⟨_, SqL.of hq3⟩, fun D hD => lc_list (xs := (ts.take k).map V.ref) (PvTexts (·.1) (ps.take k) H3 D) ⟨by rw [List.take_zero]; exact upd_same, same_new hD _⟩ (fun i Hk _ pv => pv.2.seq (SqL.of hq3)) ?_ ?_⟩
    · intro i y Hk hi pv
      obtain ⟨t, ht, rfl⟩ : ∃ t, (ts.take k)[i]? = some t ∧ V.ref t = y := by
        rw [List.getElem?_map] at hi
        exact Option.map_eq_some_iff.mp hi
      have hik : i < k := by
        have := (List.getElem?_eq_some_iff.mp ht).1
        rw [List.length_take] at this
        omega
      rw [List.getElem?_take, if_pos hik] at ht
      obtain ⟨r', hr', hrt'⟩ := (hps.same ((si.trans s3).trans pv.2)).get ht
      have hr'' : (ps.take k)[i]? = some r' := by rw [List.getElem?_take, if_pos hik, hr']
      refine ⟨rfl, _, rfl, t, _, 0, .str r'.1, rfl, rfl, hrt', rfl, _, pv.1, ?_, pv.step hD hr''⟩
      rw [List.length_map, List.length_map, List.length_take, List.length_take]
      omega
    rintro Hk ⟨d1, s4⟩
    rw [List.length_map, List.length_take, hlen, List.take_of_length_le (by rw [List.length_take]; omega)] at d1
    have s5 := s3.trans s4
    refine ⟨D, _, rfl, .inl (SqL.of d1), rfl, Fb.flat_strs _, _, rfl, ?_⟩
    refine ite2 (fun c2 => ?_) (fun c2 => ?_)
    · have hbad : badPart ((ps.take k).map (·.1)) r = true := by
        have c3 : inV (.str r.1) (((ps.take k).map (·.1)).map V.str) = true := c2
        rw [inV_strs] at c3
        unfold badPart
        rw [c3, Bool.true_or, Bool.or_true]
      exact ⟨_, rfl, (by show 2 ≤ sizeLine; decide), fun l hl => bad hbad s5 l hl⟩
    have badS : areSigns r.2 = false → badPart ((ps.take k).map (·.1)) r = true := fun h => by
      unfold badPart
      rw [h]
      simp
    have good : areSigns r.2 = true → badK ps k = false := fun h => by
      rw [badK_at hr2]
      unfold badPart
      have c2' : decide (r.1 ∈ (ps.take k).map (·.1)) = false := by
        rw [← inV_strs]
        cases hc : inV (.str r.1) (((ps.take k).map (·.1)).map V.str) with
        | false => rfl
        | true => exact absurd hc c2
      rw [c2', h]
      cases h1 : isName r.1 with
      | false => exact absurd (by rw [h1]; rfl) c1
      | true => rfl
    refine ⟨_, rfl, _, r.2.length, rfl, ⟨by omega, rfl⟩, _, _, rfl, rfl, _, rfl, ?_⟩
    have off : ¬ (1 ≤ r.2.length ∧ r.2.length ≤ 16) → areSigns r.2 = false := fun h => by
      cases e : areSigns r.2 with
      | false => rfl
      | true => exact absurd ⟨(areSigns_len e).1, (areSigns_len e).2.1⟩ h
    have hk3 : k ≤ 3 := by omega
    have hmk2 : many (ps.take k) ≤ 16 ^ 3 := Nat.le_trans hmk (Nat.pow_le_pow_right (by decide) hk3)
    refine ite2 (fun d1 => ?_) (fun d1 => ?_)
    · have d1 : (1 : Int) ≤ (r.2.length : Int) := of_decide_eq_true d1
      refine ⟨_, _, rfl, rfl, _, rfl, ?_⟩
      by_cases d2 : (r.2.length : Int) ≤ 16
      · rw [decide_eq_true d2]
        have hz16 : r.2.length ≤ 16 := by omega
        have hz1 : 1 ≤ r.2.length := by omega
        have hcl : r.2.cps.toList.length = r.2.length := by simp [Str.length]
        refine ⟨_, rfl, r.2, rfl, by omega, _, rfl, by omega, by omega, for_range (lo := 0) (n := r.2.length) (fun j σ Hj => Hj = Hk ∧ (∀ i < j, ∀ c, r.2.cps.toList[i]? = some c → c ∈ signsS.cps.toList ∧ c ∉ r.2.cps.toList.take i) ∧ ∃ v6 : Option V, σ = [some (.ref p), some (.int (many (ps.take k))), some (.int (0 + (k : Int))), some (.str r.1), some (.str r.2), none, v6]) ⟨rfl, fun i hi => absurd hi (Nat.not_lt_zero i), _, rfl⟩ ?_ ?_⟩
        · rintro j _ _ hj ⟨rfl, hg, v6', rfl⟩
          have ej : ((0 : Int) + (j : Int)) = (j : Int) := by omega
          have hjl : j < r.2.cps.toList.length := by omega
          have hc0 := List.getElem?_eq_getElem hjl
          have haz : atI r.2.cps.toList (0 + (j : Int)) = some r.2.cps.toList[j] := by
            rw [ej]
            exact atI_nat hc0
          refine ⟨_, rfl, _, rfl, r.2, _, _, rfl, rfl, by omega, haz, _, signsS, rfl, rfl, _, rfl, ?_⟩
          refine ite2 (fun f1 => ?_) (fun f1 => ?_)
          · have hn : r.2.cps.toList[j] ∉ signsS.cps.toList := fun h => by
              rw [decide_eq_true h] at f1
              cases f1
            exact ⟨_, rfl, (by show 2 ≤ sizeLine; decide), fun l hl => bad (badS (areSigns_no hc0 (.inl hn))) s5 l hl⟩
          have hin : r.2.cps.toList[j] ∈ signsS.cps.toList := by
            cases hd : decide (r.2.cps.toList[j] ∈ signsS.cps.toList) with
            | true => exact of_decide_eq_true hd
            | false => rw [hd] at f1; exact absurd rfl f1
          refine ⟨_, rfl, _, rfl, r.2, _, _, rfl, rfl, by omega, haz, _, rfl, _, rfl, _, rfl, r.2, rfl, by omega, _, _, rfl, rfl, _, rfl, ?_⟩
          rw [ej, cutS_to]
          refine ite2 (fun f2 => ?_) (fun f2 => ?_)
          · exact ⟨_, rfl, (by show 2 ≤ sizeLine; decide), fun l hl => bad (badS (areSigns_no hc0 (.inr (of_decide_eq_true f2)))) s5 l hl⟩
          · refine ⟨rfl, fun i hi c hc => ?_, _, rfl⟩
            by_cases hij : i = j
            · rw [hij, hc0] at hc
              cases hc
              rw [hij]
              exact ⟨hin, fun h => f2 (decide_eq_true h)⟩
            · exact hg i (by omega) c hc
        · rintro _ _ ⟨rfl, hg, v6', rfl⟩
          have hS : areSigns r.2 = true := areSigns_by hz1 hz16 fun i c hc => hg i (by rw [← hcl]; exact (List.getElem?_eq_some_iff.mp hc).1) c hc
          refine ⟨_, rfl, _, rfl, r.2, rfl, by omega, _, _, rfl, rfl, .inl ⟨by omega, by omega⟩, si.trans s5, fun j hj => ?_, ?_, some (.int (0 + (k : Int))), some (.str r.1), some (.str r.2), v6', ?_⟩
          · by_cases hji : j = k
            · rw [hji]
              exact good hS
            · exact hno j (by omega)
          · rw [many_snoc hr2, Nat.pow_succ]
            exact Nat.mul_le_mul hmk hz16
          · rw [many_snoc hr2, Int.natCast_mul]
            rfl
      · rw [decide_eq_false d2]
        exact ⟨_, rfl, (by show 2 ≤ sizeLine; decide), fun l hl => bad (badS (off fun h => d2 (by omega))) s5 l hl⟩
    · have d1 : ¬ (1 : Int) ≤ (r.2.length : Int) := fun h => d1 (decide_eq_true h)
      exact ⟨_, rfl, _, rfl, (by show 2 ≤ sizeLine; decide), fun l hl => bad (badS (off fun h => d1 (by omega))) s5 l hl⟩
  · rintro σ Hi ⟨si, hno, hmk, v2, v3, v4, v6, rfl⟩
    rw [List.length_map, hlen] at hno
    have e : ps.take (ts.map V.ref).length = ps := List.take_of_length_le (by rw [List.length_map]; omega)
    rw [e]
    have hh : head ps = none := by
      have e : head ps = (badAt ps).map ePart := (if_neg c4).trans (if_neg hnil)
      rw [e, badAt_none hno]
      rfl
    refine ⟨_, rfl, _, _, rfl, rfl, _, rfl, ?_⟩
    by_cases hm : 16 < many ps
    · refine iteY (decide_eq_true (by omega)) ⟨_, rfl, (by show 3 ≤ sizeLine; decide), fun l hl => fail (verdict_many hh hm) si l hl⟩
    · refine iteN (decide_eq_false (by omega)) (q1 (verdict_good hh (by omega)) _ si)
end
end K1

set_option Elab.async false
set_option linter.all false
set_option maxRecDepth 100000
set_option maxHeartbeats 4000000
namespace Fb
open PySem PySem.Spec PyProof.Rows L2
theorem cutC_snoc (c d : Nat) : ∀ (l acc : List Nat), cutC c acc (l ++ [d]) = if d = c then cutC c acc l ++ [[]] else (cutC c acc l).dropLast ++ [(cutC c acc l).getLastD [] ++ [d]]
  | [], acc => by
    by_cases h : d = c
    · simp [cutC, h]
    · simp [cutC, h]
  | x :: r, acc => by
    by_cases hx : x = c
    · have ih := cutC_snoc c d r []
      have e1 : cutC c acc (x :: r ++ [d]) = acc :: cutC c [] (r ++ [d]) := by
        show cutC c acc (x :: (r ++ [d])) = _
        conv => lhs; unfold cutC
        rw [if_pos hx]
      have e2 : cutC c acc (x :: r) = acc :: cutC c [] r := by
        conv => lhs; unfold cutC
        rw [if_pos hx]
      have hne := cutC_ne c r []
      rw [e1, e2, ih]
      by_cases h : d = c
      · rw [if_pos h, if_pos h]
        rfl
      · rw [if_neg h, if_neg h, List.dropLast_cons_of_ne_nil hne]
        cases hc : cutC c [] r with
        | nil => exact absurd hc hne
        | cons y ys => rfl
    · have ih := cutC_snoc c d r (acc ++ [x])
      have e1 : cutC c acc (x :: r ++ [d]) = cutC c (acc ++ [x]) (r ++ [d]) := by
        show cutC c acc (x :: (r ++ [d])) = _
        conv => lhs; unfold cutC
        rw [if_neg hx]
      have e2 : cutC c acc (x :: r) = cutC c (acc ++ [x]) r := by
        conv => lhs; unfold cutC
        rw [if_neg hx]
      rw [e1, e2, ih]
theorem cutC_one {c : Nat} : ∀ {l acc a : List Nat}, cutC c acc l = [a] → a = acc ++ l ∧ c ∉ l
  | [], acc, a, h => by
    unfold cutC at h
    have : acc = a := by simpa using h
    exact ⟨by simp [this], List.not_mem_nil⟩
  | x :: r, acc, a, h => by
    unfold cutC at h
    split at h
    · have := cutC_ne c r []
      simp at h
      exact absurd h.2 this
    · rename_i hx
      obtain ⟨e, hc⟩ := cutC_one h
      refine ⟨by rw [e, List.append_assoc]; rfl, fun hm => ?_⟩
      rcases List.mem_cons.mp hm with z | z
      · exact hx z.symm
      · exact hc z
theorem cutC_two {c : Nat} : ∀ {l acc a b : List Nat}, cutC c acc l = [a, b] → ∃ u, a = acc ++ u ∧ c ∉ u ∧ l = u ++ c :: b ∧ c ∉ b
  | [], acc, a, b, h => by
    unfold cutC at h
    simp at h
  | x :: r, acc, a, b, h => by
    unfold cutC at h
    split at h
    · rename_i hx
      have h2 : acc = a ∧ cutC c [] r = [b] := by simpa using h
      obtain ⟨e, hc⟩ := cutC_one h2.2
      refine ⟨[], by rw [h2.1, List.append_nil], List.not_mem_nil, ?_, ?_⟩
      · rw [e, hx]
        rfl
      · rw [e]
        exact hc
    · rename_i hx
      obtain ⟨u, e1, e2, e3, e4⟩ := cutC_two h
      refine ⟨x :: u, by rw [e1, List.append_assoc]; rfl, fun hm => ?_, by rw [e3]; rfl, e4⟩
      rcases List.mem_cons.mp hm with z | z
      · exact hx z.symm
      · exact e2 z
theorem pair_form {w : Str} (h : isPair w = true) : TL.tl w = TL.tl (pairOf w).1 ++ 58 :: TL.tl (pairOf w).2 ∧ 58 ∉ TL.tl (pairOf w).1 ∧ 58 ∉ TL.tl (pairOf w).2 := by
  unfold isPair at h
  unfold pairOf
  match hc : cutC 58 [] (TL.tl w), h with
  | [a, b], _ =>
    obtain ⟨u, e1, e2, e3, e4⟩ := cutC_two hc
    rw [List.nil_append] at e1
    rw [e1] at *
    exact ⟨e3, e2, e4⟩
  | [], h => simp [hc] at h
  | [a], h => simp [hc] at h
  | a :: b :: c :: r, h => simp [hc] at h
theorem find_first {c : Nat} {x : Str} {u b : List Nat} (h : TL.tl x = u ++ c :: b) (hu : c ∉ u) : Txt.find x (one c) = (u.length : Int) := by
  have hat : ∀ i, StrLaws.At x (one c) x.length i ↔ TL.pre [c] (List.drop i (TL.tl x)) = true := fun i => TL.at_iff (x := x) (y := one c) (by simp [one, TL.tl]) i
  have hit : StrLaws.At x (one c) x.length u.length := by
    rw [hat, h, List.drop_left]
    simp [TL.pre]
  have no : ∀ i, i < u.length → ¬ StrLaws.At x (one c) x.length i := fun i hi hA => by
    rw [hat, h] at hA
    rw [TL.free_of hu i hi] at hA
    cases hA
  rw [PySem.Txt.find.eq_1]
  rcases PySem.StrLaws.occ_head x (one c) 1 (Nat.le_refl _) with ⟨e, hn⟩ | ⟨i, r, e, ha, hb⟩
  · exact absurd hit (hn _)
  · rw [e]
    have : i = u.length := by
      rcases Nat.lt_trichotomy i u.length with hl | hl | hl
      · exact absurd ha (no i hl)
      · exact hl
      · exact absurd hit (hb _ hl)
    show (i : Int) = _
    rw [this]
end Fb

set_option Elab.async false
set_option linter.all false
set_option maxRecDepth 100000
set_option maxHeartbeats 4000000
namespace Fb
open PySem PySem.Spec PyProof.Rows L2
theorem index_first {c : Nat} {x : Str} {u b : List Nat} (h : TL.tl x = u ++ c :: b) (hu : c ∉ u) : Txt.index0 x (one c) = some u.length := by
  have hf := find_first h hu
  unfold Txt.index0
  rw [PySem.Txt.find.eq_1] at hf
  cases e : Builtin.Str.occurrences x (one c) 0 x.length 1 with
  | nil =>
    rw [e] at hf
    simp at hf
  | cons i r =>
    rw [e] at hf
    have hf : (i : Int) = (u.length : Int) := hf
    show some i = some u.length
    rw [show i = u.length by omega]
theorem mt_sindex {X : Cx} (hc : X.calm = true) : MtR X "str.index" (fun x xs H Q => ∃ a b k, x = .str a ∧ xs = [.str b] ∧ Txt.index0 a b = some k ∧ Q (.int (k : Nat)) H) := by
  intro pins s σ H x xs v us Q I rx rv h
  obtain ⟨a, b, k, rfl, rfl, hk, q⟩ := h
  refine mt_indexX (W := fun _ _ _ _ => False) hc (fun u s' h => ?_) pins s σ H _ _ v us Q I rx rv ⟨a, b, rfl, rfl, fun j hj => ?_, fun hn => ?_⟩
  · obtain ⟨_, _, _, _, _, _, _, _, _, _, _, _, _, _, _, _, h⟩ := h
    exact h.elim
  · rw [hk] at hj
    cases hj
    exact q
  · rw [hk] at hn
    cases hn
/-- the pieces by slices -/
theorem cut_before {w : Str} (h : isPair w = true) : cutS w none (some ((pairOf w).1.length : Int)) = (pairOf w).1 := by
  obtain ⟨e, _, _⟩ := pair_form h
  apply tl_inj
  show ((w.cps.toList.drop 0).take (HT.sIx w.length w.length (some ((pairOf w).1.length : Int)) - 0)) = _
  have e2 : w.cps.toList = _ := e
  have hl : w.length = (TL.tl w).length := str_len w
  rw [List.drop_zero, Nat.sub_zero, HT.sIx_nat, e2, str_len (pairOf w).1, hl, e, List.length_append, Nat.min_eq_left (by omega), List.take_left]
theorem cut_after {w : Str} (h : isPair w = true) : cutS w (some (((pairOf w).1.length : Int) + 1)) none = (pairOf w).2 := by
  obtain ⟨e, _, _⟩ := pair_form h
  apply tl_inj
  have e3 : (((pairOf w).1.length : Int) + 1) = (((pairOf w).1.length + 1 : Nat) : Int) := by omega
  rw [e3]
  show ((w.cps.toList.drop (HT.sIx w.length 0 (some (((pairOf w).1.length + 1 : Nat) : Int)))).take (w.length - _)) = _
  have e2 : w.cps.toList = _ := e
  have hl : w.length = (TL.tl w).length := str_len w
  have hd : (TL.tl (pairOf w).1 ++ 58 :: TL.tl (pairOf w).2).drop ((TL.tl (pairOf w).1).length + 1) = TL.tl (pairOf w).2 := by
    rw [List.drop_append, List.drop_of_length_le (by omega)]
    simp
  rw [HT.sIx_nat, str_len (pairOf w).1, hl, e, List.length_append, List.length_cons, Nat.min_eq_left (by omega), e2, hd]
  exact List.take_of_length_le (by omega)
end Fb

set_option Elab.async false
set_option linter.all false
set_option maxRecDepth 100000
set_option maxHeartbeats 4000000
namespace Fb
open PySem PySem.Spec PyProof.Rows L2
/-- the words of the first signs -/
def wordsUp (z : Str) (i : Nat) : List Str := (cutC 32 [] ((TL.tl z).take i)).map mkS
theorem wordsUp_all (z : Str) : wordsUp z z.cps.size = wordsZ z := by
  unfold wordsUp wordsZ
  rw [List.take_of_length_le (by show z.cps.toList.length ≤ _; simp)]
theorem wordsUp_ne (z : Str) (i : Nat) : wordsUp z i ≠ [] := by
  unfold wordsUp
  intro h
  exact cutC_ne _ _ _ (List.map_eq_nil_iff.mp h)
theorem wordsUp_len (z : Str) (i : Nat) : (wordsUp z i).length ≤ i + 1 := by
  have h := cutC_len 32 ((TL.tl z).take i) []
  unfold wordsUp
  rw [List.length_map]
  simp only [List.length_nil, List.length_take] at h
  omega
theorem take_snoc {z : Str} {i c : Nat} (h : z.cps[i]? = some c) : (TL.tl z).take (i + 1) = (TL.tl z).take i ++ [c] := by
  have : (TL.tl z)[i]? = some c := by
    show z.cps.toList[i]? = some c
    simpa using h
  rw [List.take_succ, this]
  rfl
theorem wordsUp_space {z : Str} {i : Nat} (h : z.cps[i]? = some 32) : wordsUp z (i + 1) = wordsUp z i ++ [("" : Str)] := by
  unfold wordsUp
  rw [take_snoc h, cutC_snoc, if_pos rfl, List.map_append]
  rfl
theorem wordsUp_sign {z : Str} {i c : Nat} (h : z.cps[i]? = some c) (hc : c ≠ 32) : ∃ w, (wordsUp z i)[(wordsUp z i).length - 1]? = some w ∧ wordsUp z (i + 1) = (wordsUp z i).set ((wordsUp z i).length - 1) (w ++ ⟨#[c]⟩) ∧ w.length ≤ z.length := by
  have hl := cutC_len 32 ((TL.tl z).take i) []
  have hne := cutC_ne 32 ((TL.tl z).take i) []
  unfold wordsUp
  rw [take_snoc h, cutC_snoc, if_neg hc]
  generalize cutC 32 [] ((TL.tl z).take i) = L at hl hne
  obtain ⟨M, x, rfl⟩ : ∃ M x, L = M ++ [x] := ⟨L.dropLast, L.getLast hne, (List.dropLast_concat_getLast hne).symm⟩
  refine ⟨mkS x, ?_, ?_, ?_⟩
  · rw [List.map_append, List.length_append, List.length_map]
    simp
  · rw [List.dropLast_concat, List.map_append, List.map_append, List.length_append, List.length_map]
    have e : (M ++ [x]).getLastD [] = x := by simp
    rw [e]
    show _ = (M.map mkS ++ [mkS x]).set (M.length + 1 - 1) _
    have e3 : mkS (x ++ [c]) = mkS x ++ ⟨#[c]⟩ := tl_inj (by rw [TL.tl_append]; rfl)
    rw [Nat.add_sub_cancel, List.set_append_right _ _ (by simp), List.length_map, Nat.sub_self, ← e3]
    rfl
  · rw [List.map_append, List.sum_append, List.length_append] at hl
    simp only [List.map_cons, List.map_nil, List.sum_cons, List.sum_nil, List.length_nil, List.length_take, List.length_cons] at hl
    rw [str_len, tl_mkS, str_len]
    omega
end Fb
namespace Fb
open PySem PySem.Spec PyProof.Rows L2
/-- values in the making -/
def PvG {α : Type} (g : α → V) (ws : List α) (H : Hp) (D : Addr) (i : Nat) (Hi : Hp) : Prop := Hi D = some (.lst ((ws.take i).map g)) ∧ Same H Hi
theorem PvG.step {α : Type} {g : α → V} {ws : List α} {H Hi : Hp} {D : Addr} {i : Nat} {q : α} (hD : H D = none) (p : PvG g ws H D i Hi) (hq : ws[i]? = some q) : PvG g ws H D (i + 1) (upd Hi D (.lst ((ws.take i).map g ++ [g q]))) := by
  refine ⟨?_, fun a o e => (upd_ne (ne_of_none e hD)).trans (p.2 _ _ e)⟩
  have e : ws.take (i + 1) = ws.take i ++ [q] := by rw [List.take_succ, hq]; rfl
  rw [e, List.map_append]
  exact upd_same
theorem PvG.start {α : Type} {g : α → V} {ws : List α} {H : Hp} {D : Addr} (hD : H D = none) : PvG g ws H D 0 (upd H D (.lst [])) := ⟨by rw [List.take_zero]; exact upd_same, same_new hD _⟩
theorem PvG.fin {α : Type} {g : α → V} {ws : List α} {H Hi : Hp} {D : Addr} {n : Nat} (p : PvG g ws H D n Hi) (hn : ws.length ≤ n) : Hi D = some (.lst (ws.map g)) := by
  have h := p.1
  rwa [List.take_of_length_le hn] at h
theorem ix_last {n : Nat} (h : 1 ≤ n) : ixN n ((n : Int) - 1) = some (n - 1) := by
  unfold ixN
  rw [if_pos (by omega), if_pos (by omega)]
  congr 1
  omega
theorem seqT_put {K : PySem.W.Frag} {H : Hp} {D : Addr} {os : List V} {u : HO} (h : H D = some (.lst os)) {t : Addr} {xs : List V} (q : SqT K H t xs) : SqT K (upd H D u) t xs := by
  rcases q with (q | ⟨o, q⟩) | q
  · exact .inl (.inl ((upd_ne fun z => by rw [z, h] at q; cases q).trans q))
  · exact .inl (.inr ⟨o, (upd_ne fun z => by rw [z, h] at q; cases q).trans q⟩)
  · exact .inr q
theorem pairs_put {K : PySem.W.Frag} {H : Hp} {D : Addr} {os : List V} {u : HO} (h : H D = some (.lst os)) : ∀ {ts : List Addr} {ps : List (Str × Str)}, PairsAt K H ts ps → PairsAt K (upd H D u) ts ps
  | [], [], _ => trivial
  | _ :: _, _ :: _, q => ⟨seqT_put h q.1, pairs_put h q.2⟩
end Fb
namespace K1
open PySem PySem.Spec PyProof.Rows L2 Fb RZ
theorem PvPairs.push {K : PySem.W.Frag} {ws : List Str} {H Hi Hn : Hp} {D t : Addr} {i : Nat} {u : Str} (hD : H D = none) (p : PvPairs K ws H D i Hi) (hu : ws[i]? = some u) (s : Same Hi Hn) (ht : SqT K Hn t [.str (pairOf u).1, .str (pairOf u).2]) :
    ∃ ts : List Addr, Hn D = some (.lst (ts.map V.ref)) ∧ ts.length ≤ i ∧ PvPairs K ws H D (i + 1) (upd Hn D (.lst (ts.map V.ref ++ [.ref t]))) := by
  obtain ⟨ts, p1, p2, p3⟩ := p
  have hlen := p2.len
  rw [List.length_map, List.length_take] at hlen
  have p4 := s _ _ p1
  refine ⟨ts, p4, by omega, ts ++ [t], ?_, ?_, fun b o hb => (upd_ne (ne_of_none hb hD)).trans (s _ _ (p3 _ _ hb))⟩
  · rw [List.map_append]
    exact upd_same
  · have e : ws.take (i + 1) = ws.take i ++ [u] := by rw [List.take_succ, hu]; rfl
    rw [e, List.map_append]
    exact PairsAt.snoc (seqT_put p4 ht) (Fb.pairs_put p4 (p2.same s))
theorem small_read {z : Str} (hz : z.length ≤ 99) (hr : readable z = true) : Small (readPs z) := by
  have hwl := wordsZ_len z
  refine ⟨by show ((wordsZ z).map pairOf).length ≤ 100; rw [List.length_map]; omega, fun p hp => ?_⟩
  obtain ⟨u, hu, rfl⟩ := List.mem_map.mp hp
  have h1 := wordsZ_at hu
  have h2 := pairOf_len (List.all_eq_true.mp hr u hu)
  omega
abbrev sDueT : Stmt := top 39
/-- the error that is due for a text -/
def dueT (z : Str) : Option (Str × List V) := if readable z = true then verdict (readPs z) else some ("BadText", [.int 0, .str "form"])
section
variable {P : Program} {w : World} {K : PySem.W.Frag} {mg : Str → Option Value} {base : Heap} {C : Str → Addr} {CL : Addr}
abbrev NDueT : List Str := ["text", "words", "sign", "word", "parts", "spot"]
theorem scDueT : FnScope NDueT ["text"] (defScope sDueT) := ⟨rfl, rfl, rfl, by decide +kernel, rfl, by decide +kernel, by decide +kernel⟩
def spDueT (K : PySem.W.Frag) : Sp := fun vs H Q _ => ∃ z : Str, vs = [.str z] ∧ z.length ≤ 99 ∧
  (dueT z = none → ∀ (t m : Addr) (H' : Hp), Same H H' → SqT K H' t [.non, .ref m] → PartsAt K H' m (readPs z) → Q (.ref t) H') ∧
  (∀ e, dueT z = some e → ∀ (t l m : Addr) (H' : Hp), Same H H' → SqT K H' t [.ref l, .ref m] → H' l = some (.lst (errL e)) → Q (.ref t) H')
theorem ok_dueT {f : Addr} {fd : FuncData} (F : Fun K "_law_due_text" "_law_due_text" sDueT f fd) (RD : Rd P w K mg base CX0 2 "_law_due" ["parts"] (spDue K)) (ml : mg "len" = none) (ma : mg "all" = none) : FnOk P w K mg base CX0 3 f fd ["text"] (spDueT K) := by
  refine F.ok scDueT (fun vs H Q E h => ?_) (fun cdv A outer s H vs Q E hr h => ?_)
  · obtain ⟨z, rfl, _⟩ := h
    rfl
  obtain ⟨z, rfl, hz, q1, q2⟩ := h
  refine ⟨_, pss_cons (ps_set (i := 1) scDueT.nd rfl (Or.inl rfl) (pe_lst (pa_cons pe_str pa_nil)))
    (pss_cons (ps_for PassesOwn.never rfl (pi_str (pv 0)) (pg_name (i := 2) scDueT.nd rfl (Or.inl rfl))
      (pss_one (ps_if (pt_cmpR op_eq (pv 2) pe_str (nomark _))
        (pss_one (ps_expr (pe_bm PySem.F.plainAttrs_list PySem.F.slot_list_append PySem.F.type_list_append mt_append (pv 1) (pa_cons pe_str pa_nil))))
        (pss_one (ps_asg (pe_op op_add_str (pe_ix ix_list (pv 1) (pe_op op_sub (pe_callB call_len_seq rfl ml PySem.boot_len (pa_cons (pv 1) pa_nil)) pe_int) (fun _ _ => rfl)) (pv 2)) (pg_sub (pv 1) (pe_op op_sub (pe_callB call_len_seq rfl ml PySem.boot_len (pa_cons (pv 1) pa_nil)) pe_int) set_list))))))
    (pss_cons (ps_if (pt_not (pt_val (pe_callB (cr_all rfl) rfl ma (by decide +kernel) (pa_cons (pe_lc (own := [("word", 3)]) (g := gName 3) (tt := tYes) rfl scDueT.nd (pi_list (pv 1)) (blkOk_by (N := NDueT) (sc := defScope sDueT) (by decide +kernel))
            (fun _ _ _ _ _ => pg_name (i := 3) scDueT.nd rfl (Or.inl rfl)) (fun _ _ _ _ _ => pts_nil) (fun _ _ _ _ _ => pe_cmpR op_eq (pe_m1 PySem.F.slot_str_count PySem.F.type_str_count mt_count (pv 3) pe_str) pe_int (nomark _))) pa_nil))))
        (pss_one (ps_ret (pe_tup (pa_cons (pe_lst (pa_cons pe_str (pa_cons pe_int (pa_cons pe_str pa_nil)))) (pa_cons (pe_lst pa_nil) pa_nil))))) pss_nil)
    (pss_cons (ps_set (i := 4) scDueT.nd rfl (Or.inl rfl) (pe_lst pa_nil))
    (pss_cons (ps_for PassesOwn.never rfl (pi_list (pv 1)) (pg_name (i := 3) scDueT.nd rfl (Or.inl rfl))
      (pss_cons (ps_set (i := 5) scDueT.nd rfl (Or.inl rfl) (pe_m1 PySem.F.slot_str_index PySem.F.type_str_index (mt_sindex rfl) (pv 3) pe_str))
      (pss_one (ps_expr (pe_bm PySem.F.plainAttrs_list PySem.F.slot_list_append PySem.F.type_list_append mt_append (pv 4) (pa_cons (pe_tup (pa_cons (pe_slice sl_str (pv 3) po_none (po_some (pv 5))) (pa_cons (pe_slice sl_str (pv 3) (po_some (pe_op op_add (pv 5) pe_int)) po_none) pa_nil))) pa_nil))))))
    (pss_one (ps_ret (pe_tup (pa_cons (pe_rd RD hr rfl pass0 (pa_cons (pv 4) pa_nil)) (pa_cons (pv 4) pa_nil))))))))), ?_⟩
  have hz2 : sizeLine = 16777216 := sizeLine_eq
  have e2 : (Str.ofString ":") = one 58 := by decide
  have hcl : z.cps.size = z.length := rfl
  refine ⟨(by show 1 ≤ sizeLine; decide), fun m hm => ?_⟩
  refine ⟨_, rfl, z, rfl, for_it walk_str (fun i σ Hi => Same H Hi ∧ Hi m = some (.lst ((wordsUp z i).map V.str)) ∧ ∃ v2 : Option V, σ = [some (.str z), some (.ref m), v2, none, none, none]) ⟨same_new hm _, upd_same, _, rfl⟩ (fun _ _ _ _ _ => trivial) ?_ ?_⟩
  · rintro i x σ Hi _ hi ⟨si, hmi, v2, rfl⟩ ⟨rfl, c, hc, rfl⟩
    have hwl := wordsUp_len z i
    refine ⟨_, rfl, rfl, _, rfl, ?_⟩
    by_cases h32 : c = 32
    · subst h32
      refine iteY (by decide) ⟨_, rfl, .inl ⟨rfl, _, SqL.of hmi⟩, m, _, _, rfl, rfl, hmi, by rw [List.length_map]; omega, fun b o e => (upd_ne (ne_of_none e hm)).trans (si _ _ e), ?_, _, rfl⟩
      rw [wordsUp_space hc, List.map_append]
      exact upd_same
    · obtain ⟨u, hu, hset, hul⟩ := wordsUp_sign hc h32
      have hn : 1 ≤ (wordsUp z i).length := List.length_pos_iff.mpr (wordsUp_ne z i)
      have hix : ixN ((wordsUp z i).map V.str).length ((((wordsUp z i).map V.str).length : Int) - 1) = some ((wordsUp z i).length - 1) := by
        rw [List.length_map]
        exact ix_last hn
      have hat : atI ((wordsUp z i).map V.str) ((((wordsUp z i).map V.str).length : Int) - 1) = some (.str u) := by
        unfold atI
        rw [hix]
        show ((wordsUp z i).map V.str)[(wordsUp z i).length - 1]? = _
        rw [List.getElem?_map, hu]
        rfl
      refine iteN (decide_eq_false fun h => h32 (Fb.one_inj (V.str.inj h))) ⟨_, rfl, _, rfl, m, _, rfl, .inl (SqL.of hmi), _, _, rfl, rfl, m, _, _, .str u, rfl, rfl, SqL.of hmi, hat, _, rfl, _, _, rfl, rfl, (by show u.length + 1 ≤ _; omega), _, rfl, _, rfl, m, _, rfl, .inl (SqL.of hmi), _, _, rfl, rfl, m, _, _, _, rfl, rfl, hmi, hix, fun b o e => (upd_ne (ne_of_none e hm)).trans (si _ _ e), ?_, _, rfl⟩
      rw [hset, List.map_set]
      exact upd_same
  · rintro σ Hi ⟨si, hmi, v2, rfl⟩
    rw [wordsUp_all] at hmi
    have hwl := wordsZ_len z
    refine ⟨_, rfl, m, rfl, ⟨_, SqL.of hmi⟩, fun D hD => lc_list (xs := (wordsZ z).map V.str) (PvG (fun u => V.bl (isPair u)) (wordsZ z) Hi D) (PvG.start hD) (fun i Hk _ pv => pv.2.seq (SqL.of hmi)) ?_ ?_⟩
    · intro i y Hk hy pv
      rw [List.getElem?_map] at hy
      obtain ⟨u, hu, rfl⟩ := Option.map_eq_some_iff.mp hy
      refine ⟨rfl, _, rfl, ⟨_, rfl⟩, _, _, rfl, rfl, rfl, _, pv.1, ?_, ?_⟩
      · rw [List.length_map, List.length_take]
        omega
      · have e : decide (V.int (Txt.count u (Str.ofString ":")) = V.int 1) = isPair u := by
          rw [e2]
          by_cases h : isPair u = true
          · rw [h]
            exact decide_eq_true (by rw [(count_pair u).mpr h])
          · have : isPair u = false := by simpa using h
            rw [this]
            exact decide_eq_false fun q => h ((count_pair u).mp (V.int.inj q))
        rw [e]
        exact pv.step hD hu
    · rintro Hk pv
      have hfin := pv.fin (by rw [List.length_map]; exact Nat.le_refl _)
      have sk := si.trans pv.2
      refine ⟨D, (wordsZ z).map isPair, rfl, SqL.of (by rw [List.map_map]; exact hfin), _, rfl, ?_⟩
      have hall : ((wordsZ z).map isPair).all id = readable z := by
        rw [List.all_map]
        rfl
      rw [hall]
      have hmk := pv.2 _ _ hmi
      by_cases hr : readable z = true
      · rw [hr]
        refine iteF ⟨(by show 0 ≤ sizeLine; decide), fun k hk => ?_⟩
        have hpall : ∀ u ∈ wordsZ z, isPair u = true := List.all_eq_true.mp hr
        have hdT : dueT z = verdict (readPs z) := if_pos hr
        refine ⟨_, rfl, m, rfl, ⟨_, (same_new hk _).seq (SqL.of hmk)⟩, for_list (K := K) (a := m) (xs := (wordsZ z).map V.str) (fun i σ Hi' => PvPairs K (wordsZ z) Hk k i Hi' ∧ ∃ v2 v3 v5 : Option V, σ = [some (.str z), some (.ref m), v2, v3, some (.ref k), v5]) ⟨⟨[], upd_same, trivial, same_new hk _⟩, _, _, _, rfl⟩ (fun i σ Hi' _ h => by obtain ⟨⟨ts, _, _, s⟩, _⟩ := h; exact s.seq (SqL.of hmk)) ?_ ?_⟩
        · rintro i x σ Hi' hx ⟨pp, v2', v3', v5', rfl⟩
          rw [List.getElem?_map] at hx
          obtain ⟨u, hu, rfl⟩ := Option.map_eq_some_iff.mp hx
          have hp := hpall u (List.mem_of_getElem? hu)
          have hul := wordsZ_at (List.mem_of_getElem? hu)
          obtain ⟨f1, f2, _⟩ := pair_form hp
          have hidx : Txt.index0 u (Str.ofString ":") = some (pairOf u).1.length := by
            rw [e2, str_len]
            exact index_first f1 f2
          have hiw : i < (wordsZ z).length := (List.getElem?_eq_some_iff.mp hu).1
          have pk := pp
          obtain ⟨ts0, hk0, _, _⟩ := pk
          refine ⟨_, rfl, ⟨_, rfl⟩, u, _, _, rfl, rfl, hidx, ?_⟩
          refine ⟨_, rfl, .inl ⟨rfl, _, SqL.of hk0⟩, _, rfl, _, rfl, _, rfl, u, rfl, by omega, _, rfl, _, rfl, _, _, rfl, rfl, _, rfl, u, rfl, by omega, (by show 2 ≤ sizeLine; decide), fun t ht => ?_⟩
          have eb : cutS u none (some (((pairOf u).1.length : Nat) : Int)) = (pairOf u).1 := cut_before hp
          have ea : cutS u (some ((((pairOf u).1.length : Nat) : Int) + 1)) none = (pairOf u).2 := cut_after hp
          rw [eb, ea]
          obtain ⟨ts, g1, g2, g3⟩ := pp.push hk hu (same_new ht (.tup [.str (pairOf u).1, .str (pairOf u).2])) (SqT.of upd_same)
          exact ⟨k, _, _, rfl, rfl, g1, by rw [List.length_map]; omega, g3, _, _, _, rfl⟩
        · rintro σ Hi' ⟨⟨ts, p1, p2, p3⟩, v2', v3', v5', rfl⟩
          rw [List.length_map, List.take_of_length_le (Nat.le_refl _)] at p2
          have s9 := sk.trans p3
          exact ⟨_, rfl, k, readPs z, rfl, ⟨ts, SqL.of p1, p2⟩, small_read hz hr, fun hv H' s' => ⟨_, rfl, (by show 2 ≤ sizeLine; decide), fun t ht => q1 (hdT.trans hv) t k _ (s9.trans (s'.trans (same_new ht _))) (SqT.of upd_same) ⟨ts, (s'.trans (same_new ht _)).seq (SqL.of p1), p2.same (s'.trans (same_new ht _))⟩⟩,
            fun e he l H' s' hl hat => ⟨_, rfl, (by show 2 ≤ sizeLine; decide), fun t ht => q2 e (hdT.trans he) t l k _ (s9.trans (s'.trans (same_new ht _))) (SqT.of upd_same) ((same_new ht _) _ _ hat)⟩⟩
      · have hr2 : readable z = false := by simpa using hr
        rw [hr2]
        refine iteT ⟨(by show 3 ≤ sizeLine; decide), fun l hl => ⟨(by show 0 ≤ sizeLine; decide), fun k hk => ⟨(by show 2 ≤ sizeLine; decide), fun t ht => ?_⟩⟩⟩
        exact q2 _ (if_neg hr) t l k _ (sk.trans ((same_new hl _).trans ((same_new hk _).trans (same_new ht _)))) (SqT.of upd_same) (((same_new hk _).trans (same_new ht _)) _ _ upd_same)
end
end K1

set_option Elab.async false
set_option linter.all false
set_option maxRecDepth 100000
set_option maxHeartbeats 4000000
namespace Fb
open PySem PySem.Spec PyProof.Rows L2
/-- popping texts: what is popped and what is left -/
def PvPopS (N : Str → Prop) (b l po D : Addr) (H : Hp) (m i : Nat) (Hi : Hp) : Prop := ∃ cs ps : List Str, Hi D = some (.lst (cs.map V.str)) ∧ Hi po = some (.lst (ps.map V.str)) ∧ cs.length = i ∧ ps.length + i = m ∧ (∀ c ∈ cs ++ ps, N c) ∧ BagAt l Hi b ∧ But b (L2.del H po) (L2.del Hi po)
theorem PvPopS.step {N : Str → Prop} {b l po D : Addr} {H Hi Hj : Hp} {m i r : Nat} {c : Str} {cs ps : List Str} (B0 : BagAt l H b) (hpo : po ≠ b ∧ po ≠ l) (hD : H D = none) (hDpo : D ≠ po) (p1 : Hi D = some (.lst (cs.map V.str))) (p2 : Hi po = some (.lst (ps.map V.str))) (p3 : cs.length = i) (p4 : ps.length + i = m) (p6 : ∀ c ∈ cs ++ ps, N c)
    (p8 : But b (L2.del H po) (L2.del Hi po)) (hc : ps[r]? = some c) (Bj : BagAt l Hj b) (bj : But b Hi Hj) (hm : m ≤ 1000) : ∃ acc, upd Hj po (.lst ((ps.map V.str).eraseIdx r)) D = some (.lst acc) ∧ acc.length < sizeLine ∧ PvPopS N b l po D H m (i + 1) (upd (upd Hj po (.lst ((ps.map V.str).eraseIdx r))) D (.lst (acc ++ [.str c]))) := by
  have hDb : D ≠ b := B0.ne hD
  have hDl : D ≠ l := B0.cell hD
  have hr : r < ps.length := (List.getElem?_eq_some_iff.mp hc).1
  refine ⟨cs.map V.str, (upd_ne hDpo).trans (bj.at hDb p1), ?_, cs ++ [c], ps.eraseIdx r, ?_, ?_, by rw [List.length_append, p3]; rfl, ?_, fun x hx => p6 x ?_, (Bj.skip hpo.1 hpo.2 _).skip hDb hDl _, fun a o e => ?_⟩
  · rw [List.length_map]
    have : sizeLine = 16777216 := sizeLine_eq
    omega
  · rw [List.map_append]
    exact upd_same
  · rw [upd_ne hDpo.symm, upd_same, erase_map]
  · rw [List.length_eraseIdx_of_lt hr]
    omega
  · rw [List.append_assoc] at hx
    exact (List.Perm.append_left cs (erase_perm hc)).mem_iff.mp hx
  · by_cases ha : a = b
    · rw [ha, L2.del_same] at e
      cases e
    · have e2 := p8 a o e
      rw [L2.del_ne ha] at e e2 ⊢
      by_cases hp : a = po
      · rw [hp, L2.del_same] at e
        cases e
      · rw [L2.del_ne hp] at e e2 ⊢
        rw [upd_ne (ne_of_none e hD), upd_ne hp]
        exact bj.at ha e2
end Fb
namespace K1
open PySem PySem.Spec PyProof.Rows L2 Fb RZ
abbrev sSomeNames : Stmt := top 43
section
variable {P : Program} {w : World} {K : PySem.W.Frag} {mg : Str → Option Value} {base : Heap} {C : Str → Addr} {CL : Addr}
abbrev NSomeNames : List Str := ["bag", "parts", "pool", "part", "k"]
theorem scSomeNames : FnScope NSomeNames ["bag", "parts"] (defScope sSomeNames) := ⟨rfl, rfl, rfl, by decide +kernel, rfl, by decide +kernel, by decide +kernel⟩
def spSomeNames (K : PySem.W.Frag) : Sp := fun vs H Q _ => ∃ (b l p : Addr) (ps : List (Str × Str)), vs = [.ref b, .ref p] ∧ BagAt l H b ∧ PartsAt K (L2.del H b) p ps ∧ ps.length ≤ 100 ∧
  ∀ (a : Addr) (names : List Str) (H' : Hp), H a = none → H' a = some (.lst (names.map V.str)) → (∀ n ∈ names, n ∈ ps.map (·.1)) → names.length ≤ ps.length → BagAt l H' b → But b H H' → Q (.ref a) H'
theorem ok_some_names {f : Addr} {fd : FuncData} (F : Fun K "_law_some_names" "_law_some_names" sSomeNames f fd) (D : RD P w K mg base 1 "_law_draw" ["bag", "size"] spDraw) (mr : mg "range" = none) (mn : mg "len" = none) : FnOk P w K mg base CX0 2 f fd ["bag", "parts"] (spSomeNames K) := by
  refine F.ok scSomeNames (fun vs H Q E h => ?_) (fun cdv A outer s H vs Q E hr h => ?_)
  · obtain ⟨b, l, p, ps, rfl, _⟩ := h
    rfl
  obtain ⟨b, l, p, ps, rfl, B, ⟨ts, hp, hps⟩, h100, q⟩ := h
  refine ⟨_, pss_cons (ps_set (i := 2) scSomeNames.nd rfl (Or.inr rfl) (pe_lc (own := [("part", 3)]) (g := gName 3) (tt := tYes) (te := tOp (rIxT K) (tVar 3) (tC (.int 0))) rfl scSomeNames.nd (pi_list (pv 1)) (blkOk_by (N := NSomeNames) (sc := defScope sSomeNames) (by decide +kernel))
        (fun _ _ _ _ _ => pg_name (i := 3) scSomeNames.nd rfl (Or.inl rfl)) (fun _ _ _ _ _ => pts_nil) (fun _ _ _ _ _ => pe_ix ix_tup (pv 3) pe_int (fun _ _ => rfl))))
    (pss_one (ps_ret (pe_lc (own := [("k", 4)]) (g := gName 4) (tt := tYes) (te := tBM K "list" rPopAt (tVar 2) (tCons (tCall spDraw [] E0 (tCons (tVar 0) (tCons (tCB (fun xs H Q => ∃ p ys, xs = [V.ref p] ∧ (SqL K H p ys ∨ SqT K H p ys) ∧ Q (V.int ys.length) H) (tCons (tVar 2) tNil)) tNil))) tNil)) rfl scSomeNames.nd (pi_range1 rfl mr (pa_cons (pe_rd D hr rfl pass0 (pa_cons (pv 0) (pa_cons (pe_op op_add (pe_callB call_len_seq rfl mn PySem.boot_len (pa_cons (pv 2) pa_nil)) pe_int) pa_nil))) pa_nil)) (blkOk_by (N := NSomeNames) (sc := defScope sSomeNames) (by decide +kernel))
            (fun _ _ _ _ _ => pg_name (i := 4) scSomeNames.nd rfl (Or.inl rfl)) (fun _ _ _ _ _ => pts_nil) (fun _ _ _ _ _ => pe_bm PySem.F.plainAttrs_list PySem.F.slot_list_pop PySem.F.type_list_pop mt_popAt (pv 2) (pa_cons (pe_rd D hr rfl pass0 (pa_cons (pv 0) (pa_cons (pe_callB call_len_seq rfl mn PySem.boot_len (pa_cons (pv 2) pa_nil)) pa_nil))) pa_nil))))), ?_⟩
  have hz2 : sizeLine = 16777216 := sizeLine_eq
  have hlen := hps.len
  have hpH := (Same.undel (b := b) (H := H)).seq hp
  have hpsH := hps.same (Same.undel (b := b) (H := H))
  refine ⟨_, rfl, p, rfl, ⟨_, hpH⟩, fun po hpo => lc_list (xs := ts.map V.ref) (PvTexts (·.1) ps H po) ⟨by rw [List.take_zero]; exact upd_same, same_new hpo _⟩ (fun i Hi _ pv => pv.2.seq hpH) ?_ ?_⟩
  · intro i y Hi hi pv
    obtain ⟨t, ht, rfl⟩ : ∃ t, ts[i]? = some t ∧ V.ref t = y := by
      rw [List.getElem?_map] at hi
      exact Option.map_eq_some_iff.mp hi
    obtain ⟨r, hr2, hrt⟩ := (hpsH.same pv.2).get ht
    refine ⟨rfl, _, rfl, t, _, 0, .str r.1, rfl, rfl, hrt, rfl, _, pv.1, ?_, pv.step hpo hr2⟩
    rw [List.length_map, List.length_map, List.length_take]
    omega
  · rintro H1 ⟨d1, s1⟩
    rw [List.length_map, hlen, List.take_of_length_le (Nat.le_refl _)] at d1
    have B1 := B.same s1
    have hpob : po ≠ b ∧ po ≠ l := ⟨B.ne hpo, B.cell hpo⟩
    have hln : (((ps.map (·.1)).map V.str).length : Int) = (ps.length : Int) := by rw [List.length_map, List.length_map]
    refine ⟨_, rfl, _, rfl, po, _, rfl, .inl (SqL.of d1), _, _, rfl, rfl, b, l, _, rfl, B1, by omega, by omega, fun r H2 r0 r1 B2 b2 => ?_⟩
    have d2 := b2.at hpob.1 d1
    refine ⟨r, rfl, by omega, by omega, fun a ha => lc_range (lo := 0) (n := r.toNat) (PvPopS (fun n : Str => n ∈ (ps.map (·.1) : List Str)) b l po a H2 ps.length) ⟨[], (ps.map (·.1) : List Str), upd_same, (upd_ne (ne_of_none d2 ha)).trans d2, rfl, by rw [List.length_map]; rfl, fun c hc => by rwa [List.nil_append] at hc, B2.new ha _, sdel (sdel (same_new ha _))⟩ ?_ ?_⟩
    · rintro j Hj hj ⟨cs, qs, g1, g2, g3, g4, g6, Bj, bj⟩
      refine ⟨rfl, _, rfl, .inl ⟨rfl, _, SqL.of g2⟩, _, rfl, _, rfl, po, _, rfl, .inl (SqL.of g2), b, l, _, rfl, Bj, ?_, ?_, fun x Hk x0 x1 Bk bk => ?_⟩
      · rw [List.length_map]
        omega
      · rw [List.length_map]
        omega
      · rw [List.length_map] at x1
        have hx : x.toNat < qs.length := by omega
        obtain ⟨c, hc⟩ : ∃ c, qs[x.toNat]? = some c := ⟨_, List.getElem?_eq_getElem hx⟩
        refine ⟨po, _, x, x.toNat, .str c, rfl, rfl, bk.at hpob.1 g2, by omega, by omega, ?_, ?_, PvPopS.step B2 hpob ha (ne_of_none d2 ha).symm g1 g2 g3 g4 g6 bj hc Bk bk (by omega)⟩
        · rw [List.length_map]
          exact seqIndex_of x0 (by omega)
        · rw [List.getElem?_map, hc]
          rfl
    · rintro Hf ⟨cs, qs, g1, g2, g3, g4, g6, Bf, bf⟩
      have bHf : But b H Hf := fun x o e => by
        by_cases hb : x = b
        · rw [hb, L2.del_same] at e
          cases e
        · rw [L2.del_ne hb] at e ⊢
          have e1 := b2.at hb (s1 _ _ e)
          have hxp : x ≠ po := ne_of_none e hpo
          have e4 := bf x o (by rw [L2.del_ne hb, L2.del_ne hxp]; exact e1)
          rwa [L2.del_ne hb, L2.del_ne hxp] at e4
      have haH : H a = none := s1.free (by
        cases h : H1 a with
        | none => rfl
        | some o =>
          have := b2.at (fun z => by rw [z] at ha; obtain ⟨_, _, _, _, _, h9, _⟩ := B2.at_; rw [ha] at h9; cases h9) h
          rw [ha] at this
          cases this)
      exact q a cs Hf haH g1 (fun n hn => g6 n (List.mem_append_left _ hn)) (by omega) Bf bHf
end
end K1

set_option Elab.async false
set_option linter.all false
set_option maxRecDepth 100000
set_option maxHeartbeats 4000000
/-! good parts, changed in one thing -/
namespace Fb
open PySem PySem.Spec PyProof.Rows L2
theorem many_fold (ps : List (Str × Str)) (n : Nat) : ps.foldl (fun n p => n * p.2.length) n = n * many ps := by
  unfold many
  induction ps generalizing n with
  | nil => simp
  | cons p r ih =>
    rw [List.foldl_cons, List.foldl_cons, ih (n * p.2.length), ih (1 * p.2.length), Nat.one_mul, Nat.mul_assoc]
theorem many_append (xs ys : List (Str × Str)) : many (xs ++ ys) = many xs * many ys := by
  have h := many_fold ys (many xs)
  unfold many at h ⊢
  rw [List.foldl_append, h]
theorem many_cons (p : Str × Str) (r : List (Str × Str)) : many (p :: r) = p.2.length * many r := by
  have h := many_fold r (1 * p.2.length)
  rw [Nat.one_mul] at h
  show r.foldl (fun n p => n * p.2.length) (1 * p.2.length) = _
  rw [Nat.one_mul, h]
theorem verdict_of {ps : List (Str × Str)} (h1 : ps.length ≤ 4) (h2 : ps ≠ []) (h3 : ∀ p ∈ ps, isName p.1 = true ∧ areSigns p.2 = true) (h4 : (ps.map (·.1)).Nodup) (h5 : many ps ≤ 16) : verdict ps = none := by
  have hb : badAt ps = none := badAt_none fun j hj => by
    have hg := List.getElem?_eq_getElem hj
    obtain ⟨a, b⟩ := h3 _ (List.getElem_mem hj)
    rw [badK_at hg]
    unfold badPart
    rw [a, b]
    have hn : ps[j].1 ∉ (ps.take j).map (·.1) := fun hm => by
      obtain ⟨i, hi⟩ := List.mem_iff_getElem?.mp hm
      rw [List.getElem?_map, List.getElem?_take] at hi
      split at hi
      · rename_i hlt
        have hi3 : i < ps.length := by omega
        rw [List.getElem?_eq_getElem hi3] at hi
        have hl1 : i < (ps.map (·.1)).length := by rw [List.length_map]; exact hi3
        have hl2 : j < (ps.map (·.1)).length := by rw [List.length_map]; exact hj
        have := List.pairwise_iff_getElem.mp h4 i j hl1 hl2 hlt
        rw [List.getElem_map, List.getElem_map] at this
        exact this (Option.some.inj hi)
      · cases hi
    rw [decide_eq_false hn]
    rfl
  have hh : head ps = none := by
    unfold head
    rw [if_neg (by omega), if_neg h2, hb]
    rfl
  unfold verdict
  rw [hh]
  exact if_neg (by omega)
theorem head_of {ps : List (Str × Str)} (h1 : ps.length ≤ 4) (h2 : ps ≠ []) (g : GoodPs ps) : True := trivial
theorem rot_good {ps : List (Str × Str)} (g : GoodPs ps) (k : Nat) : verdict (ps.drop k ++ ps.take k) = none := by
  have pm : (ps.drop k ++ ps.take k).Perm ps := by
    have := List.perm_append_comm (l₁ := ps.drop k) (l₂ := ps.take k)
    rwa [List.take_append_drop] at this
  refine verdict_of ?_ ?_ (fun p hp => g.mem (pm.mem_iff.mp hp)) ?_ ?_
  · rw [pm.length_eq]
    exact g.few
  · intro h
    exact g.ne (List.perm_nil.mp (h ▸ pm.symm))
  · exact (pm.map (·.1)).nodup_iff.mpr g.nodup
  · rw [many_append, Nat.mul_comm, ← many_append, List.take_append_drop]
    exact g.lim
theorem split_at {ps : List (Str × Str)} {k : Nat} {r : Str × Str} (h : ps[k]? = some r) : ps = ps.take k ++ r :: ps.drop (k + 1) := by
  obtain ⟨hk, e⟩ := List.getElem?_eq_some_iff.mp h
  conv => lhs; rw [← List.take_append_drop k ps]
  rw [List.drop_eq_getElem_cons hk, e]
theorem swap_good {ps : List (Str × Str)} (g : GoodPs ps) {k : Nat} {r r' : Str × Str} (h : ps[k]? = some r) (h1 : isName r'.1 = true) (h2 : areSigns r'.2 = true) (h3 : r'.2.length ≤ r.2.length) (h4 : r'.1 = r.1 ∨ r'.1 ∉ ps.map (·.1)) : verdict (ps.take k ++ [r'] ++ ps.drop (k + 1)) = none := by
  have e := split_at h
  rw [List.append_assoc]
  show verdict (ps.take k ++ r' :: ps.drop (k + 1)) = none
  have hlen : ps.length = (ps.take k).length + ((ps.drop (k + 1)).length + 1) := by
    conv => lhs; rw [e]
    rw [List.length_append, List.length_cons]
  refine verdict_of ?_ (by simp) (fun p hp => ?_) ?_ ?_
  · rw [List.length_append, List.length_cons, ← hlen]
    exact g.few
  · rcases List.mem_append.mp hp with hp | hp
    · exact g.mem (List.mem_of_mem_take hp)
    · rcases List.mem_cons.mp hp with rfl | hp
      · exact ⟨h1, h2⟩
      · exact g.mem (List.mem_of_mem_drop hp)
  · have hn := g.nodup
    rcases h4 with h4 | h4
    · rw [e] at hn
      rw [List.map_append, List.map_cons] at hn ⊢
      rw [h4]
      exact hn
    · have hnn : r'.1 ∉ (ps.take k).map (·.1) ++ (ps.drop (k + 1)).map (·.1) := fun hm => h4 (by
        rcases List.mem_append.mp hm with hm | hm
        · obtain ⟨p, hp, he⟩ := List.mem_map.mp hm
          exact List.mem_map.mpr ⟨p, List.mem_of_mem_take hp, he⟩
        · obtain ⟨p, hp, he⟩ := List.mem_map.mp hm
          exact List.mem_map.mpr ⟨p, List.mem_of_mem_drop hp, he⟩)
      rw [e, List.map_append, List.map_cons] at hn
      rw [List.map_append, List.map_cons]
      have hs : ((ps.take k).map (·.1) ++ (ps.drop (k + 1)).map (·.1)).Nodup := hn.sublist (List.Sublist.append (List.Sublist.refl _) (List.sublist_cons_self _ _))
      have pm : ((ps.take k).map (·.1) ++ r'.1 :: (ps.drop (k + 1)).map (·.1)).Perm (r'.1 :: ((ps.take k).map (·.1) ++ (ps.drop (k + 1)).map (·.1))) := List.perm_middle
      exact pm.nodup_iff.mpr (List.nodup_cons.mpr ⟨hnn, hs⟩)
  · have hl := g.lim
    rw [e, many_append, many_cons] at hl
    rw [many_append, many_cons]
    exact Nat.le_trans (Nat.mul_le_mul_left _ (Nat.mul_le_mul_right _ h3)) hl
theorem cut_from {xs : List V} {k : Nat} : cutV xs (some (k : Int)) none = xs.drop k := by
  show ((xs.drop (HT.sIx xs.length 0 (some (k : Int)))).take (xs.length - _)) = _
  rw [HT.sIx_nat]
  by_cases h : k ≤ xs.length
  · rw [Nat.min_eq_left h]
    exact List.take_of_length_le (by rw [List.length_drop]; exact Nat.le_refl _)
  · rw [Nat.min_eq_right (by omega), Nat.sub_self, List.take_zero, List.drop_of_length_le (by omega)]
theorem cutS_from1 {z : Str} : TL.tl (cutS z (some 1) none) = (TL.tl z).drop 1 := by
  show ((z.cps.toList.drop (HT.sIx z.length 0 (some ((1 : Nat) : Int)))).take (z.length - HT.sIx z.length 0 (some ((1 : Nat) : Int)))) = _
  have h : z.cps.toList.length = z.length := by simp [Str.length]
  rw [HT.sIx_nat]
  by_cases h1 : 1 ≤ z.length
  · rw [Nat.min_eq_left h1]
    exact List.take_of_length_le (by rw [List.length_drop]; omega)
  · rw [Nat.min_eq_right (by omega), Nat.sub_self, List.take_zero]
    exact (List.drop_of_length_le (by show z.cps.toList.length ≤ 1; omega)).symm
theorem cutS_to1 {z : Str} : TL.tl (cutS z none (some 1)) = (TL.tl z).take 1 := cutS_to (j := 1)
theorem areSigns_of {z : Str} (h1 : 1 ≤ z.length) (h2 : z.length ≤ 16) (h3 : (TL.tl z).Nodup) (h4 : ∀ c ∈ TL.tl z, c ∈ signsS.cps.toList) : areSigns z = true := by
  unfold areSigns
  rw [decide_eq_true h1, decide_eq_true h2, decide_eq_true h3, Bool.true_and, Bool.true_and, Bool.true_and, List.all_eq_true]
  exact fun c hc => decide_eq_true (h4 c hc)
theorem areSigns_rot {z : Str} (h : areSigns z = true) : areSigns (cutS z (some 1) none ++ cutS z none (some 1)) = true ∧ (cutS z (some 1) none ++ cutS z none (some 1)).length = z.length := by
  obtain ⟨h1, h2, h3, h4⟩ := areSigns_len h
  have e : TL.tl (cutS z (some 1) none ++ cutS z none (some 1)) = (TL.tl z).drop 1 ++ (TL.tl z).take 1 := by rw [TL.tl_append, cutS_from1, cutS_to1]
  have pm : ((TL.tl z).drop 1 ++ (TL.tl z).take 1).Perm (TL.tl z) := by
    have := List.perm_append_comm (l₁ := (TL.tl z).drop 1) (l₂ := (TL.tl z).take 1)
    rwa [List.take_append_drop] at this
  have hl : (cutS z (some 1) none ++ cutS z none (some 1)).length = z.length := by rw [str_len, e, pm.length_eq, ← str_len]
  refine ⟨areSigns_of (by omega) (by omega) (by rw [e]; exact pm.nodup_iff.mpr h3) fun c hc => ?_, hl⟩
  rw [e] at hc
  exact h4 c (pm.mem_iff.mp hc)
theorem areSigns_tail {z : Str} (h : areSigns z = true) (hz : 1 < z.length) : areSigns (cutS z (some 1) none) = true ∧ (cutS z (some 1) none).length ≤ z.length := by
  obtain ⟨h1, h2, h3, h4⟩ := areSigns_len h
  have hl : (cutS z (some 1) none).length = z.length - 1 := by rw [str_len, cutS_from1, List.length_drop, ← str_len]
  refine ⟨areSigns_of (by omega) (by omega) (by rw [cutS_from1]; exact h3.sublist (List.drop_sublist ..)) fun c hc => ?_, by omega⟩
  rw [cutS_from1] at hc
  exact h4 c (List.mem_of_mem_drop hc)
theorem PairsAt.app {K : PySem.W.Frag} {H : Hp} : ∀ {ts us : List Addr} {ps qs : List (Str × Str)}, PairsAt K H ts ps → PairsAt K H us qs → PairsAt K H (ts ++ us) (ps ++ qs)
  | [], _, [], _, _, h => h
  | _ :: _, _, _ :: _, _, h, k => ⟨h.1, PairsAt.app h.2 k⟩
theorem PairsAt.take {K : PySem.W.Frag} {H : Hp} : ∀ {ts : List Addr} {ps : List (Str × Str)} (k : Nat), PairsAt K H ts ps → PairsAt K H (ts.take k) (ps.take k)
  | [], [], _, _ => by simp [PairsAt]
  | _ :: _, _ :: _, 0, _ => by simp [PairsAt]
  | _ :: _, _ :: _, k + 1, h => ⟨h.1, PairsAt.take k h.2⟩
theorem PairsAt.drop {K : PySem.W.Frag} {H : Hp} : ∀ {ts : List Addr} {ps : List (Str × Str)} (k : Nat), PairsAt K H ts ps → PairsAt K H (ts.drop k) (ps.drop k)
  | [], [], _, _ => by simp [PairsAt]
  | _ :: _, _ :: _, 0, h => h
  | _ :: _, _ :: _, k + 1, h => PairsAt.drop k h.2
end Fb

set_option Elab.async false
set_option linter.all false
set_option maxRecDepth 100000
set_option maxHeartbeats 4000000
namespace K1
open PySem PySem.Spec PyProof.Rows L2 Fb RZ
abbrev sOther : Stmt := top 46
section
variable {P : Program} {w : World} {K : PySem.W.Frag} {mg : Str → Option Value} {base : Heap} {C : Str → Addr} {CL : Addr}
abbrev NOther : List Str := ["bag", "parts", "spot", "word", "signs", "pick", "part"]
theorem scOther : FnScope NOther ["bag", "parts"] (defScope sOther) := ⟨rfl, rfl, rfl, by decide +kernel, rfl, by decide +kernel, by decide +kernel⟩
def spOther (K : PySem.W.Frag) : Sp := fun vs H Q _ => ∃ (b l p : Addr) (ps : List (Str × Str)), vs = [.ref b, .ref p] ∧ BagAt l H b ∧ PartsAt K (L2.del H b) p ps ∧ GoodPs ps ∧
  ∀ (m : Addr) (qs : List (Str × Str)) (H' : Hp), PartsAt K (L2.del H' b) m qs → verdict qs = none → BagAt l H' b → But b H H' → Q (.ref m) H'
theorem ok_other {f : Addr} {fd : FuncData} (F : Fun K "_law_other_parts" "_law_other_parts" sOther f fd) (D : RD P w K mg base 1 "_law_draw" ["bag", "size"] spDraw) (R : RD P w K mg base 4 "_law_fresh" ["bag", "taken"] (spFresh K)) (ml : mg "list" = none) (mn : mg "len" = none) : FnOk P w K mg base CX0 5 f fd ["bag", "parts"] (spOther K) := by
  refine F.ok scOther (fun vs H Q E h => ?_) (fun cdv A outer s H vs Q E hr h => ?_)
  · obtain ⟨b, l, p, ps, rfl, _⟩ := h
    rfl
  obtain ⟨b, l, p, ps, rfl, B, ⟨ts, hp, hps⟩, G, q⟩ := h
  have hr1 := hr.mono (by decide : 1 ≤ 4)
  refine ⟨_, pss_cons (ps_set (i := 2) scOther.nd rfl (Or.inl rfl) (pe_rd D hr1 rfl pass0 (pa_cons (pv 0) (pa_cons (pe_callB call_len_seq rfl mn PySem.boot_len (pa_cons (pv 1) pa_nil)) pa_nil))))
    (pss_cons (ps_asg (pe_ix ix_list (pv 1) (pv 2) (fun _ _ => rfl)) (pg_tup rfl (pgs_cons (pg_name (i := 3) scOther.nd rfl (Or.inl rfl)) (pgs_cons (pg_name (i := 4) scOther.nd rfl (Or.inl rfl)) pgs_nil))))
    (pss_cons (ps_set (i := 5) scOther.nd rfl (Or.inl rfl) (pe_rd D hr1 rfl pass0 (pa_cons (pv 0) (pa_cons pe_int pa_nil))))
    (pss_cons (ps_if (pt_cmpR op_eq (pv 5) pe_int (nomark _)) (pss_one (ps_ret (pe_op op_cat (pe_slice sl_list (pv 1) (po_some (pv 2)) po_none) (pe_slice sl_list (pv 1) po_none (po_some (pv 2)))))) pss_nil)
    (pss_cons (ps_if (pt_cmpR op_eq (pv 5) pe_int (nomark _)) (pss_one (ps_ret (pe_op op_cat (pe_op op_cat (pe_slice sl_list (pv 1) po_none (po_some (pv 2))) (pe_lst (pa_cons (pe_tup (pa_cons (pv 3) (pa_cons (pe_op op_add_str (pe_slice sl_str (pv 4) (po_some pe_int) po_none) (pe_slice sl_str (pv 4) po_none (po_some pe_int))) pa_nil))) pa_nil))) (pe_slice sl_list (pv 1) (po_some (pe_op op_add (pv 2) pe_int)) po_none)))) pss_nil)
    (pss_cons (ps_if (pt_cmpR op_eq (pv 5) pe_int (nomark _)) (pss_one (ps_ret (pe_op op_cat (pe_op op_cat (pe_slice sl_list (pv 1) po_none (po_some (pv 2))) (pe_lst (pa_cons (pe_tup (pa_cons (pe_rd R hr rfl pass0 (pa_cons (pv 0) (pa_cons (pe_lc (own := [("part", 6)]) (g := gName 6) (tt := tYes) (te := tOp (rIxT K) (tVar 6) (tC (.int 0))) rfl scOther.nd (pi_list (pv 1)) (blkOk_by (N := NOther) (sc := defScope sOther) (by decide +kernel))
            (fun _ _ _ _ _ => pg_name (i := 6) scOther.nd rfl (Or.inl rfl)) (fun _ _ _ _ _ => pts_nil) (fun _ _ _ _ _ => pe_ix ix_tup (pv 6) pe_int (fun _ _ => rfl))) pa_nil))) (pa_cons (pv 4) pa_nil))) pa_nil))) (pe_slice sl_list (pv 1) (po_some (pe_op op_add (pv 2) pe_int)) po_none)))) pss_nil)
    (pss_cons (ps_if (PW.pt (pw_and (pt_cmpR op_eq (pv 5) pe_int (nomark _)) (pw_and1 (pt_cmpR op_gt (pe_callB call_len_str rfl mn PySem.boot_len (pa_cons (pv 4) pa_nil)) pe_int (nomark _))))) (pss_one (ps_ret (pe_op op_cat (pe_op op_cat (pe_slice sl_list (pv 1) po_none (po_some (pv 2))) (pe_lst (pa_cons (pe_tup (pa_cons (pv 3) (pa_cons (pe_slice sl_str (pv 4) (po_some pe_int) po_none) pa_nil))) pa_nil))) (pe_slice sl_list (pv 1) (po_some (pe_op op_add (pv 2) pe_int)) po_none)))) pss_nil)
    (pss_one (ps_ret (pe_callTy call_list_of rfl ml (by decide +kernel) (pa_cons (pv 1) pa_nil)))))))))), ?_⟩
  have hz2 : sizeLine = 16777216 := sizeLine_eq
  have hlen := hps.len
  have hfew := G.few
  have hpos : 0 < ps.length := List.length_pos_iff.mpr G.ne
  have pB : ∀ {Hn : Hp}, But b H Hn → SqL K Hn p (ts.map V.ref) := fun x => Same.undel.seq (Same.seq x hp)
  have psB : ∀ {Hn : Hp}, But b H Hn → PairsAt K Hn ts ps := fun x => (hps.same x).same Same.undel
  have hln : (((ts.map V.ref).length : Nat) : Int) = (ps.length : Int) := by rw [List.length_map, hlen]
  refine ⟨_, rfl, _, rfl, p, _, rfl, .inl (pB But.refl), b, l, _, rfl, B, by omega, by omega, fun r H1 r0 r1 B1 b1 => ?_⟩
  obtain ⟨k, rfl⟩ : ∃ k : Nat, r = (k : Int) := ⟨r.toNat, by omega⟩
  have hk : k < ts.length := by omega
  obtain ⟨r, hr2, hrt⟩ := (psB b1).get (List.getElem?_eq_getElem hk)
  have hat : atI (ts.map V.ref) (k : Int) = some (.ref ts[k]) := ref_at (List.getElem?_eq_getElem hk)
  have hrm := G.mem (List.mem_of_getElem? hr2)
  have hrl := G.len _ (List.mem_of_getElem? hr2)
  refine ⟨_, rfl, _, rfl, p, _, _, .ref ts[k], rfl, rfl, pB b1, hat, ts[k], _, rfl, hrt, rfl, .str r.1, _, rfl, .str r.2, _, rfl, rfl, ?_⟩
  refine ⟨_, rfl, b, l, 5, rfl, B1, by decide, by decide, fun x H2 x0 x1 B2 b2' => ?_⟩
  have b2 := b1.trans b2'
  clear hrt b1 B1 b2'
  have fin : ∀ {Hn : Hp} {pA t p2 p3 p4 p5 : Addr} {r' : Str × Str}, But b H Hn → BagAt l Hn b → Hn pA = some (.lst ((ts.take k).map V.ref)) → Hn t = some (.tup [.str r'.1, .str r'.2]) → Hn p2 = none → upd Hn p2 (.lst [.ref t]) p3 = none → upd (upd Hn p2 (.lst [.ref t])) p3 (.lst ((ts.take k).map V.ref ++ [.ref t])) p4 = none →
      upd (upd (upd Hn p2 (.lst [.ref t])) p3 (.lst ((ts.take k).map V.ref ++ [.ref t]))) p4 (.lst ((ts.drop (k + 1)).map V.ref)) p5 = none → verdict (ps.take k ++ [r'] ++ ps.drop (k + 1)) = none →
      Q (.ref p5) (upd (upd (upd (upd Hn p2 (.lst [.ref t])) p3 (.lst ((ts.take k).map V.ref ++ [.ref t]))) p4 (.lst ((ts.drop (k + 1)).map V.ref))) p5 (.lst (((ts.take k).map V.ref ++ [.ref t]) ++ (ts.drop (k + 1)).map V.ref))) := by
    intro Hn pA t p2 p3 p4 p5 r' bn Bn hA ht h2 h3 h4 h5 hv
    have s : Same Hn (upd (upd (upd (upd Hn p2 (.lst [.ref t])) p3 (.lst ((ts.take k).map V.ref ++ [.ref t]))) p4 (.lst ((ts.drop (k + 1)).map V.ref))) p5 (.lst (((ts.take k).map V.ref ++ [.ref t]) ++ (ts.drop (k + 1)).map V.ref))) :=
      (same_new h2 _).trans ((same_new h3 _).trans ((same_new h4 _).trans (same_new h5 _)))
    have hp5b : p5 ≠ b := (((Bn.new h2 _).new h3 _).new h4 _).ne h5
    have e5 : upd (upd (upd (upd Hn p2 (.lst [.ref t])) p3 (.lst ((ts.take k).map V.ref ++ [.ref t]))) p4 (.lst ((ts.drop (k + 1)).map V.ref))) p5 (.lst (((ts.take k).map V.ref ++ [.ref t]) ++ (ts.drop (k + 1)).map V.ref)) p5 = some (.lst ((ts.take k ++ [t] ++ ts.drop (k + 1)).map V.ref)) := by
      rw [upd_same, List.map_append, List.map_append]
      rfl
    generalize upd (upd (upd (upd Hn p2 (.lst [.ref t])) p3 (.lst ((ts.take k).map V.ref ++ [.ref t]))) p4 (.lst ((ts.drop (k + 1)).map V.ref))) p5 (.lst (((ts.take k).map V.ref ++ [.ref t]) ++ (ts.drop (k + 1)).map V.ref)) = H5 at s e5
    have b5 := bn.trans (But.of s)
    have htb : t ≠ b := fun z => by
      obtain ⟨_, _, _, _, _, h9, _⟩ := Bn.at_
      rw [z, h9] at ht
      cases ht
    have ps5 : PairsAt K (L2.del H5 b) ts ps := hps.same b5
    have t5 : SqT K (L2.del H5 b) t [.str r'.1, .str r'.2] := SqT.of (by rw [L2.del_ne htb]; exact s _ _ ht)
    exact q p5 _ H5 ⟨_, SqL.of (by rw [L2.del_ne hp5b]; exact e5), ((ps5.take k).app (show PairsAt K (L2.del H5 b) [t] [r'] from ⟨t5, trivial⟩)).app (ps5.drop (k + 1))⟩ hv (Bn.same s) b5
  have e0 : ((k : Int) + 1) = ((k + 1 : Nat) : Int) := by omega
  have lt : ((ts.take k).map V.ref).length ≤ 4 := by rw [List.length_map, List.length_take]; omega
  have ld : ((ts.drop (k + 1)).map V.ref).length ≤ 4 := by rw [List.length_map, List.length_drop]; omega
  have mt : (ts.map V.ref).take k = (ts.take k).map V.ref := by rw [List.map_take]
  have md : (ts.map V.ref).drop (k + 1) = (ts.drop (k + 1)).map V.ref := by rw [List.map_drop]
  refine ⟨_, rfl, rfl, _, rfl, ?_⟩
  refine ite2 (fun c => ?_) (fun c => ?_)
  · refine ⟨_, rfl, _, rfl, _, rfl, p, _, rfl, pB b2, fun p1 hp1 => ?_⟩
    rw [cut_from, ← List.map_drop]
    have b3 := b2.trans (But.of (same_new hp1 (.lst ((ts.drop k).map V.ref))))
    refine ⟨_, rfl, _, rfl, _, rfl, p, _, rfl, pB b3, fun p2 hp2 => ?_⟩
    rw [cut_nat, mt]
    refine ⟨p1, p2, _, _, rfl, rfl, (same_new hp2 _) _ _ upd_same, upd_same, (by rw [List.length_map, List.length_map, List.length_drop, List.length_take]; omega), fun p3 hp3 => ?_⟩
    have s3 := (same_new hp1 (.lst ((ts.drop k).map V.ref))).trans ((same_new hp2 (.lst ((ts.take k).map V.ref))).trans (same_new hp3 (.lst ((ts.drop k).map V.ref ++ (ts.take k).map V.ref))))
    have hp3b : p3 ≠ b := ((B2.new hp1 _).new hp2 _).ne hp3
    refine q p3 _ _ ⟨ts.drop k ++ ts.take k, SqL.of ?_, ((hps.same (b2.trans (But.of s3))).drop k).app ((hps.same (b2.trans (But.of s3))).take k)⟩ (rot_good G k) (B2.same s3) (b2.trans (But.of s3))
    rw [L2.del_ne hp3b, upd_same, List.map_append]
  refine ⟨_, rfl, rfl, _, rfl, ?_⟩
  refine ite2 (fun c => ?_) (fun c => ?_)
  · refine ⟨_, rfl, _, rfl, _, rfl, p, _, rfl, pB b2, fun pA hpA => ?_⟩
    rw [cut_nat, mt]
    obtain ⟨g1, g2⟩ := areSigns_rot hrm.2
    have hl := g2
    rw [strLen_append] at hl
    refine ⟨_, rfl, _, rfl, 1, rfl, r.2, rfl, by omega, _, rfl, 1, rfl, r.2, rfl, by omega, _, _, rfl, rfl, by omega, (by show 2 ≤ sizeLine; decide), fun t ht => ?_⟩
    have s3 := (same_new hpA (.lst ((ts.take k).map V.ref))).trans (same_new ht (.tup [.str r.1, .str (cutS r.2 (some 1) none ++ cutS r.2 none (some 1))]))
    have b3 := b2.trans (But.of s3)
    have hA3 := (same_new ht (.tup [.str r.1, .str (cutS r.2 (some 1) none ++ cutS r.2 none (some 1))])) _ _ (upd_same (H := H2) (a := pA) (o := .lst ((ts.take k).map V.ref)))
    refine ⟨(by show 1 ≤ sizeLine; decide), fun p2 h2 => ⟨pA, p2, _, _, rfl, rfl, (same_new h2 _) _ _ hA3, upd_same, (by show _ + 1 ≤ sizeLine; omega), fun p3 h3 => ?_⟩⟩
    have b4 := b3.trans (But.of ((same_new h2 (.lst [.ref t])).trans (same_new h3 (.lst ((ts.take k).map V.ref ++ [.ref t])))))
    refine ⟨_, rfl, _, rfl, _, _, rfl, rfl, _, rfl, p, _, rfl, pB b4, fun p4 h4 => ?_⟩
    rw [e0] at *
    rw [cut_from, md] at *
    exact ⟨p3, p4, _, _, rfl, rfl, (same_new h4 _) _ _ upd_same, upd_same, (by rw [List.length_append]; show _ + 1 + _ ≤ sizeLine; omega), fun p5 h5 => fin b3 (B2.same s3) hA3 (upd_same (o := .tup [.str r.1, .str (cutS r.2 (some 1) none ++ cutS r.2 none (some 1))])) h2 h3 h4 h5 (swap_good (r' := (r.1, cutS r.2 (some 1) none ++ cutS r.2 none (some 1))) G hr2 hrm.1 g1 (Nat.le_of_eq g2) (.inl rfl))⟩
  refine ⟨_, rfl, rfl, _, rfl, ?_⟩
  refine ite2 (fun c => ?_) (fun c => ?_)
  · refine ⟨_, rfl, _, rfl, _, rfl, p, _, rfl, pB b2, fun pA hpA => ?_⟩
    rw [cut_nat, mt]
    have b3 := b2.trans (But.of (same_new hpA (.lst ((ts.take k).map V.ref))))
    have B3 := B2.new hpA (.lst ((ts.take k).map V.ref))
    have hA3 : upd H2 pA (.lst ((ts.take k).map V.ref)) pA = some (.lst ((ts.take k).map V.ref)) := upd_same
    have hpAb : pA ≠ b := B2.ne hpA
    generalize upd H2 pA (.lst ((ts.take k).map V.ref)) = H3 at b3 B3 hA3
    refine ⟨_, rfl, _, rfl, p, rfl, ⟨_, pB b3⟩, fun D hD => lc_list (xs := ts.map V.ref) (PvTexts (·.1) ps H3 D) ⟨by rw [List.take_zero]; exact upd_same, same_new hD _⟩ (fun i Hi _ pv => pv.2.seq (pB b3)) ?_ ?_⟩
    · intro i y Hi hi pv
      obtain ⟨t, ht, rfl⟩ : ∃ t, ts[i]? = some t ∧ V.ref t = y := by
        rw [List.getElem?_map] at hi
        exact Option.map_eq_some_iff.mp hi
      obtain ⟨r9, hr9, hrt9⟩ := ((psB b3).same pv.2).get ht
      refine ⟨rfl, _, rfl, t, _, 0, .str r9.1, rfl, rfl, hrt9, rfl, _, pv.1, ?_, pv.step hD hr9⟩
      rw [List.length_map, List.length_map, List.length_take]
      omega
    · rintro H4 ⟨d1, s4⟩
      rw [List.length_map, hlen, List.take_of_length_le (Nat.le_refl _)] at d1
      have b4 := b3.trans (But.of s4)
      have hDb : D ≠ b := B3.ne hD
      refine ⟨b, l, D, ps.map (·.1), rfl, B3.same s4, SqL.of (by rw [L2.del_ne hDb]; exact d1), by rw [List.length_map]; omega, fun z H5 hz hn B5 b5 => ?_⟩
      refine ⟨_, rfl, (by show 2 ≤ sizeLine; decide), fun t ht => ?_⟩
      have bt := (b4.trans b5).trans (But.of (same_new ht (.tup [.str z, .str r.2])))
      have hA5 := (same_new ht (.tup [.str z, .str r.2])) _ _ (b5.at hpAb (s4 _ _ hA3))
      refine ⟨(by show 1 ≤ sizeLine; decide), fun p2 h2 => ⟨pA, p2, _, _, rfl, rfl, (same_new h2 _) _ _ hA5, upd_same, (by show _ + 1 ≤ sizeLine; omega), fun p3 h3 => ?_⟩⟩
      have b6 := bt.trans (But.of ((same_new h2 (.lst [.ref t])).trans (same_new h3 (.lst ((ts.take k).map V.ref ++ [.ref t])))))
      refine ⟨_, rfl, _, rfl, _, _, rfl, rfl, _, rfl, p, _, rfl, pB b6, fun p4 h4 => ?_⟩
      rw [e0] at *
      rw [cut_from, md] at *
      exact ⟨p3, p4, _, _, rfl, rfl, (same_new h4 _) _ _ upd_same, upd_same, (by rw [List.length_append]; show _ + 1 + _ ≤ sizeLine; omega), fun p5 h5 => fin bt (B5.new ht _) hA5 (upd_same (o := .tup [.str z, .str r.2])) h2 h3 h4 h5 (swap_good (r' := (z, r.2)) G hr2 hz hrm.2 (Nat.le_refl _) (.inr hn))⟩
  have last : ∀ m, H2 m = none → Q (.ref m) (upd H2 m (.lst (ts.map V.ref))) := fun m hm => by
    have b3 := b2.trans (But.of (same_new hm (.lst (ts.map V.ref))))
    refine q m ps _ ⟨ts, SqL.of ?_, hps.same b3⟩ (verdict_of G.few G.ne (fun p hp => G.mem hp) G.nodup G.lim) (B2.new hm _) b3
    rw [L2.del_ne (B2.ne hm)]
    exact upd_same
  refine ⟨_, rfl, rfl, _, rfl, ?_⟩
  refine ite2 (fun c => ?_) (fun c => ⟨_, rfl, p, _, rfl, .inl (pB b2), fun m hm => last m hm⟩)
  refine ⟨_, rfl, r.2, rfl, by omega, _, _, rfl, rfl, _, rfl, ?_⟩
  refine ite2 (fun c2 => ?_) (fun c2 => ⟨_, rfl, p, _, rfl, .inl (pB b2), fun m hm => last m hm⟩)
  have h1 : 1 < r.2.length := by
    have : (1 : Int) < (r.2.length : Int) := of_decide_eq_true c2
    omega
  obtain ⟨g1, g2⟩ := areSigns_tail hrm.2 h1
  refine ⟨_, rfl, _, rfl, _, rfl, p, _, rfl, pB b2, fun pA hpA => ?_⟩
  rw [cut_nat, mt]
  refine ⟨_, rfl, _, rfl, 1, rfl, r.2, rfl, by omega, (by show 2 ≤ sizeLine; decide), fun t ht => ?_⟩
  have s3 := (same_new hpA (.lst ((ts.take k).map V.ref))).trans (same_new ht (.tup [.str r.1, .str (cutS r.2 (some 1) none)]))
  have b3 := b2.trans (But.of s3)
  have hA3 := (same_new ht (.tup [.str r.1, .str (cutS r.2 (some 1) none)])) _ _ (upd_same (H := H2) (a := pA) (o := .lst ((ts.take k).map V.ref)))
  refine ⟨(by show 1 ≤ sizeLine; decide), fun p2 h2 => ⟨pA, p2, _, _, rfl, rfl, (same_new h2 _) _ _ hA3, upd_same, (by show _ + 1 ≤ sizeLine; omega), fun p3 h3 => ?_⟩⟩
  have b4 := b3.trans (But.of ((same_new h2 (.lst [.ref t])).trans (same_new h3 (.lst ((ts.take k).map V.ref ++ [.ref t])))))
  refine ⟨_, rfl, _, rfl, _, _, rfl, rfl, _, rfl, p, _, rfl, pB b4, fun p4 h4 => ?_⟩
  rw [e0] at *
  rw [cut_from, md] at *
  exact ⟨p3, p4, _, _, rfl, rfl, (same_new h4 _) _ _ upd_same, upd_same, (by rw [List.length_append]; show _ + 1 + _ ≤ sizeLine; omega), fun p5 h5 => fin b3 (B2.same s3) hA3 (upd_same (o := .tup [.str r.1, .str (cutS r.2 (some 1) none)])) h2 h3 h4 h5 (swap_good (r' := (r.1, cutS r.2 (some 1) none)) G hr2 hrm.1 g1 g2 (.inl rfl))⟩
end
end K1

set_option Elab.async false
set_option linter.all false
set_option maxRecDepth 100000
set_option maxHeartbeats 4000000
namespace Fb
open PySem PySem.Spec PyProof.Rows L2
theorem cutS_fromN {z : Str} {k : Nat} : TL.tl (cutS z (some (k : Int)) none) = (TL.tl z).drop k := by
  show ((z.cps.toList.drop (HT.sIx z.length 0 (some (k : Int)))).take (z.length - HT.sIx z.length 0 (some (k : Int)))) = _
  have h : z.cps.toList.length = z.length := by simp [Str.length]
  rw [HT.sIx_nat]
  by_cases h1 : k ≤ z.length
  · rw [Nat.min_eq_left h1]
    exact List.take_of_length_le (by rw [List.length_drop]; omega)
  · rw [Nat.min_eq_right (by omega), Nat.sub_self, List.take_zero]
    exact (List.drop_of_length_le (by show z.cps.toList.length ≤ k; omega)).symm
theorem cutS_to_len {z : Str} {k : Nat} : (cutS z none (some (k : Int))).length ≤ k ∧ (cutS z none (some (k : Int))).length ≤ z.length := by
  have e : TL.tl (cutS z none (some (k : Int))) = (TL.tl z).take k := cutS_to
  rw [str_len, e, List.length_take, str_len]
  omega
theorem cutS_from_len {z : Str} {k : Nat} (h : k ≤ z.length) : (cutS z (some (k : Int)) none).length + k = z.length := by
  rw [str_len, cutS_fromN, List.length_drop, ← str_len]
  omega
theorem Low.cut {z : Str} (h : Low z) (lo hi : Option Int) : Low (cutS z lo hi) := fun c hc => h c (List.mem_of_mem_drop (List.mem_of_mem_take hc))
theorem Low.app {y z : Str} (h : Low y) (k : Low z) : Low (y ++ z) := fun c hc => by
  rw [TL.tl_append] at hc
  rcases List.mem_append.mp hc with q | q
  · exact h c q
  · exact k c q
theorem Low.one {c : Nat} (h : c < 1000) : Low ⟨#[c]⟩ := fun d hd => by
  have e : d = c := by simpa using hd
  rw [e]
  exact h
theorem low_lit {z : Str} (h : z.cps.toList.all (fun c => decide (c < 1000)) = true) : Low z := fun c hc => of_decide_eq_true (List.all_eq_true.mp h c hc)
theorem but_free2 {b l a : Addr} {H H' : Hp} (x : But b H H') (B : BagAt l H' b) (h : H' a = none) : H a = none := by
  cases e : H a with
  | none => rfl
  | some o =>
    have := x.at (B.ne h) e
    rw [h] at this
    cases this
end Fb
namespace K1
open PySem PySem.Spec PyProof.Rows L2 Fb RZ
abbrev sBent : Stmt := top 40
section
variable {P : Program} {w : World} {K : PySem.W.Frag} {mg : Str → Option Value} {base : Heap} {C : Str → Addr} {CL : Addr}
abbrev NBent : List Str := ["bag", "part", "word", "signs", "spot", "some", "odd"]
theorem scBent : FnScope NBent ["bag", "part"] (defScope sBent) := ⟨rfl, rfl, rfl, by decide +kernel, rfl, by decide +kernel, by decide +kernel⟩
def spBent (K : PySem.W.Frag) : Sp := fun vs H Q _ => ∃ (b l t : Addr) (wd sg : Str) (n : Nat), vs = [.ref b, .ref t] ∧ BagAt l H b ∧ SqT K H t [.str wd, .str sg] ∧ wd.length ≤ 10 ∧ 1 ≤ sg.length ∧ sg.length ≤ n ∧ 17 ≤ n ∧ n ≤ 100 ∧ Low wd ∧ Low sg ∧
  ∀ (t' : Addr) (wd' sg' : Str) (H' : Hp), wd'.length ≤ 10 → Low wd' → sg'.length ≤ n + 1 → Low sg' → H t' = none → SqT K (L2.del H' b) t' [.str wd', .str sg'] → BagAt l H' b → But b H H' → Q (.ref t') H'
theorem ok_bent {f : Addr} {fd : FuncData} (F : Fun K "_law_bent_part" "_law_bent_part" sBent f fd) (D : RD P w K mg base 1 "_law_draw" ["bag", "size"] spDraw) (O : RD P w K mg base 2 "_law_of" ["bag", "things"] (spOf K)) (mn : mg "len" = none) : FnOk P w K mg base CX0 3 f fd ["bag", "part"] (spBent K) := by
  refine F.ok scBent (fun vs H Q E h => ?_) (fun cdv A outer s H vs Q E hr h => ?_)
  · obtain ⟨b, l, t, wd, sg, n, rfl, _⟩ := h
    rfl
  obtain ⟨b, l, t, wd, sg, n, rfl, B, ht, hw, hs0, hs1, hn0, hn1, lw, ls, q⟩ := h
  have hr1 := hr.mono (by decide : 1 ≤ 2)
  refine ⟨_, pss_cons (ps_asg (pv 1) (pg_tup rfl (pgs_cons (pg_name (i := 2) scBent.nd rfl (Or.inl rfl)) (pgs_cons (pg_name (i := 3) scBent.nd rfl (Or.inl rfl)) pgs_nil))))
    (pss_cons (ps_set (i := 4) scBent.nd rfl (Or.inl rfl) (pe_rd D hr1 rfl pass0 (pa_cons (pv 0) (pa_cons (pe_callB call_len_str rfl mn PySem.boot_len (pa_cons (pv 3) pa_nil)) pa_nil))))
    (pss_cons (ps_if (pt_cmpR op_eq (pe_rd D hr1 rfl pass0 (pa_cons (pv 0) (pa_cons pe_int pa_nil))) pe_int (nomark _))
      (pss_cons (ps_set (i := 5) scBent.nd rfl (Or.inl rfl) (pe_lst (pa_cons pe_str (pa_cons (pe_op op_add_str (pe_slice sl_str (pv 2) po_none (po_some pe_int)) pe_str) (pa_cons pe_str (pa_cons (pe_op op_add_str (pe_slice sl_str (pv 2) po_none (po_some pe_int)) pe_str)
        (pa_cons (pe_op op_add_str (pe_slice sl_str (pv 2) po_none (po_some pe_int)) pe_str) (pa_cons (pe_op op_add_str pe_str (pe_slice sl_str (pv 2) po_none (po_some pe_int))) (pa_cons pe_str (pa_cons (pe_op op_add_str (pe_slice sl_str (pv 2) po_none (po_some pe_int)) pe_str) pa_nil))))))))))
      (pss_one (ps_ret (pe_tup (pa_cons (pe_rd O hr rfl pass0 (pa_cons (pv 0) (pa_cons (pv 5) pa_nil))) (pa_cons (pv 3) pa_nil)))))) pss_nil)
    (pss_cons (ps_set (i := 6) scBent.nd rfl (Or.inl rfl) (pe_rd O hr rfl pass0 (pa_cons (pv 0) (pa_cons (pe_lst (pa_cons pe_str (pa_cons pe_str (pa_cons pe_str (pa_cons pe_str (pa_cons pe_str (pa_cons pe_str (pa_cons pe_str (pa_cons pe_str (pa_cons pe_str (pa_cons pe_str (pa_cons pe_str (pa_cons (pe_ix ix_str (pv 3) (pv 4) (fun _ _ => rfl)) pa_nil))))))))))))) pa_nil))))
    (pss_cons (ps_set (i := 5) scBent.nd rfl (Or.inl rfl) (pe_lst (pa_cons pe_str (pa_cons pe_str (pa_cons (pe_op op_add_str (pe_op op_add_str (pe_slice sl_str (pv 3) po_none (po_some (pv 4))) (pv 6)) (pe_slice sl_str (pv 3) (po_some (pv 4)) po_none)) (pa_cons (pe_op op_add_str (pv 3) (pv 6)) (pa_cons (pe_op op_add_str (pv 6) (pv 3)) pa_nil)))))))
    (pss_one (ps_ret (pe_tup (pa_cons (pv 2) (pa_cons (pe_rd O hr rfl pass0 (pa_cons (pv 0) (pa_cons (pe_op op_cat (pv 5) (pe_lst (pa_cons (pe_op op_add_str (pe_op op_add_str (pe_slice sl_str (pv 3) po_none (po_some (pv 4))) (pv 6)) (pe_slice sl_str (pv 3) (po_some (pe_op op_add (pv 4) pe_int)) po_none)) pa_nil))) pa_nil))) pa_nil))))))))), ?_⟩
  have hz2 : sizeLine = 16777216 := sizeLine_eq
  have fin : ∀ {Hn : Hp} {wd' sg' : Str} (t' : Addr), But b H Hn → BagAt l Hn b → wd'.length ≤ 10 → Low wd' → sg'.length ≤ n + 1 → Low sg' → Hn t' = none → Q (.ref t') (upd Hn t' (.tup [.str wd', .str sg'])) := fun {Hn wd' sg'} t' bn Bn h1 g1 h2 g2 h3 =>
    q t' wd' sg' _ h1 g1 h2 g2 (but_free2 bn Bn h3) (SqT.of (by rw [L2.del_ne (Bn.ne h3)]; exact upd_same)) (Bn.new h3 _) (bn.trans (But.of (same_new h3 _)))
  refine ⟨_, rfl, t, _, rfl, ht, rfl, .str wd, _, rfl, .str sg, _, rfl, rfl, ?_⟩
  refine ⟨_, rfl, _, rfl, sg, rfl, by omega, b, l, sg.length, rfl, B, by omega, by omega, fun r H1 r0 r1 B1 b1 => ?_⟩
  obtain ⟨ch, hch, hat⟩ := atI_some (xs := sg.cps.toList) r0 (by have : sg.cps.toList.length = sg.length := by simp [Str.length]
                                                                 omega)
  obtain ⟨k, rfl⟩ : ∃ k : Nat, r = (k : Int) := ⟨r.toNat, by omega⟩
  have hk : k < sg.length := by omega
  refine ⟨_, rfl, b, l, 2, rfl, B1, by decide, by decide, fun x H2 x0 x1 B2 b2' => ⟨rfl, _, rfl, ?_⟩⟩
  have b2 := b1.trans b2'
  have c5 : (cutS wd none (some 5)).length ≤ 5 := (cutS_to_len (z := wd) (k := 5)).1
  refine ite2 (fun c => ?_) (fun c => ?_)
  · refine ⟨_, rfl, 5, rfl, wd, rfl, by omega, _, _, rfl, rfl, (by show _ + 1 ≤ sizeLine; omega), _, rfl, 5, rfl, wd, rfl, by omega, _, _, rfl, rfl, (by show _ + 1 ≤ sizeLine; omega), _, rfl, 5, rfl, wd, rfl, by omega, _, _, rfl, rfl, (by show _ + 1 ≤ sizeLine; omega), _, rfl, 5, rfl, wd, rfl, by omega, _, _, rfl, rfl, (by show 1 + _ ≤ sizeLine; omega), _, rfl, 5, rfl, wd, rfl, by omega, _, _, rfl, rfl, (by show _ + 1 ≤ sizeLine; omega), (by show 8 ≤ sizeLine; decide), fun p1 hp1 => ?_⟩
    refine ⟨_, rfl, _, rfl, b, l, .ref p1, 8, (fun y => ∃ z : Str, y = .str z ∧ z.length ≤ 10 ∧ Low z), rfl, B2.new hp1 _, by decide, by decide, .inl ⟨p1, _, rfl, B2.ne hp1, .inl (SqL.of upd_same), rfl, fun y hy => ?_⟩, fun y H4 hy B4 b4 => ?_⟩
    · have a1 : ∀ y : Str, y.length = 1 → (cutS wd none (some 5) ++ y).length ≤ 10 ∧ (y ++ cutS wd none (some 5)).length ≤ 10 := fun y hy => by
        rw [strLen_append, strLen_append]
        omega
      simp only [List.mem_cons, List.not_mem_nil, or_false] at hy
      rcases hy with rfl | rfl | rfl | rfl | rfl | rfl | rfl | rfl
      · exact ⟨_, rfl, by decide, low_lit (by decide +kernel)⟩
      · exact ⟨_, rfl, (a1 _ (by decide)).1, (lw.cut _ _).app (low_lit (by decide +kernel))⟩
      · exact ⟨_, rfl, by decide, low_lit (by decide +kernel)⟩
      · exact ⟨_, rfl, (a1 _ (by decide)).1, (lw.cut _ _).app (low_lit (by decide +kernel))⟩
      · exact ⟨_, rfl, (a1 _ (by decide)).1, (lw.cut _ _).app (low_lit (by decide +kernel))⟩
      · exact ⟨_, rfl, (a1 _ (by decide)).2, Low.app (low_lit (by decide +kernel)) (lw.cut _ _)⟩
      · exact ⟨_, rfl, by decide, low_lit (by decide +kernel)⟩
      · exact ⟨_, rfl, (a1 _ (by decide)).1, (lw.cut _ _).app (low_lit (by decide +kernel))⟩
    · obtain ⟨z, rfl, hz, lz⟩ := hy
      exact ⟨_, rfl, (by show 2 ≤ sizeLine; decide), fun t' ht' => fin t' ((b2.trans (But.of (same_new hp1 _))).trans b4) B4 hz lz (by omega) ls ht'⟩
  · refine ⟨_, rfl, _, rfl, _, rfl, sg, _, _, rfl, rfl, by omega, hat, (by show 12 ≤ sizeLine; decide), fun p1 hp1 => ?_⟩
    refine ⟨b, l, .ref p1, 12, (fun y => ∃ z : Str, y = .str z ∧ z.length = 1 ∧ Low z), rfl, B2.new hp1 _, by decide, by decide, .inl ⟨p1, _, rfl, B2.ne hp1, .inl (SqL.of upd_same), rfl, fun y hy => ?_⟩, fun y H4 hy B4 b4 => ?_⟩
    · simp only [List.mem_cons, List.not_mem_nil, or_false] at hy
      rcases hy with rfl | rfl | rfl | rfl | rfl | rfl | rfl | rfl | rfl | rfl | rfl | rfl <;> exact ⟨_, rfl, by first | decide | rfl, by first | exact Low.one (ls ch hch) | exact low_lit (by decide +kernel)⟩
    obtain ⟨od, rfl, hod, lod⟩ := hy
    have bt := (b2.trans (But.of (same_new hp1 (.lst [.str "A", .str "?", .str "#", .str "=", .str "*", .str "-", .str " ", .str "\n", .str ".", .str "_", .str ":", .str ⟨#[ch]⟩])))).trans b4
    have l1 := cutS_to_len (z := sg) (k := k)
    have l2 := cutS_from_len (z := sg) (k := k) (by omega)
    have l3 := cutS_from_len (z := sg) (k := k + 1) (by omega)
    have e0 : ((k : Int) + 1) = ((k + 1 : Nat) : Int) := by omega
    refine ⟨_, rfl, _, rfl, _, rfl, sg, rfl, by omega, _, rfl, _, _, rfl, rfl, by omega, _, rfl, _, rfl, _, rfl, sg, rfl, by omega, _, _, rfl, rfl, (by rw [strLen_append]; omega), _, rfl, _, rfl, _, _, rfl, rfl, by omega, _, rfl, _, rfl, _, _, rfl, rfl, by omega, (by show 5 ≤ sizeLine; decide), fun p2 hp2 => ?_⟩
    refine ⟨_, rfl, _, rfl, _, rfl, _, rfl, _, rfl, _, rfl, sg, rfl, by omega, _, rfl, _, _, rfl, rfl, by omega, _, rfl, _, rfl, _, _, rfl, rfl, _, rfl, sg, rfl, by omega, _, _, rfl, rfl, ?_, (by show 1 ≤ sizeLine; decide), fun p3 hp3 => ?_⟩
    · rw [e0, strLen_append]
      omega
    rw [e0]
    refine ⟨p2, p3, _, _, rfl, rfl, (same_new hp3 _) _ _ upd_same, upd_same, (by show 6 ≤ sizeLine; decide), fun p4 hp4 => ?_⟩
    refine ⟨b, l, .ref p4, 6, (fun y => ∃ z : Str, y = .str z ∧ z.length ≤ n + 1 ∧ Low z), rfl, ((B4.new hp2 _).new hp3 _).new hp4 _, by decide, by decide, .inl ⟨p4, _, rfl, ((B4.new hp2 _).new hp3 _).ne hp4, .inl (SqL.of upd_same), rfl, fun y hy => ?_⟩, fun y H8 hy B8 b8 => ?_⟩
    · simp only [List.cons_append, List.nil_append, List.mem_cons, List.not_mem_nil, or_false] at hy
      rcases hy with rfl | rfl | rfl | rfl | rfl | rfl
      · exact ⟨_, rfl, by show 0 ≤ _; omega, low_lit (by decide +kernel)⟩
      · exact ⟨_, rfl, by show 17 ≤ _; omega, low_lit (by decide +kernel)⟩
      · exact ⟨_, rfl, by rw [strLen_append, strLen_append]; omega, ((ls.cut _ _).app lod).app (ls.cut _ _)⟩
      · exact ⟨_, rfl, by rw [strLen_append]; omega, ls.app lod⟩
      · exact ⟨_, rfl, by rw [strLen_append]; omega, lod.app ls⟩
      · exact ⟨_, rfl, by rw [strLen_append, strLen_append]; omega, ((ls.cut _ _).app lod).app (ls.cut _ _)⟩
    · obtain ⟨z, rfl, hz, lz⟩ := hy
      exact ⟨(by show 2 ≤ sizeLine; decide), fun t' ht' => fin t' ((bt.trans (But.of ((same_new hp2 _).trans ((same_new hp3 _).trans (same_new hp4 _))))).trans b8) B8 hw lw hz lz ht'⟩
end
end K1

set_option Elab.async false
set_option linter.all false
set_option maxRecDepth 100000
set_option maxHeartbeats 4000000
namespace Fb
open PySem PySem.Spec PyProof.Rows L2
theorem bag_noTup {K : PySem.W.Frag} {l b : Addr} {H H' : Hp} (B : BagAt l H b) {t : Addr} {xs : List V} (h : SqT K H t xs) (f : ∀ c o, c ≠ b → H c = some o → H' c = some o) : SqT K H' t xs := by
  obtain ⟨_, _, _, _, _, h9, _⟩ := B.at_
  rcases h with (h | ⟨o, h⟩) | h
  · exact .inl (.inl (f _ _ (fun z => by rw [z, h9] at h; cases h) h))
  · exact .inl (.inr ⟨o, f _ _ (fun z => by rw [z, h9] at h; cases h) h⟩)
  · exact .inr h
theorem bag_pairs {K : PySem.W.Frag} {l b : Addr} {H H' : Hp} (B : BagAt l H b) (f : ∀ c o, c ≠ b → H c = some o → H' c = some o) : ∀ {ts : List Addr} {ps : List (Str × Str)}, PairsAt K H ts ps → PairsAt K H' ts ps
  | [], [], _ => trivial
  | _ :: _, _ :: _, q => ⟨bag_noTup B q.1 f, bag_pairs B f q.2⟩
theorem bag_pairsBut {K : PySem.W.Frag} {l b : Addr} {H H' : Hp} (B : BagAt l H b) (x : But b H H') {ts : List Addr} {ps : List (Str × Str)} (h : PairsAt K H ts ps) : PairsAt K H' ts ps := bag_pairs B (fun _ _ hc e => x.at hc e) h
theorem bag_pairsDel {K : PySem.W.Frag} {l b : Addr} {H : Hp} (B : BagAt l H b) {ts : List Addr} {ps : List (Str × Str)} (h : PairsAt K H ts ps) : PairsAt K (L2.del H b) ts ps := bag_pairs B (fun _ _ hc e => by rw [L2.del_ne hc]; exact e) h
/-- moderate parts -/
def Mild (n : Nat) (ps : List (Str × Str)) : Prop := ps.length ≤ 6 ∧ ∀ p ∈ ps, p.1.length ≤ 10 ∧ Low p.1 ∧ p.2.length ≤ n ∧ Low p.2
theorem Mild.mono {m n : Nat} {ps : List (Str × Str)} (h : Mild m ps) (k : m ≤ n) : Mild n ps := ⟨h.1, fun p hp => ⟨(h.2 p hp).1, (h.2 p hp).2.1, Nat.le_trans (h.2 p hp).2.2.1 k, (h.2 p hp).2.2.2⟩⟩
theorem Mild.set {n : Nat} {ps : List (Str × Str)} (h : Mild n ps) (k : Nat) {r : Str × Str} (hr : r.1.length ≤ 10 ∧ Low r.1 ∧ r.2.length ≤ n ∧ Low r.2) : Mild n (ps.set k r) := ⟨by rw [List.length_set]; exact h.1, fun p hp => by
  rcases List.mem_or_eq_of_mem_set hp with hp | rfl
  · exact h.2 p hp
  · exact hr⟩
theorem PairsAt.set {K : PySem.W.Frag} {H : Hp} {t : Addr} {r : Str × Str} (ht : SqT K H t [.str r.1, .str r.2]) : ∀ {ts : List Addr} {ps : List (Str × Str)} (k : Nat), PairsAt K H ts ps → PairsAt K H (ts.set k t) (ps.set k r)
  | [], [], _, h => by simpa using h
  | _ :: _, _ :: _, 0, h => ⟨ht, h.2⟩
  | _ :: _, _ :: _, k + 1, h => ⟨h.1, PairsAt.set ht k h.2⟩
theorem GoodParts.mild {n : Nat} : ∀ {ps : List (Str × Str)} {ns : List Nat}, GoodParts ps ns → (∀ m ∈ ns, m ≤ n) → ∀ p ∈ ps, p.1.length ≤ 10 ∧ Low p.1 ∧ p.2.length ≤ n ∧ Low p.2
  | [], _, _, _, p, hp => absurd hp List.not_mem_nil
  | q :: qs, m :: ms, h, hm, p, hp => by
    rcases List.mem_cons.mp hp with rfl | hp
    · have h2 : ∀ c ∈ signsS.cps.toList, c < 1000 := by decide +kernel
      exact ⟨Nat.le_trans (isName_len h.1).2.1 (by decide), low_name h.1, by rw [h.2.1.1]; exact hm m List.mem_cons_self, fun c hc => h2 c (h.2.1.2.2 c hc)⟩
    · exact GoodParts.mild h.2.2 (fun x hx => hm x (List.mem_cons_of_mem _ hx)) p hp
theorem GoodParts.len : ∀ {ps : List (Str × Str)} {ns : List Nat}, GoodParts ps ns → ps.length = ns.length
  | [], [], _ => rfl
  | _ :: _, _ :: _, h => congrArg Nat.succ (GoodParts.len h.2.2)
/-- sizes of parts, in a tuple -/
def TS (H : Hp) (y : V) : Prop := ∃ (t : Addr) (ns : List Nat), y = .ref t ∧ H t = some (.tup (ns.map fun n : Nat => V.int (n : Int))) ∧ ns.length ≤ 6 ∧ ∀ n ∈ ns, 1 ≤ n ∧ n ≤ 17
theorem TS.same {H H' : Hp} {y : V} (h : TS H y) (s : Same H H') : TS H' y := by
  obtain ⟨t, ns, e, h, r⟩ := h
  exact ⟨t, ns, e, s _ _ h, r⟩
theorem TS.but {b l : Addr} {H H' : Hp} {y : V} (h : TS H y) (B : BagAt l H b) (x : But b H H') : TS H' y := by
  obtain ⟨t, ns, e, h, r⟩ := h
  obtain ⟨_, _, _, _, _, h9, _⟩ := B.at_
  exact ⟨t, ns, e, x.at (fun z => by rw [z, h9] at h; cases h) h, r⟩
def TSt (H Hk : Hp) (ys : List V) : Prop := Same H Hk ∧ ∀ y ∈ ys, TS Hk y
theorem TSt.push {H Hk : Hp} {ys : List V} (g : TSt H Hk ys) {t : Addr} (h : Hk t = none) (ns : List Nat) (hl : ns.length ≤ 6) (hn : ∀ n ∈ ns, 1 ≤ n ∧ n ≤ 17) : TSt H (upd Hk t (.tup (ns.map fun n : Nat => V.int (n : Int)))) (ys ++ [.ref t]) := by
  refine ⟨g.1.trans (same_new h _), fun y hy => ?_⟩
  rcases List.mem_append.mp hy with hy | hy
  · exact (g.2 y hy).same (same_new h _)
  · have : y = .ref t := by simpa using hy
    exact ⟨t, ns, this, upd_same, hl, hn⟩
theorem ix_nat {n k : Nat} (h : k < n) : ixN n (k : Int) = some k := by
  unfold ixN
  rw [if_pos (by omega), if_pos (by omega)]
  rfl
end Fb
namespace K1
open PySem PySem.Spec PyProof.Rows L2 Fb RZ
abbrev sSomeParts : Stmt := top 41
section
variable {P : Program} {w : World} {K : PySem.W.Frag} {mg : Str → Option Value} {base : Heap} {C : Str → Addr} {CL : Addr}
abbrev NSomeParts : List Str := ["bag", "sizes", "parts", "k", "spot"]
theorem scSomeParts : FnScope NSomeParts ["bag"] (defScope sSomeParts) := ⟨rfl, rfl, rfl, by decide +kernel, rfl, by decide +kernel, by decide +kernel⟩
def spSomeParts (K : PySem.W.Frag) : Sp := fun vs H Q _ => ∃ (b l : Addr), vs = [.ref b] ∧ BagAt l H b ∧
  ∀ (m : Addr) (ps : List (Str × Str)) (H' : Hp), PartsAt K (L2.del H' b) m ps → Mild 19 ps → BagAt l H' b → But b H H' → Q (.ref m) H'
theorem ok_some_parts {f : Addr} {fd : FuncData} (F : Fun K "_law_some_parts" "_law_some_parts" sSomeParts f fd) (D : RD P w K mg base 1 "_law_draw" ["bag", "size"] spDraw) (O : RD P w K mg base 2 "_law_of" ["bag", "things"] (spOf K)) (RP : RD P w K mg base 5 "_law_parts" ["bag", "sizes"] (spParts K)) (RB : RD P w K mg base 3 "_law_bent_part" ["bag", "part"] (spBent K)) (mn : mg "len" = none) (mr : mg "range" = none) : FnOk P w K mg base CX0 6 f fd ["bag"] (spSomeParts K) := by
  refine F.ok scSomeParts (fun vs H Q E h => ?_) (fun cdv A outer s H vs Q E hr h => ?_)
  · obtain ⟨b, l, rfl, _⟩ := h
    rfl
  obtain ⟨b, l, rfl, B, q⟩ := h
  have hr1 := hr.mono (by decide : 1 ≤ 5)
  have hr2 := hr.mono (by decide : 2 ≤ 5)
  have hr3 := hr.mono (by decide : 3 ≤ 5)
  have hu : (A.deeper (envOfC "_law_some_parts" (defScope sSomeParts) s.heap.objs.size f cdv)).units + 64 < cLine := by have := hr.un; omega
  refine ⟨_, pss_cons (ps_set (i := 1) scSomeParts.nd rfl (Or.inl rfl) (pe_rd O hr2 rfl pass0 (pa_cons (pv 0) (pa_cons (pe_lst (pa_cons (pe_tup (pa_cons pe_int pa_nil)) (pa_cons (pe_tup (pa_cons pe_int (pa_cons pe_int pa_nil))) (pa_cons (pe_tup (pa_cons pe_int (pa_cons pe_int pa_nil))) (pa_cons (pe_tup (pa_cons pe_int (pa_cons pe_int pa_nil)))
      (pa_cons (pe_tup (pa_cons pe_int pa_nil)) (pa_cons (pe_tup (pa_cons pe_int (pa_cons pe_int (pa_cons pe_int (pa_cons pe_int pa_nil))))) (pa_cons (pe_tup (pa_cons pe_int pa_nil)) (pa_cons (pe_tup (pa_cons pe_int (pa_cons pe_int pa_nil))) (pa_cons (pe_tup (pa_cons pe_int (pa_cons pe_int pa_nil)))
      (pa_cons (pe_tup (pa_cons pe_int (pa_cons pe_int (pa_cons pe_int (pa_cons pe_int pa_nil))))) (pa_cons (pe_tup pa_nil) (pa_cons (pe_tup (pa_cons pe_int pa_nil)) pa_nil))))))))))))) pa_nil))))
    (pss_cons (ps_set (i := 1) scSomeParts.nd rfl (Or.inl rfl) (pe_rd O hr2 rfl pass0 (pa_cons (pv 0) (pa_cons (pe_lst (pa_cons (pv 1) (pa_cons (pv 1) (pa_cons (pv 1) (pa_cons (pv 1) (pa_cons (pe_tup (pa_cons pe_int (pa_cons pe_int (pa_cons pe_int (pa_cons pe_int (pa_cons pe_int pa_nil)))))) (pa_cons (pe_tup (pa_cons pe_int (pa_cons pe_int (pa_cons pe_int (pa_cons pe_int (pa_cons pe_int (pa_cons pe_int pa_nil))))))) pa_nil))))))) pa_nil))))
    (pss_cons (ps_set (i := 2) scSomeParts.nd rfl (Or.inl rfl) (pe_rd RP hr rfl pass0 (pa_cons (pv 0) (pa_cons (pv 1) pa_nil))))
    (pss_cons (ps_for PassesOwn.never rfl (pi_range1 rfl mr (pa_cons (pe_rd O hr2 rfl pass0 (pa_cons (pv 0) (pa_cons (pe_lst (pa_cons pe_int (pa_cons pe_int (pa_cons pe_int (pa_cons pe_int (pa_cons pe_int pa_nil)))))) pa_nil))) pa_nil)) (pg_name (i := 3) scSomeParts.nd rfl (Or.inl rfl))
      (pss_one (ps_if (pt_cmpR (op_neD hu) (pv 2) (pe_lst pa_nil) (nomark _))
        (pss_cons (ps_set (i := 4) scSomeParts.nd rfl (Or.inl rfl) (pe_rd D hr1 rfl pass0 (pa_cons (pv 0) (pa_cons (pe_callB call_len_seq rfl mn PySem.boot_len (pa_cons (pv 2) pa_nil)) pa_nil))))
        (pss_one (ps_if (PW.pt (pw_and (pt_cmpR op_gt (pe_callB call_len_str rfl mn PySem.boot_len (pa_cons (pe_ix ix_tup (pe_ix ix_list (pv 2) (pv 4) (fun _ _ => rfl)) pe_int (fun _ _ => rfl)) pa_nil)) pe_int (nomark _)) (pw_and1 (pt_cmpR op_gt (pe_rd D hr1 rfl pass0 (pa_cons (pv 0) (pa_cons pe_int pa_nil))) pe_int (nomark _)))))
          (pss_one (ps_asg (pe_rd RB hr3 rfl pass0 (pa_cons (pv 0) (pa_cons (pe_ix ix_list (pv 2) (pv 4) (fun _ _ => rfl)) pa_nil))) (pg_sub (pv 2) (pv 4) set_list)))
          (pss_one (ps_asg (pe_tup (pa_cons (pe_ix ix_tup (pe_rd O hr2 rfl pass0 (pa_cons (pv 0) (pa_cons (pv 2) pa_nil))) pe_int (fun _ _ => rfl)) (pa_cons (pe_ix ix_tup (pe_ix ix_list (pv 2) (pv 4) (fun _ _ => rfl)) pe_int (fun _ _ => rfl)) pa_nil))) (pg_sub (pv 2) (pv 4) set_list))))))
        pss_nil)))
    (pss_one (ps_ret (pv 2)))))), ?_⟩
  have hz2 : sizeLine = 16777216 := sizeLine_eq
  have g0 : TSt H H [] := ⟨Same.refl _, fun y hy => absurd hy List.not_mem_nil⟩
  refine ⟨_, rfl, (by show 1 ≤ sizeLine; decide), fun t1 h1 => ?_⟩
  have g1 : TSt H (upd H t1 (.tup [.int 2])) [.ref t1] := g0.push h1 [2] (by decide) (by decide)
  generalize upd H t1 (.tup [.int 2]) = H_1 at g1 ⊢
  refine ⟨(by show 2 ≤ sizeLine; decide), fun t2 h2 => ?_⟩
  have g2 : TSt H (upd H_1 t2 (.tup [.int 2, .int 2])) [.ref t1, .ref t2] := g1.push h2 [2, 2] (by decide) (by decide)
  generalize upd H_1 t2 (.tup [.int 2, .int 2]) = H_2 at g2 ⊢
  refine ⟨(by show 2 ≤ sizeLine; decide), fun t3 h3 => ?_⟩
  have g3 : TSt H (upd H_2 t3 (.tup [.int 4, .int 4])) [.ref t1, .ref t2, .ref t3] := g2.push h3 [4, 4] (by decide) (by decide)
  generalize upd H_2 t3 (.tup [.int 4, .int 4]) = H_3 at g3 ⊢
  refine ⟨(by show 2 ≤ sizeLine; decide), fun t4 h4 => ?_⟩
  have g4 : TSt H (upd H_3 t4 (.tup [.int 2, .int 8])) [.ref t1, .ref t2, .ref t3, .ref t4] := g3.push h4 [2, 8] (by decide) (by decide)
  generalize upd H_3 t4 (.tup [.int 2, .int 8]) = H_4 at g4 ⊢
  refine ⟨(by show 1 ≤ sizeLine; decide), fun t5 h5 => ?_⟩
  have g5 : TSt H (upd H_4 t5 (.tup [.int 16])) [.ref t1, .ref t2, .ref t3, .ref t4, .ref t5] := g4.push h5 [16] (by decide) (by decide)
  generalize upd H_4 t5 (.tup [.int 16]) = H_5 at g5 ⊢
  refine ⟨(by show 4 ≤ sizeLine; decide), fun t6 h6 => ?_⟩
  have g6 : TSt H (upd H_5 t6 (.tup [.int 1, .int 1, .int 1, .int 1])) [.ref t1, .ref t2, .ref t3, .ref t4, .ref t5, .ref t6] := g5.push h6 [1, 1, 1, 1] (by decide) (by decide)
  generalize upd H_5 t6 (.tup [.int 1, .int 1, .int 1, .int 1]) = H_6 at g6 ⊢
  refine ⟨(by show 1 ≤ sizeLine; decide), fun t7 h7 => ?_⟩
  have g7 : TSt H (upd H_6 t7 (.tup [.int 17])) [.ref t1, .ref t2, .ref t3, .ref t4, .ref t5, .ref t6, .ref t7] := g6.push h7 [17] (by decide) (by decide)
  generalize upd H_6 t7 (.tup [.int 17]) = H_7 at g7 ⊢
  refine ⟨(by show 2 ≤ sizeLine; decide), fun t8 h8 => ?_⟩
  have g8 : TSt H (upd H_7 t8 (.tup [.int 2, .int 9])) [.ref t1, .ref t2, .ref t3, .ref t4, .ref t5, .ref t6, .ref t7, .ref t8] := g7.push h8 [2, 9] (by decide) (by decide)
  generalize upd H_7 t8 (.tup [.int 2, .int 9]) = H_8 at g8 ⊢
  refine ⟨(by show 2 ≤ sizeLine; decide), fun t9 h9 => ?_⟩
  have g9 : TSt H (upd H_8 t9 (.tup [.int 3, .int 6])) [.ref t1, .ref t2, .ref t3, .ref t4, .ref t5, .ref t6, .ref t7, .ref t8, .ref t9] := g8.push h9 [3, 6] (by decide) (by decide)
  generalize upd H_8 t9 (.tup [.int 3, .int 6]) = H_9 at g9 ⊢
  refine ⟨(by show 4 ≤ sizeLine; decide), fun t10 h10 => ?_⟩
  have g10 : TSt H (upd H_9 t10 (.tup [.int 2, .int 2, .int 2, .int 3])) [.ref t1, .ref t2, .ref t3, .ref t4, .ref t5, .ref t6, .ref t7, .ref t8, .ref t9, .ref t10] := g9.push h10 [2, 2, 2, 3] (by decide) (by decide)
  generalize upd H_9 t10 (.tup [.int 2, .int 2, .int 2, .int 3]) = H_10 at g10 ⊢
  refine ⟨(by show 0 ≤ sizeLine; decide), fun t11 h11 => ?_⟩
  have g11 : TSt H (upd H_10 t11 (.tup [])) [.ref t1, .ref t2, .ref t3, .ref t4, .ref t5, .ref t6, .ref t7, .ref t8, .ref t9, .ref t10, .ref t11] := g10.push h11 [] (by decide) (by decide)
  generalize upd H_10 t11 (.tup []) = H_11 at g11 ⊢
  refine ⟨(by show 1 ≤ sizeLine; decide), fun t12 h12 => ?_⟩
  have g12 : TSt H (upd H_11 t12 (.tup [.int 5])) [.ref t1, .ref t2, .ref t3, .ref t4, .ref t5, .ref t6, .ref t7, .ref t8, .ref t9, .ref t10, .ref t11, .ref t12] := g11.push h12 [5] (by decide) (by decide)
  generalize upd H_11 t12 (.tup [.int 5]) = H_12 at g12 ⊢
  refine ⟨(by show 12 ≤ sizeLine; decide), fun p1 hp1 => ?_⟩
  have s1 := g12.1.trans (same_new hp1 (.lst [.ref t1, .ref t2, .ref t3, .ref t4, .ref t5, .ref t6, .ref t7, .ref t8, .ref t9, .ref t10, .ref t11, .ref t12]))
  refine ⟨b, l, .ref p1, 12, TS (upd H_12 p1 (.lst [.ref t1, .ref t2, .ref t3, .ref t4, .ref t5, .ref t6, .ref t7, .ref t8, .ref t9, .ref t10, .ref t11, .ref t12])), rfl, B.same s1, by decide, by decide, .inl ⟨p1, _, rfl, (B.same g12.1).ne hp1, .inl (SqL.of upd_same), rfl, fun y hy => (g12.2 y hy).same (same_new hp1 _)⟩, fun y1 H1 hy1 B1 b1 => ?_⟩
  have hy1 := hy1.but (B.same s1) b1
  have bt1 := (But.of s1).trans b1
  clear g0 g1 g2 g3 g4 g5 g6 g7 g8 g9 g10 g11 g12 s1 b1
  refine ⟨_, rfl, _, rfl, _, rfl, _, rfl, _, rfl, (by show 5 ≤ sizeLine; decide), fun u1 k1 => ?_⟩
  have f1 : TSt H1 (upd H1 u1 (.tup [.int 1, .int 2, .int 1, .int 1, .int 2])) [y1, y1, y1, y1, .ref u1] := TSt.push (ys := [y1, y1, y1, y1]) ⟨Same.refl _, fun y hy => by
    have : y = y1 := by simpa using hy
    rw [this]
    exact hy1⟩ k1 [1, 2, 1, 1, 2] (by decide) (by decide)
  generalize upd H1 u1 (.tup [.int 1, .int 2, .int 1, .int 1, .int 2]) = G1 at f1 ⊢
  refine ⟨(by show 6 ≤ sizeLine; decide), fun u2 k2 => ?_⟩
  have f2 : TSt H1 (upd G1 u2 (.tup [.int 1, .int 1, .int 1, .int 1, .int 1, .int 1])) [y1, y1, y1, y1, .ref u1, .ref u2] := f1.push k2 [1, 1, 1, 1, 1, 1] (by decide) (by decide)
  generalize upd G1 u2 (.tup [.int 1, .int 1, .int 1, .int 1, .int 1, .int 1]) = G2 at f2 ⊢
  refine ⟨(by show 6 ≤ sizeLine; decide), fun p2 hp2 => ?_⟩
  have s2 := f2.1.trans (same_new hp2 (.lst [y1, y1, y1, y1, .ref u1, .ref u2]))
  refine ⟨b, l, .ref p2, 6, TS (upd G2 p2 (.lst [y1, y1, y1, y1, .ref u1, .ref u2])), rfl, B1.same s2, by decide, by decide, .inl ⟨p2, _, rfl, (B1.same f2.1).ne hp2, .inl (SqL.of upd_same), rfl, fun y hy => (f2.2 y hy).same (same_new hp2 _)⟩, fun y2 H2 hy2 B2 b2 => ?_⟩
  have hy2 := hy2.but (B1.same s2) b2
  have bt2 := bt1.trans ((But.of s2).trans b2)
  clear f1 f2 s2 b2 bt1
  obtain ⟨a, ns, rfl, ha, hl6, hn17⟩ := hy2
  have hab : a ≠ b := fun z => by
    obtain ⟨_, _, _, _, _, h9, _⟩ := B2.at_
    rw [z, h9] at ha
    cases ha
  refine ⟨_, rfl, _, rfl, b, l, a, ns, rfl, B2, SqT.of (by rw [L2.del_ne hab]; exact ha), by omega, fun n hn => ⟨(hn17 n hn).1, by have := (hn17 n hn).2; omega⟩, fun pl ts0 ps0 H3 hpl0 hpl3 hps0 hgood hnd B3 b3 => ?_⟩
  have bt3 := bt2.trans b3
  have hplH : H pl = none := Fb.but_free bt2 B2 hpl0
  have hplb : pl ≠ b := B2.ne hpl0
  have hpll : pl ≠ l := B2.cell hpl0
  have hps3 : PairsAt K H3 ts0 ps0 := hps0.same fresh_sub
  have hm0 : Mild 17 ps0 := ⟨by rw [hgood.len]; exact hl6, GoodParts.mild hgood fun m hm => (hn17 m hm).2⟩
  refine ⟨_, rfl, (by show 5 ≤ sizeLine; decide), fun p3 hp3 => ?_⟩
  refine ⟨b, l, .ref p3, 5, (fun y => ∃ m : Nat, y = .int m ∧ m ≤ 2), rfl, B3.new hp3 _, by decide, by decide, .inl ⟨p3, _, rfl, B3.ne hp3, .inl (SqL.of upd_same), rfl, fun y hy => ?_⟩, fun y3 H4 hy3 B4 b4 => ?_⟩
  · simp only [List.mem_cons, List.not_mem_nil, or_false] at hy
    rcases hy with rfl | rfl | rfl | rfl | rfl
    · exact ⟨0, rfl, by decide⟩
    · exact ⟨0, rfl, by decide⟩
    · exact ⟨1, rfl, by decide⟩
    · exact ⟨1, rfl, by decide⟩
    · exact ⟨2, rfl, by decide⟩
  obtain ⟨mm, rfl, hmm⟩ := hy3
  have bx4 := (But.of (b := b) (same_new hp3 (.lst [.int 0, .int 0, .int 1, .int 1, .int 2]))).trans b4
  have bt4 := bt3.trans bx4
  refine ⟨(mm : Int), rfl, by omega, by omega, for_range (lo := 0) (n := mm) (fun i σ Hi => BagAt l Hi b ∧ But b H Hi ∧ (∃ (ts : List Addr) (ps : List (Str × Str)), Hi pl = some (.lst (ts.map V.ref)) ∧ PairsAt K Hi ts ps ∧ Mild (17 + i) ps) ∧ ∃ v3 v4 : Option V, σ = [some (.ref b), some (.ref a), some (.ref pl), v3, v4]) ⟨B4, bt4, ⟨ts0, ps0, bx4.at hplb hpl3, bag_pairsBut B3 bx4 hps3, hm0⟩, _, _, rfl⟩ ?_ ?_⟩
  · rintro i _ Hi hi ⟨Bi, bi, ⟨ts, ps, hpl, hps, hm⟩, v3, v4, rfl⟩
    have hlen := hps.len
    have h6 := hm.1
    refine ⟨_, rfl, (by show 0 ≤ sizeLine; decide), fun e he => ⟨_, _, .lst ((same_new he _).seq (SqL.of hpl)) (dpPairs (hps.same (same_new he _))), .lst (SqL.of upd_same) .nil, shapedP fun p hp => ⟨(hm.2 p hp).2.1, (hm.2 p hp).2.2.2⟩, rfl, _, rfl, ?_⟩⟩
    have hple := (same_new he (.lst [])) _ _ hpl
    have hpse := hps.same (same_new he (.lst []))
    have be := bi.trans (But.of (same_new he (.lst [])))
    have Be := Bi.new he (.lst [])
    generalize upd Hi e (.lst []) = He at hple hpse be Be ⊢
    by_cases hnil : ps = []
    · refine iteN ?_ ⟨Be, be, ⟨ts, ps, hple, hpse, hm.mono (by omega)⟩, _, _, rfl⟩
      rw [hnil]
      rfl
    have hpos : 0 < ps.length := List.length_pos_iff.mpr hnil
    refine iteY ?_ ?_
    · have e1 : PyData.eqv (.list (ps.map dPair)) (.list []) = PyData.eqvAll (ps.map dPair) (([] : List (Str × Str)).map dPair) := rfl
      rw [e1, eqvPairs, decide_eq_false hnil]
      rfl
    refine ⟨_, rfl, _, rfl, pl, _, rfl, .inl (SqL.of hple), b, l, _, rfl, Be, by rw [List.length_map]; omega, by rw [List.length_map]; omega, fun r H5 r0 r1 B5 b5 => ?_⟩
    rw [List.length_map] at r1
    obtain ⟨k, rfl⟩ : ∃ k : Nat, r = (k : Int) := ⟨r.toNat, by omega⟩
    have hk : k < ts.length := by omega
    have hpl5 := b5.at hplb hple
    have hps5 := bag_pairsBut Be b5 hpse
    have bt5 := be.trans b5
    clear b5 hple hpse be Be hps hpl
    obtain ⟨r, hr2, hrt⟩ := hps5.get (List.getElem?_eq_getElem hk)
    have hat : atI (ts.map V.ref) (k : Int) = some (.ref ts[k]) := ref_at (List.getElem?_eq_getElem hk)
    have hix : ixN (ts.map V.ref).length (k : Int) = some k := ix_nat (by rw [List.length_map]; exact hk)
    obtain ⟨m1, m2, m3, m4⟩ := hm.2 r (List.mem_of_getElem? hr2)
    have setP : ∀ {Hn : Hp} {t' : Addr} {r' : Str × Str}, BagAt l Hn b → But b H Hn → Hn pl = some (.lst (ts.map V.ref)) → PairsAt K Hn ts ps → SqT K Hn t' [.str r'.1, .str r'.2] → r'.1.length ≤ 10 ∧ Low r'.1 ∧ r'.2.length ≤ 17 + (i + 1) ∧ Low r'.2 →
        BagAt l (upd Hn pl (.lst ((ts.map V.ref).set k (.ref t')))) b ∧ But b H (upd Hn pl (.lst ((ts.map V.ref).set k (.ref t')))) ∧ ∃ (ts' : List Addr) (ps' : List (Str × Str)), upd Hn pl (.lst ((ts.map V.ref).set k (.ref t'))) pl = some (.lst (ts'.map V.ref)) ∧ PairsAt K (upd Hn pl (.lst ((ts.map V.ref).set k (.ref t')))) ts' ps' ∧ Mild (17 + (i + 1)) ps' := by
      intro Hn t' r' Bn bn hpn hpsn ht' hr'
      refine ⟨Bn.skip hplb hpll _, but_new bn hplH, ts.set k t', ps.set k r', ?_, Fb.pairs_put hpn (hpsn.set ht' k), (hm.mono (by omega)).set k hr'⟩
      rw [List.map_set]
      exact upd_same
    refine ⟨_, rfl, _, rfl, pl, _, _, .ref ts[k], rfl, rfl, SqL.of hpl5, hat, ts[k], _, 1, .str r.2, rfl, rfl, hrt, rfl, r.2, rfl, by omega, _, _, rfl, rfl, _, rfl, ?_⟩
    refine ite2 (fun c1 => ?_) (fun c1 => ?_)
    · have h1 : 1 ≤ r.2.length := by
        have : (0 : Int) < (r.2.length : Int) := of_decide_eq_true c1
        omega
      refine ⟨_, rfl, b, l, 4, rfl, B5, by decide, by decide, fun x H6 x0 x1 B6 b6 => ⟨_, _, rfl, rfl, _, rfl, ?_⟩⟩
      have hpl6 := b6.at hplb hpl5
      have hps6 := bag_pairsBut B5 b6 hps5
      have bt6 := bt5.trans b6
      obtain ⟨r6, hr6, hrt6⟩ := hps6.get (List.getElem?_eq_getElem hk)
      obtain rfl : r = r6 := by
        rw [hr2] at hr6
        exact Option.some.inj hr6
      refine ite2 (fun c2 => ?_) (fun c2 => ?_)
      · refine ⟨_, rfl, _, rfl, _, rfl, pl, _, _, .ref ts[k], rfl, rfl, SqL.of hpl6, hat, b, l, ts[k], r.1, r.2, 17 + i, rfl, B6, hrt6, m1, h1, m3, by omega, by omega, m2, m4, fun t' wd' sg' H7 y1 y2 y3 y4 hf ht7 B7 b7 => ?_⟩
        have pl7 := b7.at hplb hpl6
        obtain ⟨x1, x2, x3⟩ := setP (r' := (wd', sg')) B7 (bt6.trans b7) pl7 (bag_pairsBut B6 b7 hps6) (Same.seqT Same.undel ht7) ⟨y1, y2, by show sg'.length ≤ _; omega, y4⟩
        exact ⟨_, rfl, _, rfl, pl, _, _, k, rfl, rfl, pl7, hix, x1, x2, x3, _, _, rfl⟩
      · refine ⟨_, rfl, _, rfl, b, l, .ref pl, ps.length, (fun y => ∃ (t : Addr) (p : Str × Str), y = .ref t ∧ p ∈ ps ∧ SqT K H6 t [.str p.1, .str p.2]), rfl, B6, hpos, by omega, .inl ⟨pl, _, rfl, hplb, .inl (SqL.of hpl6), by rw [List.length_map, hlen], fun y hy => ?_⟩, fun y H7 hy B7 b7 => ?_⟩
        · obtain ⟨t, ht, rfl⟩ := List.mem_map.mp hy
          obtain ⟨j, hj⟩ := List.mem_iff_getElem?.mp ht
          obtain ⟨p, hp, hpt⟩ := hps6.get hj
          exact ⟨t, p, rfl, List.mem_of_getElem? hp, hpt⟩
        obtain ⟨t, p, rfl, hpm, hpt⟩ := hy
        have ps7 := bag_pairsBut B6 b7 hps6
        have pl7 := b7.at hplb hpl6
        have pt7 : SqT K H7 t [.str p.1, .str p.2] := bag_noTup B6 hpt fun _ _ hc e => b7.at hc e
        obtain ⟨r7, hr7, hrt7⟩ := ps7.get (List.getElem?_eq_getElem hk)
        obtain rfl : r = r7 := by
          rw [hr2] at hr7
          exact Option.some.inj hr7
        obtain ⟨q1, q2, _, _⟩ := hm.2 p hpm
        refine ⟨t, _, 0, .str p.1, rfl, rfl, pt7, rfl, _, rfl, _, rfl, pl, _, _, .ref ts[k], rfl, rfl, SqL.of pl7, hat, ts[k], _, 1, .str r.2, rfl, rfl, hrt7, rfl, (by show 2 ≤ sizeLine; decide), fun t' ht' => ?_⟩
        obtain ⟨x1, x2, x3⟩ := setP (r' := (p.1, r.2)) (B7.new ht' _) ((bt6.trans b7).trans (But.of (same_new ht' _))) ((same_new ht' _) _ _ pl7) (ps7.same (same_new ht' _)) (SqT.of upd_same) ⟨q1, q2, by show r.2.length ≤ _; omega, m4⟩
        exact ⟨_, rfl, _, rfl, pl, _, _, k, rfl, rfl, (same_new ht' _) _ _ pl7, hix, x1, x2, x3, _, _, rfl⟩
    · refine ⟨_, rfl, _, rfl, b, l, .ref pl, ps.length, (fun y => ∃ (t : Addr) (p : Str × Str), y = .ref t ∧ p ∈ ps ∧ SqT K H5 t [.str p.1, .str p.2]), rfl, B5, hpos, by omega, .inl ⟨pl, _, rfl, hplb, .inl (SqL.of hpl5), by rw [List.length_map, hlen], fun y hy => ?_⟩, fun y H7 hy B7 b7 => ?_⟩
      · obtain ⟨t, ht, rfl⟩ := List.mem_map.mp hy
        obtain ⟨j, hj⟩ := List.mem_iff_getElem?.mp ht
        obtain ⟨p, hp, hpt⟩ := hps5.get hj
        exact ⟨t, p, rfl, List.mem_of_getElem? hp, hpt⟩
      obtain ⟨t, p, rfl, hpm, hpt⟩ := hy
      have ps7 := bag_pairsBut B5 b7 hps5
      have pl7 := b7.at hplb hpl5
      have pt7 : SqT K H7 t [.str p.1, .str p.2] := bag_noTup B5 hpt fun _ _ hc e => b7.at hc e
      obtain ⟨r7, hr7, hrt7⟩ := ps7.get (List.getElem?_eq_getElem hk)
      obtain rfl : r = r7 := by
        rw [hr2] at hr7
        exact Option.some.inj hr7
      obtain ⟨q1, q2, _, _⟩ := hm.2 p hpm
      refine ⟨t, _, 0, .str p.1, rfl, rfl, pt7, rfl, _, rfl, _, rfl, pl, _, _, .ref ts[k], rfl, rfl, SqL.of pl7, hat, ts[k], _, 1, .str r.2, rfl, rfl, hrt7, rfl, (by show 2 ≤ sizeLine; decide), fun t' ht' => ?_⟩
      obtain ⟨x1, x2, x3⟩ := setP (r' := (p.1, r.2)) (B7.new ht' _) ((bt5.trans b7).trans (But.of (same_new ht' _))) ((same_new ht' _) _ _ pl7) (ps7.same (same_new ht' _)) (SqT.of upd_same) ⟨q1, q2, by show r.2.length ≤ _; omega, m4⟩
      exact ⟨_, rfl, _, rfl, pl, _, _, k, rfl, rfl, (same_new ht' _) _ _ pl7, hix, x1, x2, x3, _, _, rfl⟩
  · rintro σ Hi ⟨Bi, bi, ⟨ts, ps, hpl, hps, hm⟩, v3, v4, rfl⟩
    exact ⟨_, rfl, q pl ps Hi ⟨ts, SqL.of (by rw [L2.del_ne hplb]; exact hpl), bag_pairsDel Bi hps⟩ (hm.mono (by omega)) Bi bi⟩
end
end K1

set_option Elab.async false
set_option linter.all false
set_option maxRecDepth 100000
set_option maxHeartbeats 4000000
/-! a text of letters read back -/
namespace Fb
open PySem PySem.Spec PyProof.Rows L2
theorem fold_low : ∀ (zs mine : List Str), (∀ z ∈ zs, Low z) → (∀ w ∈ mine, Low w) → ∀ w ∈ zs.foldl grow mine, Low w
  | [], mine, _, h, w, hw => h w hw
  | z :: r, mine, hz, h, w, hw => fold_low r (grow mine z) (fun y hy => hz y (List.mem_cons_of_mem _ hy)) (fun v hv => by
      obtain ⟨u, hu, c, hc, rfl⟩ := mem_grow.mp hv
      exact (h u hu).app (Low.one (hz z List.mem_cons_self c hc))) w hw
theorem GoodPs.lowLetters {ps : List (Str × Str)} (g : GoodPs ps) {z : Str} (hz : z ∈ lettersOf ps) : Low z := fold_low _ [""] (fun y hy => by
  obtain ⟨p, hp, rfl⟩ := List.mem_map.mp hy
  exact (g.low p hp).2) (fun w hw => by
  have : w = "" := by simpa using hw
  rw [this]
  exact low_lit (by decide +kernel)) z hz
theorem GoodPs.lenLetters {ps : List (Str × Str)} (g : GoodPs ps) {z : Str} (hz : z ∈ lettersOf ps) : z.length ≤ 4 := by
  have h := listed_word hz
  rw [List.length_map] at h
  have := g.few
  omega
theorem nameAt_of {ps : List (Str × Str)} (hn : (ps.map (·.1)).Nodup) {i : Nat} {r : Str × Str} (h : ps[i]? = some r) : nameAt ps r.1 = i := by
  have hm : r.1 ∈ ps.map (·.1) := List.mem_map_of_mem (f := fun x : Str × Str => x.1) (List.mem_of_getElem? h)
  obtain ⟨e, hl, _⟩ := nameAt_get hm
  obtain ⟨hi, he⟩ := List.getElem?_eq_some_iff.mp h
  have hl1 : nameAt ps r.1 < (ps.map (·.1)).length := by rw [List.length_map]; exact hl
  have hl2 : i < (ps.map (·.1)).length := by rw [List.length_map]; exact hi
  rw [List.getElem?_eq_getElem hl1] at e
  have e2 : (ps.map (·.1))[i] = r.1 := by rw [List.getElem_map, he]
  have e1 := Option.some.inj e
  rcases Nat.lt_trichotomy (nameAt ps r.1) i with hlt | heq | hgt
  · exact absurd (e1.trans e2.symm) (List.pairwise_iff_getElem.mp hn _ _ hl1 hl2 hlt)
  · exact heq
  · exact absurd (e2.trans e1.symm) (List.pairwise_iff_getElem.mp hn _ _ hl2 hl1 hgt)
theorem ptext_tl (p : Str × Str) : TL.tl (ptext p) = TL.tl p.1 ++ 58 :: TL.tl p.2 := by
  unfold ptext
  rw [TL.tl_append, TL.tl_append]
  show TL.tl p.1 ++ [58] ++ TL.tl p.2 = _
  rw [List.append_assoc]
  rfl
theorem cutC_pass {c : Nat} : ∀ (u acc r : List Nat), c ∉ u → cutC c acc (u ++ r) = cutC c (acc ++ u) r
  | [], acc, r, _ => by rw [List.append_nil]; rfl
  | x :: u, acc, r, h => by
    have hx : x ≠ c := fun e => h (by rw [e]; exact List.mem_cons_self)
    have ih := cutC_pass u (acc ++ [x]) r fun hm => h (List.mem_cons_of_mem _ hm)
    show cutC c acc (x :: (u ++ r)) = _
    conv => lhs; unfold cutC
    rw [if_neg hx, ih, List.append_assoc]
    rfl
theorem cutC_two_of {c : Nat} {a b : List Nat} (ha : c ∉ a) (hb : c ∉ b) : cutC c [] (a ++ c :: b) = [a, b] := by
  rw [cutC_pass a [] _ ha]
  conv => lhs; unfold cutC
  rw [if_pos rfl, List.nil_append]
  have h2 := cutC_pass b [] [] hb
  rw [List.append_nil, List.nil_append] at h2
  rw [h2]
  rfl
theorem pair_text {p : Str × Str} (h1 : 58 ∉ TL.tl p.1) (h2 : 58 ∉ TL.tl p.2) : isPair (ptext p) = true ∧ pairOf (ptext p) = p := by
  have e : cutC 58 [] (TL.tl (ptext p)) = [TL.tl p.1, TL.tl p.2] := by rw [ptext_tl, cutC_two_of h1 h2]
  unfold isPair pairOf
  rw [e]
  refine ⟨rfl, ?_⟩
  show (mkS (TL.tl p.1), mkS (TL.tl p.2)) = p
  rw [mkS_tl, mkS_tl]
theorem name_free {z : Str} (h : isName z = true) : 58 ∉ TL.tl z ∧ 32 ∉ TL.tl z := by
  have h1 := (isName_len h).2.2
  have h2 : 58 ∉ lowers.cps.toList ∧ 32 ∉ lowers.cps.toList := by decide +kernel
  exact ⟨fun hc => h2.1 (h1 _ hc), fun hc => h2.2 (h1 _ hc)⟩
theorem signs_free {z : Str} (h : areSigns z = true) : 58 ∉ TL.tl z ∧ 32 ∉ TL.tl z := by
  have h1 := (areSigns_len h).2.2.2
  have h2 : 58 ∉ signsS.cps.toList ∧ 32 ∉ signsS.cps.toList := by decide +kernel
  exact ⟨fun hc => h2.1 (h1 _ hc), fun hc => h2.2 (h1 _ hc)⟩
theorem words_text {ps : List (Str × Str)} (g : GoodPs ps) : wordsZ (partsText ps) = ps.map ptext := by
  have e : TL.tl (partsText ps) = TL.joinL [32] ((ps.map ptext).map TL.tl) := by
    unfold partsText
    rw [TL.join_eq, TL.tl_join]
    rfl
  unfold wordsZ
  rw [e, ← spl_cut, TL.spl_join, List.map_map]
  · have : (mkS ∘ TL.tl) = id := funext mkS_tl
    rw [this, List.map_id]
  · intro h
    rw [List.map_map] at h
    exact g.ne (List.map_eq_nil_iff.mp h)
  · intro l hl
    rw [List.map_map] at hl
    obtain ⟨p, hp, rfl⟩ := List.mem_map.mp hl
    show 32 ∉ TL.tl (ptext p)
    obtain ⟨h1, h2⟩ := g.mem hp
    rw [ptext_tl]
    intro hm
    rcases List.mem_append.mp hm with hm | hm
    · exact (name_free h1).2 hm
    · rcases List.mem_cons.mp hm with hm | hm
      · exact absurd hm (by decide)
      · exact (signs_free h2).2 hm
theorem read_text {ps : List (Str × Str)} (g : GoodPs ps) : readable (partsText ps) = true ∧ readPs (partsText ps) = ps := by
  have hp : ∀ p ∈ ps, isPair (ptext p) = true ∧ pairOf (ptext p) = p := fun p hp => pair_text (name_free (g.mem hp).1).1 (signs_free (g.mem hp).2).1
  constructor
  · unfold readable
    rw [words_text g, List.all_map, List.all_eq_true]
    exact fun p h => (hp p h).1
  · unfold readPs
    rw [words_text g, List.map_map]
    have : ps.map (pairOf ∘ ptext) = ps.map id := List.map_congr_left fun p h => (hp p h).2
    rw [this, List.map_id]
theorem joinL_len1 {sep : List Nat} {m : Nat} : ∀ xs : List (List Nat), xs ≠ [] → (∀ x ∈ xs, x.length ≤ m) → (TL.joinL sep xs).length + sep.length ≤ xs.length * (m + sep.length)
  | [], h, _ => absurd rfl h
  | [p], _, h => by
    have := h p List.mem_cons_self
    show p.length + _ ≤ 1 * (m + sep.length)
    omega
  | p :: q :: r, _, h => by
    have ih := joinL_len1 (sep := sep) (q :: r) (by simp) fun x hx => h x (List.mem_cons_of_mem _ hx)
    have := h p List.mem_cons_self
    show (p ++ (sep ++ TL.joinL sep (q :: r))).length + _ ≤ (q :: r).length.succ * (m + sep.length)
    rw [List.length_append, List.length_append, Nat.succ_mul]
    omega
theorem GoodPs.text95 {ps : List (Str × Str)} (g : GoodPs ps) : (partsText ps).length ≤ 95 := by
  have e : TL.tl (partsText ps) = TL.joinL [32] ((ps.map ptext).map TL.tl) := by
    unfold partsText
    rw [TL.join_eq, TL.tl_join]
    rfl
  have h := joinL_len1 (sep := [32]) (m := 23) ((ps.map ptext).map TL.tl) (fun h => by
    rw [List.map_map] at h
    exact g.ne (List.map_eq_nil_iff.mp h)) fun l hl => by
    rw [List.map_map] at hl
    obtain ⟨p, hp, rfl⟩ := List.mem_map.mp hl
    have := g.len p hp
    show (TL.tl (ptext p)).length ≤ 23
    rw [ptext_tl, List.length_append, List.length_cons, ← str_len, ← str_len]
    omega
  rw [str_len, e]
  rw [List.length_map, List.length_map] at h
  have h2 := g.few
  have h3 : ([32] : List Nat).length = 1 := rfl
  rw [h3] at h
  omega
theorem GoodPs.verdict {ps : List (Str × Str)} (g : GoodPs ps) : verdict ps = none := verdict_of g.few g.ne (fun p hp => g.mem hp) g.nodup g.lim
theorem same_over {H H' : Hp} {a : Addr} {o : HO} (s : Same H H') (h : H a = none) : Same H (upd H' a o) := fun b u e => (upd_ne (ne_of_none e h)).trans (s _ _ e)
end Fb
namespace K1
open PySem PySem.Spec PyProof.Rows L2 Fb RZ
theorem GoodPs.few' {ps : List (Str × Str)} (g : GoodPs ps) : Few ps := ⟨Nat.le_trans g.few (by decide), fun p hp => Nat.le_trans (g.len p hp).2 (by decide), fun i hi => by
  rw [List.map_take]
  exact Nat.le_trans (g.upTo hi) (by decide)⟩
theorem GoodPs.small' {ps : List (Str × Str)} (g : GoodPs ps) : Small ps := ⟨Nat.le_trans g.few (by decide), fun p hp => ⟨Nat.le_trans (g.len p hp).1 (by decide), Nat.le_trans (g.len p hp).2 (by decide)⟩⟩
theorem dkStrs {n : Nat} {ys : List Str} : ∀ d ∈ ys.map PyData.str, DK n d := fun d hd => by
  obtain ⟨y, _, rfl⟩ := List.mem_map.mp hd
  exact .str y
end K1

set_option Elab.async false
set_option linter.all false
set_option maxRecDepth 100000
set_option maxHeartbeats 4000000
namespace Fb
open PySem PySem.Spec PyProof.Rows L2
theorem passF {P : Program} {w : World} {X : Cx} : Passes (L2.CX P w) X E0 := by
  intro pins σ H s e s' I h
  obtain ⟨_, _, _, _, _, _, _, _, _, _, _, _, h⟩ := h
  exact h.elim
end Fb
namespace K1
open PySem PySem.Spec PyProof.Rows L2 Fb RZ
abbrev sToldSo : Stmt := top 44
/-- the methods of the letters -/
structure Ms (P : Program) (w : World) (K : PySem.W.Frag) (mg : Str → Option Value) (base : Heap) (C : Str → Addr) (CL : Addr) : Prop where
  listed : Mt P w K mg base CX0 1 CL "listed" ["self"] (spListedM K CL)
  is_ : Mt P w K mg base CX0 1 CL "is_letter" ["self", "text"] (spIsLetter K CL)
  cont : Mt P w K mg base CX0 1 CL "__contains__" ["self", "text"] (spIsLetter K CL)
  len : Mt P w K mg base CX0 1 CL "__len__" ["self"] (spLen K CL)
  place : Mt P w K mg base (L2.CX P w) 3 CL "place" ["self", "letter"] (spPlace K C CL)
  signs : Mt P w K mg base (L2.CX P w) 3 CL "signs_of" ["self", "name"] (spSignsOf K C CL)
  str : Mt P w K mg base CX0 1 CL "__str__" ["self"] (spStr K CL)
  repr : Mt P w K mg base CX0 4 CL "__repr__" ["self"] (spReprL K CL)
  eq : Mt P w K mg base CX0 2 CL "__eq__" ["self", "other"] (spEq K CL)
  nS : PySem.W.notFirst K CL (.type "str") = true
  nL : PySem.W.notFirst K CL (.type "list") = true
section
variable {P : Program} {w : World} {K : PySem.W.Frag} {mg : Str → Option Value} {base : Heap} {C : Str → Addr} {CL : Addr}
abbrev NTold : List Str := ["bag", "abc", "parts", "mine", "text", "due", "part", "told", "k", "back"]
theorem scTold : FnScope NTold ["bag", "abc", "parts"] (defScope sToldSo) := ⟨rfl, rfl, rfl, by decide +kernel, rfl, by decide +kernel, by decide +kernel⟩
def spToldSo (K : PySem.W.Frag) (CL : Addr) : Sp := fun vs H Q _ => ∃ (b a p : Addr) (ps : List (Str × Str)), vs = [.ref b, .ref a, .ref p] ∧ GoodPs ps ∧ LettersAt K CL H a ps ∧ PartsAt K H p ps ∧ ∀ H', Same H H' → Q (.bl true) H'
theorem ok_told_so {f : Addr} {fd : FuncData} (F : Fun K "_law_told_so" "_law_told_so" sToldSo f fd) (L : LC K mg CL) (M : Ms P w K mg base C CL) (RL : RD P w K mg base 4 "_law_like" ["told", "due"] (spLike K 3)) (RI : RD P w K mg base 1 "_law_listed" ["parts"] (spListed K)) (RT : RD P w K mg base 1 "_law_parts_text" ["parts"] (spPartsText K)) (RR : Rd P w K mg base (L2.CX P w) 6 "read_letters" ["text"] (spRead K C CL))
    (ml : mg "len" = none) (mt : mg "tuple" = none) (ms : mg "str" = none) (mp : mg "repr" = none) (mr : mg "range" = none) : FnOk P w K mg base CX0 7 f fd ["bag", "abc", "parts"] (spToldSo K CL) := by
  refine F.ok scTold (fun vs H Q E h => ?_) (fun cdv A outer s H vs Q E hr h => ?_)
  · obtain ⟨b, a, p, ps, rfl, _⟩ := h
    rfl
  obtain ⟨b, a, p, ps, rfl, G, hL, ⟨ts, hp, hps⟩, q⟩ := h
  have hr1 := hr.mono (by decide : 1 ≤ 6)
  have hr2 := hr.mono (by decide : 2 ≤ 6)
  have hr3 := hr.mono (by decide : 3 ≤ 6)
  have hr4 := hr.mono (by decide : 4 ≤ 6)
  have hr5 := hr.mono (by decide : 5 ≤ 6)
  refine ⟨_, pss_cons (ps_set (i := 3) scTold.nd rfl (Or.inl rfl) (pe_rd RI hr1 rfl pass0 (pa_cons (pv 2) pa_nil)))
    (pss_cons (ps_set (i := 4) scTold.nd rfl (Or.inl rfl) (pe_rd RT hr1 rfl pass0 (pa_cons (pv 2) pa_nil)))
    (pss_cons (ps_set (i := 5) scTold.nd rfl (Or.inl rfl) (pe_lst (pa_cons (pe_callTy call_tuple_of rfl mt (by decide +kernel) (pa_cons (pe_lc (own := [("part", 6)]) (g := gName 6) (tt := tYes) (te := tOp (rIxT K) (tVar 6) (tC (.int 0))) rfl scTold.nd (pi_list (pv 2)) (blkOk_by (N := NTold) (sc := defScope sToldSo) (by decide +kernel))
            (fun _ _ _ _ _ => pg_name (i := 6) scTold.nd rfl (Or.inl rfl)) (fun _ _ _ _ _ => pts_nil) (fun _ _ _ _ _ => pe_ix ix_tup (pv 6) pe_int (fun _ _ => rfl))) pa_nil))
        (pa_cons (pe_callTy call_tuple_of rfl mt (by decide +kernel) (pa_cons (pe_lc (own := [("part", 6)]) (g := gName 6) (tt := tYes) (te := tOp (rIxT K) (tVar 6) (tC (.int 1))) rfl scTold.nd (pi_list (pv 2)) (blkOk_by (N := NTold) (sc := defScope sToldSo) (by decide +kernel))
            (fun _ _ _ _ _ => pg_name (i := 6) scTold.nd rfl (Or.inl rfl)) (fun _ _ _ _ _ => pts_nil) (fun _ _ _ _ _ => pe_ix ix_tup (pv 6) pe_int (fun _ _ => rfl))) pa_nil))
        (pa_cons (pe_callB call_len_seq rfl ml PySem.boot_len (pa_cons (pv 3) pa_nil)) pa_nil)))))
    (pss_cons (ps_if (pt_not (pt_val (pe_rd RL hr4 rfl pass0 (pa_cons (pe_lst (pa_cons (pe_fld (pv 1) rfl) (pa_cons (pe_fld (pv 1) rfl) (pa_cons (pe_callB (call_lenO (Mt.own M.len pass0) hr2) rfl ml PySem.boot_len (pa_cons (pv 1) pa_nil)) (pa_cons (pe_callTy (call_strO (Mt.own M.str pass0) hr3) rfl ms (by decide +kernel) (pa_cons (pv 1) pa_nil)) (pa_cons (pe_callB (call_reprO (Mt.own M.repr pass0) hr5) rfl mp (by decide +kernel) (pa_cons (pv 1) pa_nil)) pa_nil))))))
        (pa_cons (pe_op op_cat (pv 5) (pe_lst (pa_cons (pv 4) (pa_cons (pe_op op_add_str (pe_op op_add_str pe_str (pv 4)) pe_str) pa_nil)))) pa_nil))))) (pss_one (ps_ret pe_bl)) pss_nil)
    (pss_cons (ps_set (i := 7) scTold.nd rfl (Or.inl rfl) (pe_mt0 M.listed L.cl (pv 1) hr1 pass0))
    (pss_cons (ps_if (pt_not (pt_val (pe_rd RL hr4 rfl pass0 (pa_cons (pv 7) (pa_cons (pv 3) pa_nil))))) (pss_one (ps_ret pe_bl)) pss_nil)
    (pss_cons (ps_expr (pe_bm PySem.F.plainAttrs_list PySem.F.slot_list_append PySem.F.type_list_append mt_append (pv 7) (pa_cons (pe_ix ix_list (pv 3) pe_int (fun _ _ => rfl)) pa_nil)))
    (pss_cons (ps_asg pe_str (pg_sub (pv 7) pe_int set_list))
    (pss_cons (ps_expr (pe_bm0 PySem.F.plainAttrs_list PySem.F.slot_list_reverse PySem.F.type_list_reverse mt_reverse (pv 7)))
    (pss_cons (ps_if (pt_not (pt_val (pe_rd RL hr4 rfl pass0 (pa_cons (pe_mt0 M.listed L.cl (pv 1) hr1 pass0) (pa_cons (pv 3) pa_nil))))) (pss_one (ps_ret pe_bl)) pss_nil)
    (pss_cons (ps_for PassesOwn.never rfl (pi_range1 rfl mr (pa_cons (pe_callB call_len_seq rfl ml PySem.boot_len (pa_cons (pv 3) pa_nil)) pa_nil)) (pg_name (i := 8) scTold.nd rfl (Or.inl rfl))
      (pss_one (ps_if (pt_not (pt_val (pe_rd RL hr4 rfl pass0 (pa_cons (pe_lst (pa_cons (pe_mt M.is_ L.cl (pv 1) hr1 pass0 (pa_cons (pe_ix ix_list (pv 3) (pv 8) (fun _ _ => rfl)) pa_nil)) (pa_cons (pe_cmpR (op_inO (Mt.own M.cont pass0) hr1) (pe_ix ix_list (pv 3) (pv 8) (fun _ _ => rfl)) (pv 1) rfl) (pa_cons (pe_mt M.place L.cl (pv 1) hr3 passF (pa_cons (pe_ix ix_list (pv 3) (pv 8) (fun _ _ => rfl)) pa_nil)) pa_nil))))
          (pa_cons (pe_lst (pa_cons pe_bl (pa_cons pe_bl (pa_cons (pv 8) pa_nil)))) pa_nil))))) (pss_one (ps_ret pe_bl)) pss_nil)))
    (pss_cons (ps_for PassesOwn.never rfl (pi_list (pv 2)) (pg_name (i := 6) scTold.nd rfl (Or.inl rfl))
      (pss_one (ps_if (pt_not (pt_val (pe_rd RL hr4 rfl pass0 (pa_cons (pe_mt M.signs L.cl (pv 1) hr3 passF (pa_cons (pe_ix ix_tup (pv 6) pe_int (fun _ _ => rfl)) pa_nil)) (pa_cons (pe_ix ix_tup (pv 6) pe_int (fun _ _ => rfl)) pa_nil))))) (pss_one (ps_ret pe_bl)) pss_nil)))
    (pss_cons (ps_set (i := 9) scTold.nd rfl (Or.inl rfl) (pe_rd RR hr rfl passF (pa_cons (pv 4) pa_nil)))
    (pss_one (ps_ret (pe_and (pe_cmpR (op_eqO (Mt.own M.eq pass0) hr2 M.nS M.nL) (pv 1) (pv 9) (nomark _)) (pe_and (pe_cmpR (op_eqO (Mt.own M.eq pass0) hr2 M.nS M.nL) (pv 9) (pv 1) (nomark _)) (pe_and (pe_rd RL hr4 rfl pass0 (pa_cons (pe_mt0 M.listed L.cl (pv 9) hr1 pass0) (pa_cons (pv 3) pa_nil)))
        (pe_and (pe_not (pe_cmpR (op_eqO (Mt.own M.eq pass0) hr2 M.nS M.nL) (pv 1) (pv 4) (nomark _))) (pe_one (pe_not (pe_cmpR (op_eqO (Mt.own M.eq pass0) hr2 M.nS M.nL) (pv 1) (pv 3) (nomark _)))))))))))))))))))))), ?_⟩
  have hz2 : sizeLine = 16777216 := sizeLine_eq
  have hlen := hps.len
  have hfew := G.few
  have hcount := G.count
  have htx := G.text95
  have hml : ((lettersOf ps).map V.str).length = (lettersOf ps).length := List.length_map ..
  refine ⟨_, rfl, p, ps, rfl, ⟨ts, hp, hps⟩, GoodPs.few' G, fun m H1 s1 hm0 hm => ?_⟩
  refine ⟨_, rfl, p, ps, rfl, ⟨ts, s1.seq hp, hps.same s1⟩, GoodPs.small' G, fun H2 s2 => ?_⟩
  have s12 := s1.trans s2
  have hp2 := s12.seq hp
  have hps2 := hps.same s12
  have hm2 := s2 _ _ hm
  refine ⟨_, rfl, p, rfl, ⟨_, hp2⟩, fun D hD => lc_list (xs := ts.map V.ref) (PvTexts (·.1) ps H2 D) ⟨by rw [List.take_zero]; exact upd_same, same_new hD _⟩ (fun i Hi _ pv => pv.2.seq hp2) ?_ ?_⟩
  · intro i y Hi hi pv
    obtain ⟨t, ht, rfl⟩ : ∃ t, ts[i]? = some t ∧ V.ref t = y := by
      rw [List.getElem?_map] at hi
      exact Option.map_eq_some_iff.mp hi
    obtain ⟨r9, hr9, hrt9⟩ := (hps2.same pv.2).get ht
    refine ⟨rfl, _, rfl, t, _, 0, .str r9.1, rfl, rfl, hrt9, rfl, _, pv.1, ?_, pv.step hD hr9⟩
    rw [List.length_map, List.length_map, List.length_take]
    omega
  rintro H3 ⟨d1, s3⟩
  rw [List.length_map, hlen, List.take_of_length_le (Nat.le_refl _)] at d1
  refine ⟨D, _, rfl, .inl ⟨SqL.of d1, fun tN htN => ?_⟩⟩
  have hN4 : SqT K (upd H3 tN (.tup ((ps.map (·.1)).map V.str))) tN ((ps.map (·.1)).map V.str) := SqT.of upd_same
  have s4 : Same H2 (upd H3 tN (.tup ((ps.map (·.1)).map V.str))) := s3.trans (same_new htN _)
  generalize upd H3 tN (.tup ((ps.map (·.1)).map V.str)) = H4 at hN4 s4 ⊢
  clear d1 s3 htN hD
  have hp4 := s4.seq hp2
  have hps4 := hps2.same s4
  refine ⟨_, rfl, p, rfl, ⟨_, hp4⟩, fun D hD => lc_list (xs := ts.map V.ref) (PvTexts (·.2) ps H4 D) ⟨by rw [List.take_zero]; exact upd_same, same_new hD _⟩ (fun i Hi _ pv => pv.2.seq hp4) ?_ ?_⟩
  · intro i y Hi hi pv
    obtain ⟨t, ht, rfl⟩ : ∃ t, ts[i]? = some t ∧ V.ref t = y := by
      rw [List.getElem?_map] at hi
      exact Option.map_eq_some_iff.mp hi
    obtain ⟨r9, hr9, hrt9⟩ := (hps4.same pv.2).get ht
    refine ⟨rfl, _, rfl, t, _, 1, .str r9.2, rfl, rfl, hrt9, rfl, _, pv.1, ?_, pv.step hD hr9⟩
    rw [List.length_map, List.length_map, List.length_take]
    omega
  rintro H5 ⟨d1, s5⟩
  rw [List.length_map, hlen, List.take_of_length_le (Nat.le_refl _)] at d1
  refine ⟨D, _, rfl, .inl ⟨SqL.of d1, fun tS htS => ?_⟩⟩
  have hS6 : SqT K (upd H5 tS (.tup ((ps.map (·.2)).map V.str))) tS ((ps.map (·.2)).map V.str) := SqT.of upd_same
  have s6 : Same H4 (upd H5 tS (.tup ((ps.map (·.2)).map V.str))) := s5.trans (same_new htS _)
  generalize upd H5 tS (.tup ((ps.map (·.2)).map V.str)) = H6 at hS6 s6 ⊢
  clear d1 s5 htS hD
  have hN6 := Same.seqT s6 hN4
  have hm6 := (s4.trans s6) _ _ hm2
  refine ⟨_, rfl, m, _, rfl, .inl (SqL.of hm6), (by show 3 ≤ sizeLine; decide), fun du hdu => ?_⟩
  rw [hml]
  have s7 := same_new hdu (.lst [.ref tN, .ref tS, .int (lettersOf ps).length])
  have hdu7 : upd H6 du (.lst [.ref tN, .ref tS, .int (lettersOf ps).length]) du = some (.lst [.ref tN, .ref tS, .int (lettersOf ps).length]) := upd_same
  have hN7 := Same.seqT s7 hN6
  have hS7 := Same.seqT s7 hS6
  have hm7 := s7 _ _ hm6
  have s07 := s12.trans ((s4.trans s6).trans s7)
  generalize upd H6 du (.lst [.ref tN, .ref tS, .int (lettersOf ps).length]) = H7 at s07 hdu7 hN7 hS7 hm7 ⊢
  clear s7 hm6 hN6 hS6 s6 s4 hm2 hps4 hp4 hps2 hp2 hN4 s12 s2 s1 hm hm0 hdu
  obtain ⟨dx, tn, tsg, ta, d, l1, l2, l3, l4, l5⟩ := hL.same s07
  have hL7 := hL.same s07
  -- the first comparison
  refine ⟨_, rfl, a, CL, dx, _, _, rfl, l1, L.cl, L.nN, l_names, _, rfl, a, CL, dx, _, _, rfl, l1, L.cl, L.nS, l_signs, _, rfl, a, dx, _, rfl, l1, a, ps, rfl, G, hL7, fun H8 s8 => ⟨_, rfl, by omega, by omega, _, rfl, a, dx, _, rfl, s8 _ _ l1, a, ps, rfl, G, hL7.same s8, fun H9 s9 => ⟨_, rfl, _, rfl, a, dx, _, rfl, (s8.trans s9) _ _ l1, a, ps, rfl, G, hL7.same (s8.trans s9), fun H10 s10 => ⟨_, rfl, (by show 5 ≤ sizeLine; decide), fun q1 hq1 => ?_⟩⟩⟩⟩
  have s11 := ((s8.trans s9).trans s10).trans (same_new hq1 (.lst [.ref tn, .ref tsg, .int (lettersOf ps).length, .str (partsText ps), .str (reprL ps)]))
  have hq11 : upd H10 q1 (.lst [.ref tn, .ref tsg, .int (lettersOf ps).length, .str (partsText ps), .str (reprL ps)]) q1 = some (.lst [.ref tn, .ref tsg, .int (lettersOf ps).length, .str (partsText ps), .str (reprL ps)]) := upd_same
  generalize upd H10 q1 (.lst [.ref tn, .ref tsg, .int (lettersOf ps).length, .str (partsText ps), .str (reprL ps)]) = H11 at s11 hq11 ⊢
  refine ⟨_, rfl, _, rfl, _, rfl, _, _, rfl, rfl, (by show 8 + _ ≤ sizeLine; omega), _, _, rfl, rfl, (by rw [strLen_append]; show 8 + _ + 1 ≤ sizeLine; omega), (by show 2 ≤ sizeLine; decide), fun q2 hq2 => ?_⟩
  refine ⟨du, q2, _, _, rfl, rfl, (s11.trans (same_new hq2 _)) _ _ hdu7, upd_same, (by show 5 ≤ sizeLine; decide), fun q3 hq3 => ?_⟩
  have s12 := s11.trans ((same_new hq2 (.lst [.str (partsText ps), .str (Str.ofString "Letters(" ++ partsText ps ++ Str.ofString ")")])).trans (same_new hq3 (.lst ([.ref tN, .ref tS, .int (lettersOf ps).length] ++ [.str (partsText ps), .str (Str.ofString "Letters(" ++ partsText ps ++ Str.ofString ")")]))))
  have hq12 := ((same_new hq2 (.lst [.str (partsText ps), .str (Str.ofString "Letters(" ++ partsText ps ++ Str.ofString ")")])).trans (same_new hq3 (.lst ([.ref tN, .ref tS, .int (lettersOf ps).length] ++ [.str (partsText ps), .str (Str.ofString "Letters(" ++ partsText ps ++ Str.ofString ")")])))) _ _ hq11
  have hq312 : upd (upd H11 q2 (.lst [.str (partsText ps), .str (Str.ofString "Letters(" ++ partsText ps ++ Str.ofString ")")])) q3 (.lst ([.ref tN, .ref tS, .int (lettersOf ps).length] ++ [.str (partsText ps), .str (Str.ofString "Letters(" ++ partsText ps ++ Str.ofString ")")])) q3 = some (.lst [.ref tN, .ref tS, .int (lettersOf ps).length, .str (partsText ps), .str (reprL ps)]) := upd_same
  generalize upd (upd H11 q2 (.lst [.str (partsText ps), .str (Str.ofString "Letters(" ++ partsText ps ++ Str.ofString ")")])) q3 (.lst ([.ref tN, .ref tS, .int (lettersOf ps).length] ++ [.str (partsText ps), .str (Str.ofString "Letters(" ++ partsText ps ++ Str.ofString ")")])) = H12 at s12 hq12 hq312 ⊢
  refine ⟨.ref q1, .ref q3, .list [.tuple ((ps.map (·.1)).map PyData.str), .tuple ((ps.map (·.2)).map PyData.str), .int (lettersOf ps).length, .str (partsText ps), .str (reprL ps)], rfl,
    .lst (SqL.of hq12) (.cons (.tup (Same.seqT s12 l2.seq) (dpStrs _)) (.cons (.tup (Same.seqT s12 l3) (dpStrs _)) (.cons (.int _) (.cons (.str _) (.cons (.str _) .nil))))),
    .lst (SqL.of hq312) (.cons (.tup (Same.seqT s12 hN7) (dpStrs _)) (.cons (.tup (Same.seqT s12 hS7) (dpStrs _)) (.cons (.int _) (.cons (.str _) (.cons (.str _) .nil))))), ?_, fun H13 s13 => ⟨_, rfl, iteF ?_⟩⟩
  · refine .lst (by show 5 ≤ 10000; decide) fun d hd => ?_
    simp only [List.mem_cons, List.not_mem_nil, or_false] at hd
    rcases hd with rfl | rfl | rfl | rfl | rfl
    · exact .tup (by rw [List.length_map, List.length_map]; omega) dkStrs
    · exact .tup (by rw [List.length_map, List.length_map]; omega) dkStrs
    · exact .int _
    · exact .str _
    · exact .str _
  have sA := s12.trans s13
  have s0A := s07.trans sA
  have hLA := hL7.same sA
  have lA := sA _ _ l1
  have hmA := sA _ _ hm7
  have hpA := s0A.seq hp
  have hpsA := hps.same s0A
  clear s12 s13 hq12 hq312 s11 hq11 l1 l2 l3 l4 l5 hN7 hS7 hm7 hL7 hdu7 s8 s9 s10 hq1 hq2 hq3 s07 sA
  have dkL : DK 3 (.list ((lettersOf ps).map PyData.str)) := .lst (by rw [List.length_map]; omega) dkStrs
  have hsome := G.some
  -- told, and changed
  refine ⟨_, rfl, a, dx, _, rfl, lA, rfl, a, ps, rfl, hLA, fun tl H14 s14 htl0 htl => ?_⟩
  refine ⟨_, rfl, _, rfl, .ref tl, .ref m, .list ((lettersOf ps).map PyData.str), rfl, .lst (SqL.of htl) (dpStrs _), .lst (SqL.of (s14 _ _ hmA)) (dpStrs _), dkL, fun H15 s15 => ⟨_, rfl, iteF ?_⟩⟩
  have sB := s14.trans s15
  have htl15 := s15 _ _ htl
  have hat0 : atI ((lettersOf ps).map V.str) 0 = some (.str (lettersOf ps)[0]) := atI_nat (j := 0) (by rw [List.getElem?_map, List.getElem?_eq_getElem hsome]; rfl)
  refine ⟨_, rfl, .inl ⟨rfl, _, SqL.of htl15⟩, _, rfl, m, _, 0, _, rfl, rfl, SqL.of (sB _ _ hmA), hat0, tl, _, _, rfl, rfl, htl15, by rw [hml]; omega, ?_⟩
  have sC := same_over (o := .lst ((lettersOf ps).map V.str ++ [.str (lettersOf ps)[0]])) sB htl0
  have htlC : upd H15 tl (.lst ((lettersOf ps).map V.str ++ [.str (lettersOf ps)[0]])) tl = some (.lst ((lettersOf ps).map V.str ++ [.str (lettersOf ps)[0]])) := upd_same
  generalize upd H15 tl (.lst ((lettersOf ps).map V.str ++ [.str (lettersOf ps)[0]])) = H16 at sC htlC ⊢
  have htv : 0 < ((lettersOf ps).map V.str ++ [V.str (lettersOf ps)[0]]).length := by simp
  generalize (lettersOf ps).map V.str ++ [V.str (lettersOf ps)[0]] = tv at htlC htv
  refine ⟨_, rfl, tl, _, 0, 0, rfl, rfl, htlC, ix_nat (k := 0) htv, ?_⟩
  have sD := same_over (o := .lst (tv.set 0 (.str "odd"))) sC htl0
  have htlD : upd H16 tl (.lst (tv.set 0 (.str "odd"))) tl = some (.lst (tv.set 0 (.str "odd"))) := upd_same
  generalize upd H16 tl (.lst (tv.set 0 (.str "odd"))) = H17 at sD htlD ⊢
  generalize tv.set 0 (.str "odd") = tv2 at htlD ⊢
  refine ⟨_, rfl, .inl ⟨rfl, _, SqL.of htlD⟩, tl, _, rfl, rfl, htlD, ?_⟩
  have sE := same_over (o := .lst tv2.reverse) sD htl0
  generalize upd H17 tl (.lst tv2.reverse) = H18 at sE ⊢
  clear sB sC sD htl15 htlC htlD htv s14 s15 htl hat0
  refine ⟨_, rfl, a, dx, _, rfl, sE _ _ lA, rfl, a, ps, rfl, hLA.same sE, fun l4 H19 s19 hl40 hl4 => ?_⟩
  refine ⟨_, rfl, .ref l4, .ref m, .list ((lettersOf ps).map PyData.str), rfl, .lst (SqL.of hl4) (dpStrs _), .lst (SqL.of ((sE.trans s19) _ _ hmA)) (dpStrs _), dkL, fun H20 s20 => ⟨_, rfl, iteF ?_⟩⟩
  have sF := (sE.trans s19).trans s20
  clear s19 s20 hl40 hl4 sE
  -- each letter
  refine ⟨_, rfl, m, _, rfl, .inl (SqL.of (sF _ _ hmA)), _, rfl, (by show -(2 ^ 62 : Int) ≤ ((((lettersOf ps).map V.str).length : Nat) : Int); omega), (by show ((((lettersOf ps).map V.str).length : Nat) : Int) < 2 ^ 62; omega), for_range (lo := 0) (n := ((lettersOf ps).map V.str).length) (fun k σ Hi => Same H13 Hi ∧ ∃ v8 : Option V, σ = [some (.ref b), some (.ref a), some (.ref p), some (.ref m), some (.str (partsText ps)), some (.ref du), none, some (.ref tl), v8, none]) ⟨sF, _, rfl⟩ ?_ ?_⟩
  · rintro k _ Hi hk ⟨si, v8, rfl⟩
    rw [hml] at hk
    have e0 : ((0 : Int) + (k : Int)) = (k : Int) := by omega
    have hzm : (lettersOf ps)[k] ∈ lettersOf ps := List.getElem_mem hk
    have hat : atI ((lettersOf ps).map V.str) (0 + (k : Int)) = some (.str (lettersOf ps)[k]) := by
      rw [e0]
      exact atI_nat (by rw [List.getElem?_map, List.getElem?_eq_getElem hk]; rfl)
    have hzl := G.lenLetters hzm
    have hzlow := G.lowLetters hzm
    have hgk : (lettersOf ps)[k]? = some (lettersOf ps)[k] := List.getElem?_eq_getElem hk
    generalize (lettersOf ps)[k] = z at hzm hat hzl hzlow hgk
    have mk : SqL K Hi m ((lettersOf ps).map V.str) := SqL.of (si _ _ hmA)
    refine ⟨_, rfl, a, dx, _, rfl, si _ _ lA, rfl, _, rfl, _, rfl, m, _, _, .str z, rfl, rfl, mk, hat, a, z, ps, rfl, G, hLA.same si, fun Hj sj => ?_⟩
    have t1 := si.trans sj
    refine ⟨_, rfl, _, rfl, m, _, _, .str z, rfl, rfl, sj.seq mk, hat, _, rfl, a, dx, _, rfl, t1 _ _ lA, a, z, ps, rfl, G, hLA.same t1, fun Hk sk => ⟨_, rfl, ?_⟩⟩
    have t2 := t1.trans sk
    refine ⟨_, rfl, a, dx, _, rfl, t2 _ _ lA, rfl, _, rfl, _, rfl, m, _, _, .str z, rfl, rfl, (sj.trans sk).seq mk, hat, a, z, ps, rfl, G, hLA.same t2, by omega, hzlow, fun j hj Hl sl => ?_, fun hn => absurd hzm hn⟩
    obtain rfl : k = j := (List.getElem?_inj hk G.letters).mp (hgk.trans hj.symm)
    rw [decide_eq_true hzm, e0]
    refine ⟨(by show 3 ≤ sizeLine; decide), fun q4 hq4 => ⟨_, rfl, (by show 3 ≤ sizeLine; decide), fun q5 hq5 => ?_⟩⟩
    refine ⟨.ref q4, .ref q5, .list [.bool true, .bool true, .int (k : Nat)], rfl, .lst (SqL.of ((same_new hq5 _) _ _ upd_same)) (.cons (.bl _) (.cons (.bl _) (.cons (.int _) .nil))), .lst (SqL.of upd_same) (.cons (.bl _) (.cons (.bl _) (.cons (.int _) .nil))), ?_, fun Hm sm => ⟨_, rfl, iteF ⟨(t2.trans sl).trans (((same_new hq4 _).trans (same_new hq5 _)).trans sm), _, rfl⟩⟩⟩
    refine .lst (by show 3 ≤ 10000; decide) fun d hd => ?_
    simp only [List.mem_cons, List.not_mem_nil, or_false] at hd
    rcases hd with rfl | rfl | rfl
    · exact .bl _
    · exact .bl _
    · exact .int _
  · rintro _ Hi ⟨si, v8, rfl⟩
    refine ⟨_, rfl, p, rfl, ⟨_, si.seq hpA⟩, for_list (K := K) (a := p) (xs := ts.map V.ref) (fun i σ Hj => Same H13 Hj ∧ ∃ v6 : Option V, σ = [some (.ref b), some (.ref a), some (.ref p), some (.ref m), some (.str (partsText ps)), some (.ref du), v6, some (.ref tl), v8, none]) ⟨si, _, rfl⟩ (fun i σ Hj _ h => h.1.seq hpA) ?_ ?_⟩
    · rintro i y _ Hj hi ⟨sj, v6, rfl⟩
      obtain ⟨t, ht, rfl⟩ : ∃ t, ts[i]? = some t ∧ V.ref t = y := by
        rw [List.getElem?_map] at hi
        exact Option.map_eq_some_iff.mp hi
      obtain ⟨r, hr9, hrt⟩ := (hpsA.same sj).get ht
      have hrm := List.mem_of_getElem? hr9
      have hn := nameAt_of G.nodup hr9
      have hl := G.len r hrm
      refine ⟨_, rfl, a, dx, _, rfl, sj _ _ lA, rfl, _, rfl, t, _, 0, .str r.1, rfl, rfl, hrt, rfl, a, r.1, ps, rfl, hLA.same sj, by omega, (G.low r hrm).1, fun hz p' hp' Hk sk => ?_, fun hn => absurd (List.mem_map_of_mem (f := fun x : Str × Str => x.1) hrm) hn⟩
      rw [hn, hr9] at hp'
      obtain rfl : r = p' := Option.some.inj hp'
      exact ⟨_, rfl, t, _, 1, .str r.2, rfl, rfl, Same.seqT sk hrt, rfl, .str r.2, .str r.2, .str r.2, rfl, .str _, .str _, .str _, fun Hl sl => ⟨_, rfl, iteF ⟨(sj.trans sk).trans sl, _, rfl⟩⟩⟩
    · rintro _ Hj ⟨sj, v6, rfl⟩
      obtain ⟨rt1, rt2⟩ := read_text G
      refine ⟨_, rfl, partsText ps, rfl, by omega, fun hr => (by rw [rt1] at hr; cases hr), fun _ => ⟨fun _ bk Hk sk hbk hL2 => ?_, fun e he => (by rw [rt2, G.verdict] at he; cases he)⟩⟩
      rw [rt2] at hL2
      have tk := sj.trans sk
      obtain ⟨dx2, tn2, ts2, ta2, d2, g1, g2, g3, g4, g5⟩ := id hL2
      refine ⟨_, rfl, _, rfl, a, dx, _, rfl, tk _ _ lA, .inr (.inr ⟨bk, _, _, rfl, g1⟩), a, ps, G, hLA.same tk, .inr (.inr ⟨bk, ps, rfl, G, hL2, fun K1 z1 => ⟨_, rfl, _, rfl, ?_⟩⟩)⟩
      rw [decide_eq_true (rfl : ps = ps)]
      refine iteT ⟨_, rfl, _, rfl, bk, dx2, _, rfl, z1 _ _ g1, .inr (.inr ⟨a, _, _, rfl, (tk.trans z1) _ _ lA⟩), bk, ps, G, hL2.same z1, .inr (.inr ⟨a, ps, rfl, G, hLA.same (tk.trans z1), fun K2 z2 => ⟨_, rfl, _, rfl, ?_⟩⟩)⟩
      rw [decide_eq_true (rfl : ps = ps)]
      have z12 := z1.trans z2
      refine iteT ⟨_, rfl, bk, dx2, _, rfl, z12 _ _ g1, rfl, bk, ps, rfl, hL2.same z12, fun l5 K3 z3 hl50 hl5 => ?_⟩
      have z13 := z12.trans z3
      refine ⟨_, rfl, .ref l5, .ref m, .list ((lettersOf ps).map PyData.str), rfl, .lst (SqL.of hl5) (dpStrs _), .lst (SqL.of ((tk.trans z13) _ _ hmA)) (dpStrs _), dkL, fun K4 z4 => ⟨_, rfl, iteT ?_⟩⟩
      have y4 := tk.trans (z13.trans z4)
      refine ⟨_, rfl, _, rfl, a, dx, _, rfl, y4 _ _ lA, .inl ⟨_, rfl⟩, a, ps, G, hLA.same y4, .inl ⟨_, rfl, fun K5 z5 => ⟨_, rfl, _, rfl, _, rfl, iteT ?_⟩⟩⟩
      have y5 := y4.trans z5
      exact ⟨_, rfl, _, rfl, a, dx, _, rfl, y5 _ _ lA, .inr (.inl ⟨m, _, rfl, SqL.of (y5 _ _ hmA)⟩), a, ps, G, hLA.same y5, .inr (.inl ⟨m, _, rfl, SqL.of (y5 _ _ hmA), fun K6 z6 => ⟨_, rfl, _, rfl, q K6 (s0A.trans (y5.trans z6))⟩⟩)⟩
end
end K1

set_option Elab.async false
set_option linter.all false
set_option maxRecDepth 100000
set_option maxHeartbeats 4000000
namespace K1
open PySem PySem.Spec PyProof.Rows L2 Fb RZ
abbrev sNamesSo : Stmt := top 48
section
variable {P : Program} {w : World} {K : PySem.W.Frag} {mg : Str → Option Value} {base : Heap} {C : Str → Addr} {CL : Addr}
abbrev NNamesSo : List Str := ["bag", "k", "word", "spot", "odd", "some"]
theorem scNamesSo : FnScope NNamesSo ["bag"] (defScope sNamesSo) := ⟨rfl, rfl, rfl, by decide +kernel, rfl, by decide +kernel, by decide +kernel⟩
def spNamesSo : Sp := fun vs H Q _ => ∃ (b l : Addr), vs = [.ref b] ∧ BagAt l H b ∧ ∀ H', BagAt l H' b → But b H H' → Q (.bl true) H'
theorem ok_names_so {f : Addr} {fd : FuncData} (F : Fun K "_law_names_so" "_law_names_so" sNamesSo f fd) (D : RD P w K mg base 1 "_law_draw" ["bag", "size"] spDraw) (O : RD P w K mg base 2 "_law_of" ["bag", "things"] (spOf K)) (N : RD P w K mg base 3 "_law_name" ["bag"] spName) (RL : RD P w K mg base 4 "_law_like" ["told", "due"] (spLike K 3)) (R1 : RD P w K mg base 1 "is_name" ["text"] (spTold isName)) (R2 : RD P w K mg base 1 "_law_is_name" ["word"] (spTold isName)) (mn : mg "len" = none) (mr : mg "range" = none) : FnOk P w K mg base CX0 5 f fd ["bag"] spNamesSo := by
  refine F.ok scNamesSo (fun vs H Q E h => ?_) (fun cdv A outer s H vs Q E hr h => ?_)
  · obtain ⟨b, l, rfl, _⟩ := h
    rfl
  obtain ⟨b, l, rfl, B, q⟩ := h
  have hr1 := hr.mono (by decide : 1 ≤ 4)
  have hr2 := hr.mono (by decide : 2 ≤ 4)
  have hr3 := hr.mono (by decide : 3 ≤ 4)
  refine ⟨_, pss_cons (ps_for PassesOwn.never rfl (pi_range1 rfl mr (pa_cons pe_int pa_nil)) (pg_name (i := 1) scNamesSo.nd rfl (Or.inl rfl))
      (pss_cons (ps_set (i := 2) scNamesSo.nd rfl (Or.inl rfl) (pe_rd N hr3 rfl pass0 (pa_cons (pv 0) pa_nil)))
      (pss_cons (ps_set (i := 3) scNamesSo.nd rfl (Or.inl rfl) (pe_rd D hr1 rfl pass0 (pa_cons (pv 0) (pa_cons (pe_op op_add (pe_callB call_len_str rfl mn PySem.boot_len (pa_cons (pv 2) pa_nil)) pe_int) pa_nil))))
      (pss_cons (ps_set (i := 4) scNamesSo.nd rfl (Or.inl rfl) (pe_rd O hr2 rfl pass0 (pa_cons (pv 0) (pa_cons (pe_lst (pa_cons pe_str (pa_cons pe_str (pa_cons pe_str (pa_cons pe_str (pa_cons pe_str (pa_cons pe_str (pa_cons pe_str (pa_cons pe_str (pa_cons pe_str pa_nil)))))))))) pa_nil))))
      (pss_one (ps_for PassesOwn.never rfl (pi_tup (pe_tup (pa_cons (pv 2) (pa_cons (pe_op op_add_str (pe_op op_add_str (pe_slice sl_str (pv 2) po_none (po_some (pv 3))) (pv 4)) (pe_slice sl_str (pv 2) (po_some (pv 3)) po_none)) (pa_cons (pv 4) pa_nil))))) (pg_name (i := 5) scNamesSo.nd rfl (Or.inl rfl))
        (pss_one (ps_if (pt_not (pt_val (pe_rd RL hr rfl pass0 (pa_cons (pe_rd R1 hr1 rfl pass0 (pa_cons (pv 5) pa_nil)) (pa_cons (pe_rd R2 hr1 rfl pass0 (pa_cons (pv 5) pa_nil)) pa_nil))))) (pss_one (ps_ret pe_bl)) pss_nil))))))))
    (pss_one (ps_ret pe_bl)), ?_⟩
  have hz2 : sizeLine = 16777216 := sizeLine_eq
  refine ⟨6, rfl, by decide, by decide, for_range (n := 6) (fun i σ Hi => BagAt l Hi b ∧ But b H Hi ∧ ∃ v1 v2 v3 v4 v5 : Option V, σ = [some (.ref b), v1, v2, v3, v4, v5]) ⟨B, But.refl, _, _, _, _, _, rfl⟩ ?_ ?_⟩
  · rintro i _ Hi hi ⟨Bi, bi, v1, v2, v3, v4, v5, rfl⟩
    refine ⟨_, rfl, b, l, rfl, Bi, fun z H1 hz B1 b1 => ?_⟩
    have hzl := (isName_len hz).2.1
    refine ⟨_, rfl, _, rfl, z, rfl, by omega, _, _, rfl, rfl, b, l, _, rfl, B1, by omega, by omega, fun r H2 r0 r1 B2 b2 => ?_⟩
    refine ⟨_, rfl, (by show 9 ≤ sizeLine; decide), fun p1 hp1 => ⟨b, l, .ref p1, 9, (fun y => ∃ z : Str, y = .str z ∧ z.length ≤ 6), rfl, B2.new hp1 _, by decide, by decide, .inl ⟨p1, _, rfl, B2.ne hp1, .inl (SqL.of upd_same), rfl, fun y hy => ?_⟩, fun y H3 hy B3 b3 => ?_⟩⟩
    · simp only [List.mem_cons, List.not_mem_nil, or_false] at hy
      rcases hy with rfl | rfl | rfl | rfl | rfl | rfl | rfl | rfl | rfl <;> exact ⟨_, rfl, by decide⟩
    obtain ⟨od, rfl, hod⟩ := hy
    have bt := bi.trans ((b1.trans b2).trans ((But.of (same_new hp1 (.lst [.str "A", .str "0", .str "\n", .str " ", .str "-", .str "", .str "z", .str "zzzzzz", .str "?"]))).trans b3))
    have c1 := cutS_length z none (some r)
    have c2 := cutS_length z (some r) none
    refine ⟨_, rfl, _, rfl, _, rfl, _, rfl, z, rfl, by omega, _, rfl, _, _, rfl, rfl, by omega, _, rfl, _, rfl, _, rfl, z, rfl, by omega, _, _, rfl, rfl, (by rw [strLen_append]; omega), _, rfl, (by show 3 ≤ sizeLine; decide), fun t ht => ?_⟩
    have B4 := B3.new ht (.tup [.str z, .str (cutS z none (some r) ++ od ++ cutS z (some r) none), .str od])
    have bt4 := bt.trans (But.of (same_new ht (.tup [.str z, .str (cutS z none (some r) ++ od ++ cutS z (some r) none), .str od])))
    have ht4 : upd H3 t (.tup [.str z, .str (cutS z none (some r) ++ od ++ cutS z (some r) none), .str od]) t = some (.tup [.str z, .str (cutS z none (some r) ++ od ++ cutS z (some r) none), .str od]) := upd_same
    have hall : ∀ y ∈ [V.str z, .str (cutS z none (some r) ++ od ++ cutS z (some r) none), .str od], ∃ u : Str, y = .str u ∧ u.length ≤ 100 := fun y hy => by
      simp only [List.mem_cons, List.not_mem_nil, or_false] at hy
      rcases hy with rfl | rfl | rfl
      · exact ⟨_, rfl, by omega⟩
      · exact ⟨_, rfl, by rw [strLen_append, strLen_append]; omega⟩
      · exact ⟨_, rfl, by omega⟩
    generalize upd H3 t (.tup [.str z, .str (cutS z none (some r) ++ od ++ cutS z (some r) none), .str od]) = H4 at B4 bt4 ht4 ⊢
    generalize [V.str z, .str (cutS z none (some r) ++ od ++ cutS z (some r) none), .str od] = ys at ht4 hall
    refine ⟨t, rfl, ⟨_, SqT.of ht4⟩, for_tup (K := K) (a := t) (xs := ys) (fun j σ Hj => Same H4 Hj ∧ ∃ v5 : Option V, σ = [some (.ref b), some (.int (0 + (i : Int))), some (.str z), some (.int r), some (.str od), v5]) ⟨Same.refl _, _, rfl⟩ (fun j σ Hj _ h => SqT.of (h.1 _ _ ht4)) ?_ ?_⟩
    · rintro j y _ Hj hj ⟨sj, v5, rfl⟩
      obtain ⟨u, rfl, hu⟩ := hall y (List.mem_of_getElem? hj)
      exact ⟨_, rfl, u, rfl, by omega, fun H5 s5 => ⟨_, rfl, u, rfl, by omega, fun H6 s6 => ⟨_, _, .bool (isName u), rfl, .bl _, .bl _, .bl _, fun H7 s7 => ⟨_, rfl, iteF ⟨((sj.trans s5).trans s6).trans s7, _, rfl⟩⟩⟩⟩⟩
    · rintro _ Hj ⟨sj, v5, rfl⟩
      exact ⟨B4.same sj, bt4.trans (But.of sj), _, _, _, _, _, rfl⟩
  · rintro _ Hi ⟨Bi, bi, v1, v2, v3, v4, v5, rfl⟩
    exact q Hi Bi bi
end
end K1

set_option Elab.async false
set_option linter.all false
set_option maxRecDepth 100000
set_option maxHeartbeats 4000000
/-! a method of an own class, called by keywords -/
namespace Fb
open PySem PySem.Spec PyProof.Rows L2
structure MtK (P : Program) (w : World) (K : PySem.W.Frag) (mg : Str → Option Value) (base : Heap) (CX : CXT) (k : Nat) (C : Addr) (m : Str) (ps : List Str) (sp : Sp) (ks : List Str) (g : List Value → List Value → List Value) (gV : List V → List V → List V) : Prop where
  ex : ∃ f fd, FnOk P w K mg base CX k f fd ps sp ∧ Meth K C m f ∧ KBinds K fd ps ks g gV
section
variable {X : Cx} {CX : CXT} {k : Nat} {C : Addr} {ps ks : List Str} {sp : Sp} {E : XK} {m : Str} {pos apos : Pos} {o : Expr} {kws : List Keyword} {ta : TE} {tk : TA} {g : List Value → List Value → List Value} {gV : List V → List V → List V}
theorem pe_mtK {pl : Sem Bool} (M : MtK X.prog X.w X.K X.mg X.base CX k C m ps sp ks g gV) (c : Cls X.K C) (ho : PE X o ta) (hr : Room k X.A) (hx : Passes CX X E) (hkw : PK X kws tk)
    (hall : (backToKw pos (keywordEach kws X.env)).all (·.1.isSome) = true := by rfl) (hks : (backToKw pos (keywordEach kws X.env)).filterMap (·.1) = ks := by rfl)
    (hpl : ((backTo pos (starEach [] X.env)).any (·.1) || (backToKw pos (keywordEach kws X.env)).any (·.1.isNone)) = false := by rfl)
    (ht : eval (.Call (.Attribute o m apos) [] kws pos) X.env = (do
      let ov ← eval o X.env
      standAt apos.atName
      let (f, first) ← holding [ov] (getMethod ov m pl)
      callWith pos f first (backTo pos (starEach [] X.env)) (backToKw pos (keywordEach kws X.env))) := by rfl) :
    PE X (.Call (.Attribute o m apos) [] kws pos) (tMethK C m sp gV E ta tk) := by
  obtain ⟨f, fd, F, hm, hb⟩ := M.ex
  exact pe_methK ho c hm F hr hb hx hkw hall hks hpl ht
end
/-- (names = .., letter = ..) behind self -/
def gSeen : List Value → List Value → List Value
  | [a], [n, l] => [a, l, n]
  | _, _ => []
def gSeenV : List V → List V → List V
  | [a], [n, l] => [a, l, n]
  | _, _ => []
end Fb

set_option Elab.async false
set_option linter.all false
set_option maxRecDepth 100000
set_option maxHeartbeats 4000000
namespace K1
open PySem PySem.Spec PyProof.Rows L2 Fb RZ
theorem lettersBut {K : PySem.W.Frag} {CL a b l : Addr} {H H' : Hp} {ps : List (Str × Str)} (B : BagAt l H b) (x : But b H H') (h : LettersAt K CL H a ps) : LettersAt K CL H' a ps := by
  obtain ⟨_, _, _, _, _, h9, _⟩ := B.at_
  obtain ⟨dx, tn, ts, ta, d, h1, h2, h3, h4, h5⟩ := h
  refine ⟨dx, tn, ts, ta, d, x.at (fun z => by rw [z, h9] at h1; cases h1) h1, ?_, bag_noTup B h3 fun _ _ hc e => x.at hc e, bag_noTup B h4 fun _ _ hc e => x.at hc e, x.at (fun z => by rw [z, h9] at h5; cases h5) h5⟩
  obtain ⟨o, g, r⟩ := h2
  exact ⟨o, x.at (fun z => by rw [z, h9] at g; cases g) g, r⟩
abbrev sTwice : Stmt := top 49
section
variable {P : Program} {w : World} {K : PySem.W.Frag} {mg : Str → Option Value} {base : Heap} {C : Str → Addr} {CL : Addr}
abbrev NTwice : List Str := ["bag", "abc", "parts", "word", "tags", "part", "names", "k", "due", "tag"]
theorem scTwice : FnScope NTwice ["bag", "abc", "parts"] (defScope sTwice) := ⟨rfl, rfl, rfl, by decide +kernel, rfl, by decide +kernel, by decide +kernel⟩
def spTwice (K : PySem.W.Frag) (CL : Addr) : Sp := fun vs H Q _ => ∃ (b l a p : Addr) (ps : List (Str × Str)), vs = [.ref b, .ref a, .ref p] ∧ BagAt l H b ∧ GoodPs ps ∧ LettersAt K CL H a ps ∧ PartsAt K (L2.del H b) p ps ∧ ∀ H', BagAt l H' b → But b H H' → Q (.bl true) H'
def teWord (K : PySem.W.Frag) : TE := tOp rIxS (tVar 3) (tBM K "list" (rIndex K) (tVar 4) (tCons (tVar 9) tNil))
theorem ok_twice {f : Addr} {fd : FuncData} (F : Fun K "_law_seen_twice_so" "_law_seen_twice_so" sTwice f fd) (L : LC K mg CL) (M : Mt P w K mg base (L2.CX P w) 3 CL "seen" ["self", "letter", "names"] (spSeenM K C CL)) (MK : MtK P w K mg base (L2.CX P w) 3 CL "seen" ["self", "letter", "names"] (spSeenM K C CL) ["names", "letter"] gSeen gSeenV) (D : RD P w K mg base 1 "_law_draw" ["bag", "size"] spDraw) (O : RD P w K mg base 2 "_law_of" ["bag", "things"] (spOf K)) (RL : RD P w K mg base 4 "_law_like" ["told", "due"] (spLike K 3)) (RI : RD P w K mg base 1 "_law_listed" ["parts"] (spListed K))
    (mn : mg "len" = none) (mr : mg "range" = none) (mt : mg "tuple" = none) : FnOk P w K mg base CX0 5 f fd ["bag", "abc", "parts"] (spTwice K CL) := by
  refine F.ok scTwice (fun vs H Q E h => ?_) (fun cdv A outer s H vs Q E hr h => ?_)
  · obtain ⟨b, l, a, p, ps, rfl, _⟩ := h
    rfl
  obtain ⟨b, l, a, p, ps, rfl, B, G, hL, ⟨ts, hp, hps⟩, q⟩ := h
  have hr1 := hr.mono (by decide : 1 ≤ 4)
  have hr2 := hr.mono (by decide : 2 ≤ 4)
  have hr3 := hr.mono (by decide : 3 ≤ 4)
  refine ⟨_, pss_cons (ps_asg (pe_tup (pa_cons (pe_rd O hr2 rfl pass0 (pa_cons (pv 0) (pa_cons (pe_rd RI hr1 rfl pass0 (pa_cons (pv 2) pa_nil)) pa_nil))) (pa_cons (pe_lc (own := [("part", 5)]) (g := gName 5) (tt := tYes) (te := tOp (rIxT K) (tVar 5) (tC (.int 0))) rfl scTwice.nd (pi_list (pv 2)) (blkOk_by (N := NTwice) (sc := defScope sTwice) (by decide +kernel))
            (fun _ _ _ _ _ => pg_name (i := 5) scTwice.nd rfl (Or.inl rfl)) (fun _ _ _ _ _ => pts_nil) (fun _ _ _ _ _ => pe_ix ix_tup (pv 5) pe_int (fun _ _ => rfl))) pa_nil))) (pg_tup rfl (pgs_cons (pg_name (i := 3) scTwice.nd rfl (Or.inr rfl)) (pgs_cons (pg_name (i := 4) scTwice.nd rfl (Or.inr rfl)) pgs_nil))))
    (pss_cons (ps_setLc (i := 6) (own := [("k", 7)]) (g := gName 7) (tt := tYes) (te := tCall (spOf K) [] E0 (tCons (tVar 0) (tCons (tVar 4) tNil))) rfl scTwice.nd rfl rfl (sw_true rfl rfl rfl (by decide +kernel)) (pi_range1 rfl mr (pa_cons (pe_op op_add pe_int (pe_rd D hr1 rfl pass0 (pa_cons (pv 0) (pa_cons pe_int pa_nil)))) pa_nil)) (blkOk_by (N := NTwice) (sc := defScope sTwice) (by decide +kernel))
        (fun _ _ _ _ _ => pg_name (i := 7) scTwice.nd rfl (Or.inl rfl)) (fun _ _ _ _ _ => pts_nil) (fun _ _ _ _ _ => pe_rd O hr2 rfl pass0 (pa_cons (pv 0) (pa_cons (pv 4) pa_nil))))
    (pss_cons (ps_expr (pe_bm PySem.F.plainAttrs_list PySem.F.slot_list_insert PySem.F.type_list_insert mt_insert (pv 6) (pa_cons (pe_rd D hr1 rfl pass0 (pa_cons (pv 0) (pa_cons (pe_op op_add (pe_callB call_len_seq rfl mn PySem.boot_len (pa_cons (pv 6) pa_nil)) pe_int) pa_nil))) (pa_cons (pe_ix ix_list (pv 6) pe_int (fun _ _ => rfl)) pa_nil))))
    (pss_cons (ps_set (i := 8) scTwice.nd rfl (Or.inl rfl) (pe_join pe_str (pe_lc (own := [("tag", 9)]) (g := gName 9) (tt := tYes) (te := teWord K) rfl scTwice.nd (pi_list (pv 6)) (blkOk_by (N := NTwice) (sc := defScope sTwice) (by decide +kernel))
        (fun _ _ _ _ _ => pg_name (i := 9) scTwice.nd rfl (Or.inl rfl)) (fun _ _ _ _ _ => pts_nil) (fun _ _ _ _ _ => pe_ix ix_str (pv 3) (pe_bm PySem.F.plainAttrs_list PySem.F.slot_list_index PySem.F.type_list_index mt_index (pv 4) (pa_cons (pv 9) pa_nil)) (fun _ _ => rfl)))))
    (pss_one (ps_ret (pe_rd RL hr rfl pass0 (pa_cons (pe_lst (pa_cons (pe_mt M L.cl (pv 1) hr3 passF (pa_cons (pv 3) (pa_cons (pv 6) pa_nil))) (pa_cons (pe_mtK MK L.cl (pv 1) hr3 passF (pk_cons (pe_callTy call_tuple_of rfl mt (by decide +kernel) (pa_cons (pv 6) pa_nil)) (pk_cons (pv 3) pk_nil))) pa_nil))) (pa_cons (pe_lst (pa_cons (pv 8) (pa_cons (pv 8) pa_nil))) pa_nil)))))))), ?_⟩
  have hz2 : sizeLine = 16777216 := sizeLine_eq
  have hlen := hps.len
  have hfew := G.few
  have hpos : 0 < ps.length := List.length_pos_iff.mpr G.ne
  have hcount := G.count
  have hsome := G.some
  have pB : ∀ {Hn : Hp}, But b H Hn → SqL K Hn p (ts.map V.ref) := fun x => Same.undel.seq (Same.seq x hp)
  have psB : ∀ {Hn : Hp}, But b H Hn → PairsAt K Hn ts ps := fun x => (hps.same x).same Same.undel
  refine ⟨_, rfl, _, rfl, p, ps, rfl, ⟨ts, pB But.refl, psB But.refl⟩, GoodPs.few' G, fun m H1 s1 hm0 hm => ?_⟩
  refine ⟨b, l, .ref m, (lettersOf ps).length, (fun y => ∃ z : Str, y = .str z ∧ z ∈ lettersOf ps), rfl, B.same s1, hsome, by omega, .inl ⟨m, _, rfl, B.ne hm0, .inl (SqL.of hm), List.length_map .., fun y hy => ?_⟩, fun y H2 hy B2 b2 => ?_⟩
  · obtain ⟨z, hz, rfl⟩ := List.mem_map.mp hy
    exact ⟨z, rfl, hz⟩
  obtain ⟨z, rfl, hzm⟩ := hy
  have bt2 := (But.of s1).trans b2
  have hzl := G.lenLetters hzm
  have hzlow := G.lowLetters hzm
  refine ⟨_, rfl, p, rfl, ⟨_, pB bt2⟩, fun Dt hDt => lc_list (xs := ts.map V.ref) (PvTexts (·.1) ps H2 Dt) ⟨by rw [List.take_zero]; exact upd_same, same_new hDt _⟩ (fun i Hi _ pv => pv.2.seq (pB bt2)) ?_ ?_⟩
  · intro i y Hi hi pv
    obtain ⟨t, ht, rfl⟩ : ∃ t, ts[i]? = some t ∧ V.ref t = y := by
      rw [List.getElem?_map] at hi
      exact Option.map_eq_some_iff.mp hi
    obtain ⟨r9, hr9, hrt9⟩ := ((psB bt2).same pv.2).get ht
    refine ⟨rfl, _, rfl, t, _, 0, .str r9.1, rfl, rfl, hrt9, rfl, _, pv.1, ?_, pv.step hDt hr9⟩
    rw [List.length_map, List.length_map, List.length_take]
    omega
  rintro H3 ⟨dt3, s3⟩
  rw [List.length_map, hlen, List.take_of_length_le (Nat.le_refl _)] at dt3
  have hDtb : Dt ≠ b := B2.ne hDt
  refine ⟨(by show 2 ≤ sizeLine; decide), fun t ht => ⟨t, _, rfl, SqT.of upd_same, rfl, .str z, _, rfl, .ref Dt, _, rfl, rfl, ?_⟩⟩
  have B3 := (B2.same s3).new ht (.tup [.str z, .ref Dt])
  have bt3 := bt2.trans (But.of (s3.trans (same_new ht (.tup [.str z, .ref Dt]))))
  have dt := (same_new ht (.tup [.str z, .ref Dt])) _ _ dt3
  generalize upd H3 t (.tup [.str z, .ref Dt]) = H4 at B3 bt3 dt ⊢
  clear dt3 s3 bt2 b2 s1 hm hm0 ht hDt
  -- some names
  refine ⟨_, rfl, b, l, 4, rfl, B3, by decide, by decide, fun r H5 r0 r1 B5 b5 => ⟨_, _, rfl, rfl, _, rfl, by omega, by omega, fun Dn hDn => ?_⟩⟩
  have dt5 := b5.at hDtb dt
  have bt5 := bt3.trans b5
  have hDnb : Dn ≠ b := B5.ne hDn
  have hDnl : Dn ≠ l := B5.cell hDn
  have hDtn : Dt ≠ Dn := ne_of_none dt5 hDn
  refine lc_range (lo := 0) (n := (1 + r).toNat) (fun i Hi => ∃ ns : List Str, Hi Dn = some (.lst (ns.map V.str)) ∧ ns.length = i ∧ (∀ n ∈ ns, n ∈ (ps.map (·.1) : List Str)) ∧ BagAt l Hi b ∧ But b H5 Hi) ⟨[], upd_same, rfl, fun n hn => absurd hn List.not_mem_nil, B5.new hDn _, But.of (same_new hDn _)⟩ ?_ ?_
  · rintro i Hi hi ⟨ns, g1, g2, g3, Bi, bi⟩
    refine ⟨rfl, _, rfl, _, rfl, b, l, .ref Dt, ps.length, (fun y => ∃ n : Str, y = .str n ∧ n ∈ (ps.map (·.1) : List Str)), rfl, Bi, hpos, by omega, .inl ⟨Dt, _, rfl, hDtb, .inl (SqL.of (bi.at hDtb dt5)), by rw [List.length_map, List.length_map], fun y hy => ?_⟩, fun y Hj hy Bj bj => ?_⟩
    · obtain ⟨n, hn, rfl⟩ := List.mem_map.mp hy
      exact ⟨n, rfl, hn⟩
    · obtain ⟨n, rfl, hn⟩ := hy
      refine ⟨_, bj.at hDnb g1, by rw [List.length_map]; omega, ns ++ [n], by rw [List.map_append]; exact upd_same, by rw [List.length_append, g2]; rfl, fun x hx => ?_, Bj.skip hDnb hDnl _, but_new (bi.trans bj) hDn⟩
      rcases List.mem_append.mp hx with hx | hx
      · exact g3 x hx
      · rw [List.mem_singleton.mp hx]
        exact hn
  rintro H6 ⟨ns, hn6, hnl, hns, B6, b6⟩
  have bt6 := bt5.trans b6
  have dt6 := b6.at hDtb dt5
  have hnH : H Dn = none := Fb.but_free bt5 B5 hDn
  have hn1 : 0 < ns.length := by omega
  have hn4 : ns.length ≤ 4 := by omega
  have hat0 : atI (ns.map V.str) 0 = some (.str ns[0]) := atI_nat (j := 0) (by rw [List.getElem?_map, List.getElem?_eq_getElem hn1]; rfl)
  refine ⟨_, rfl, .inl ⟨rfl, _, SqL.of hn6⟩, _, rfl, _, rfl, Dn, _, rfl, .inl (SqL.of hn6), _, _, rfl, rfl, b, l, _, rfl, B6, by rw [List.length_map]; omega, by rw [List.length_map]; omega, fun x H7 x0 x1 B7 b7 => ?_⟩
  rw [List.length_map] at x1
  have hn7 := b7.at hDnb hn6
  have dt7 := b7.at hDtb dt6
  refine ⟨_, rfl, Dn, _, 0, _, rfl, rfl, SqL.of hn7, hat0, Dn, _, x, _, rfl, rfl, hn7, by rw [List.length_map]; omega, x0, by omega, ?_⟩
  have hin : (ns.map V.str).take x.toNat ++ [V.str ns[0]] ++ (ns.map V.str).drop x.toNat = (ns.take x.toNat ++ [ns[0]] ++ ns.drop x.toNat).map V.str := by
    rw [List.map_append, List.map_append, List.map_take, List.map_drop]
    rfl
  rw [hin]
  have h2len : (ns.take x.toNat ++ [ns[0]] ++ ns.drop x.toNat).length ≤ 5 := by
    rw [List.length_append, List.length_append, List.length_take, List.length_drop]
    show min _ _ + 1 + _ ≤ 5
    omega
  have h2all : ∀ n ∈ ns.take x.toNat ++ [ns[0]] ++ ns.drop x.toNat, n ∈ (ps.map (·.1) : List Str) := fun n hn => by
    rcases List.mem_append.mp hn with hn | hn
    · rcases List.mem_append.mp hn with hn | hn
      · exact hns n (List.mem_of_mem_take hn)
      · rw [List.mem_singleton.mp hn]
        exact hns _ (List.getElem_mem hn1)
    · exact hns n (List.mem_of_mem_drop hn)
  generalize ns.take x.toNat ++ [ns[0]] ++ ns.drop x.toNat = ns2 at h2len h2all
  have bt8 : But b H (upd H7 Dn (.lst (ns2.map V.str))) := but_new (bt6.trans b7) hnH
  have B8 : BagAt l (upd H7 Dn (.lst (ns2.map V.str))) b := B7.skip hDnb hDnl _
  have hn8 : upd H7 Dn (.lst (ns2.map V.str)) Dn = some (.lst (ns2.map V.str)) := upd_same
  have dt8 : upd H7 Dn (.lst (ns2.map V.str)) Dt = some (.lst ((ps.map (·.1)).map V.str)) := (upd_ne hDtn).trans dt7
  generalize upd H7 Dn (.lst (ns2.map V.str)) = H8 at bt8 B8 hn8 dt8 ⊢
  clear hin hn7 dt7 hat0 hn6 b7 B7 x1 x0 bt6 dt6 b6 B6 hns hnl hn1 hn4 bt5 dt5 b5 B5 bt3 B3 dt B2
  have hzcl : z.cps.toList.length = z.length := by simp [Str.length]
  have hzps : z.length = ps.length := by
    have := listed_word hzm
    rw [List.length_map] at this
    exact this
  refine ⟨⟨_, rfl⟩, _, rfl, Dn, rfl, ⟨_, SqL.of hn8⟩, fun Dj hDj => lc_list (xs := ns2.map V.str) (PvG (fun n => V.str (⟨#[signAt ps z n]⟩ : Str)) ns2 H8 Dj) (PvG.start hDj) (fun i Hi _ pv => pv.2.seq (SqL.of hn8)) ?_ ?_⟩
  · intro i y Hi hy pv
    rw [List.getElem?_map] at hy
    obtain ⟨n, hn, rfl⟩ := Option.map_eq_some_iff.mp hy
    obtain ⟨e1, e2, e3⟩ := nameAt_get (h2all n (List.mem_of_getElem? hn))
    have hat : atI z.cps.toList ((nameAt ps n : Nat) : Int) = some (signAt ps z n) := by
      refine atI_nat ?_
      unfold signAt
      rw [List.getD_eq_getElem?_getD, List.getElem?_eq_getElem (by omega)]
      rfl
    have gt : ((ps.map (·.1)).map V.str)[nameAt ps n]? = some (.str n) := by rw [List.getElem?_map, e1]; rfl
    refine ⟨rfl, _, rfl, _, rfl, .inl ⟨rfl, _, SqL.of (pv.2 _ _ dt8)⟩, _, rfl, Dt, _, .str n, nameAt ps n, .str n, rfl, rfl, SqL.of (pv.2 _ _ dt8), rfl, Fb.flat_strs _, gt, by simp [eqV], fun j z' hj hz' => ?_, z, _, _, rfl, rfl, by omega, hat, _, pv.1, ?_, pv.step hDj hn⟩
    · rw [List.getElem?_map] at hz'
      obtain ⟨u, hu, rfl⟩ := Option.map_eq_some_iff.mp hz'
      have hne : u ≠ n := fun e => e3 j hj (by rw [hu, e])
      simp [eqV, hne]
    · rw [List.length_map, List.length_take]
      omega
  rintro H9 pv
  have hj9 := pv.fin (by rw [List.length_map]; exact Nat.le_refl _)
  have s9 := pv.2
  refine ⟨_, Dj, ns2.map fun n => (⟨#[signAt ps z n]⟩ : Str), rfl, rfl, .inl (SqL.of (by rw [List.map_map]; exact hj9)), ?_, ?_⟩
  · have e := sum_ones (ns2.map fun n => (⟨#[signAt ps z n]⟩ : Str)) fun y hy => by
      obtain ⟨c, _, rfl⟩ := List.mem_map.mp hy
      rfl
    rw [e, List.length_map]
    show ns2.length + ns2.length * 0 ≤ _
    omega
  show _
  have B9 := B8.same s9
  have bt9 := bt8.trans (But.of s9)
  have hn9 := s9 _ _ hn8
  have hL9 := lettersBut B bt9 hL
  obtain ⟨dx, tn, tsg, ta, d, l1, l2, l3, l4, l5⟩ := id hL9
  have hbd : ∀ t ∈ ns2, t.length ≤ 60 ∧ Low t := fun t ht => by
    obtain ⟨r9, hr9, rfl⟩ := List.mem_map.mp (h2all t ht)
    exact ⟨Nat.le_trans (G.len r9 hr9).1 (by decide), (G.low r9 hr9).1⟩
  clear s9 pv hj9 hn8 dt8 B8 bt8 hDj
  refine ⟨_, rfl, a, dx, _, rfl, l1, rfl, _, rfl, _, rfl, a, Dn, z, ps, ns2, rfl, G, hL9, by omega, hzlow, .inl (SqL.of hn9), by omega, hbd, fun hn => absurd hzm hn, fun _ => ⟨fun i t ht hn _ => absurd (h2all t (List.mem_of_getElem? ht)) hn, fun _ Ha sa => ?_⟩⟩
  refine ⟨_, rfl, a, dx, _, rfl, sa _ _ l1, rfl, _, rfl, Dn, _, rfl, .inl ⟨SqL.of (sa _ _ hn9), fun tt htt => ?_⟩⟩
  have sb := sa.trans (same_new htt (.tup (ns2.map V.str)))
  refine ⟨_, rfl, a, tt, z, ps, ns2, rfl, G, hL9.same sb, by omega, hzlow, .inr (SqT.of upd_same), by omega, hbd, fun hn => absurd hzm hn, fun _ => ⟨fun i t ht hn _ => absurd (h2all t (List.mem_of_getElem? ht)) hn, fun _ Hc sc => ?_⟩⟩
  refine ⟨(by show 2 ≤ sizeLine; decide), fun q1 hq1 => ⟨_, rfl, _, rfl, (by show 2 ≤ sizeLine; decide), fun q2 hq2 => ?_⟩⟩
  have s99 := (sb.trans sc).trans ((same_new hq1 (.lst [.str (seenT ps z ns2), .str (seenT ps z ns2)])).trans (same_new hq2 (.lst [.str (seenT ps z ns2), .str (seenT ps z ns2)])))
  refine ⟨.ref q1, .ref q2, .list [.str (seenT ps z ns2), .str (seenT ps z ns2)], rfl, .lst (SqL.of ((same_new hq2 _) _ _ upd_same)) (.cons (.str _) (.cons (.str _) .nil)), .lst (SqL.of upd_same) (.cons (.str _) (.cons (.str _) .nil)), ?_, fun H' s' => q H' (B9.same (s99.trans s')) (bt9.trans (But.of (s99.trans s')))⟩
  refine .lst (by show 2 ≤ 10000; decide) fun d hd => ?_
  simp only [List.mem_cons, List.not_mem_nil, or_false] at hd
  rcases hd with rfl | rfl <;> exact .str _
end
end K1

set_option Elab.async false
set_option linter.all false
set_option maxRecDepth 100000
set_option maxHeartbeats 4000000
/-! what stays when lambdas are made: all but the bag and the tables of code objects -/
namespace Fb
open PySem PySem.Spec PyProof.Rows L2 LamX
structure Gro (b : Addr) (H H' : Hp) : Prop where
  at_ : ∀ a o, a ≠ b → H a = some o → (∀ ps : Array Value, o ≠ .tbl ps) → H' a = some o
  none_ : ∀ a, H' a = none → H a = none
theorem Gro.refl {b : Addr} {H : Hp} : Gro b H H := ⟨fun _ _ _ e _ => e, fun _ e => e⟩
theorem Gro.trans {b : Addr} {H H' H'' : Hp} (x : Gro b H H') (y : Gro b H' H'') : Gro b H H'' := ⟨fun a o hb e n => y.at_ a o hb (x.at_ a o hb e n) n, fun a e => x.none_ a (y.none_ a e)⟩
theorem Gro.ofBut {b l : Addr} {H H' : Hp} (B : BagAt l H' b) (x : But b H H') : Gro b H H' := ⟨fun a o hb e _ => x.at hb e, fun a e => Fb.but_free x B e⟩
theorem Gro.ofSame {b : Addr} {H H' : Hp} (s : Same H H') : Gro b H H' := ⟨fun a o _ e _ => s _ _ e, fun _ e => s.free e⟩
theorem Gro.ofExt {b : Addr} {H H' : Hp} (s : ExtN H H') (n : ∀ b, H' b = none → H b = none) : Gro b H H' := ⟨fun a o _ e q => s a o e q, n⟩
theorem tabs_same {T : List (Addr × Str)} {H H' : Hp} (h : Tabs T H) (s : Same H H') : Tabs T H' := fun p hp => by
  obtain ⟨ps, a1, a2, a3⟩ := h p hp
  exact ⟨ps, s _ _ a1, a2, fun p' cv hcv => by
    obtain ⟨c0, e1, e2⟩ := a3 p' cv hcv
    exact ⟨c0, e1, s _ _ e2⟩⟩
theorem tabs_but {T : List (Addr × Str)} {l b : Addr} {H H' : Hp} (B : BagAt l H b) (h : Tabs T H) (x : But b H H') : Tabs T H' := fun p hp => by
  obtain ⟨_, _, _, _, _, h9, _⟩ := B.at_
  obtain ⟨ps, a1, a2, a3⟩ := h p hp
  exact ⟨ps, x.at (fun z => by rw [z, h9] at a1; cases a1) a1, a2, fun p' cv hcv => by
    obtain ⟨c0, e1, e2⟩ := a3 p' cv hcv
    exact ⟨c0, e1, x.at (fun z => by rw [z, h9] at e2; cases e2) e2⟩⟩
theorem bag_ext {l b : Addr} {H H' : Hp} (B : BagAt l H b) (s : ExtN H H') : BagAt l H' b := by
  obtain ⟨ns, i, big, seed, cnt, h1, h2, r⟩ := B.at_
  exact ⟨ns, i, big, seed, cnt, s _ _ h1 (fun _ e => nomatch e), s _ _ h2 (fun _ e => nomatch e), r⟩
theorem Gro.seqT {K : PySem.W.Frag} {l b t : Addr} {H H' : Hp} {xs : List V} (B : BagAt l H b) (x : Gro b H H') (h : SqT K H t xs) : SqT K H' t xs := by
  obtain ⟨_, _, _, _, _, h9, _⟩ := B.at_
  rcases h with (h | ⟨o, h⟩) | h
  · exact .inl (.inl (x.at_ _ _ (fun z => by rw [z, h9] at h; cases h) h (fun _ e => nomatch e)))
  · exact .inl (.inr ⟨o, x.at_ _ _ (fun z => by rw [z, h9] at h; cases h) h (fun _ e => nomatch e)⟩)
  · exact .inr h
theorem Gro.pairs {K : PySem.W.Frag} {l b : Addr} {H H' : Hp} (B : BagAt l H b) (x : Gro b H H') : ∀ {ts : List Addr} {ps : List (Str × Str)}, PairsAt K H ts ps → PairsAt K H' ts ps
  | [], [], _ => trivial
  | _ :: _, _ :: _, q => ⟨x.seqT B q.1, Gro.pairs B x q.2⟩
/-- a list that is no bag stays -/
theorem Gro.seqL {K : PySem.W.Frag} {b p : Addr} {H H' : Hp} {xs : List V} (x : Gro b H H') (h : SqL K (L2.del H b) p xs) : SqL K (L2.del H' b) p xs := by
  have go : ∀ o, L2.del H b p = some o → (∀ ps : Array Value, o ≠ .tbl ps) → L2.del H' b p = some o := fun o e n => by
    by_cases hb : p = b
    · rw [hb, L2.del_same] at e
      cases e
    · rw [L2.del_ne hb] at e ⊢
      exact x.at_ _ _ hb e n
  rcases h with (h | ⟨o, h⟩) | h
  · exact .inl (.inl (go _ h (fun _ e => nomatch e)))
  · exact .inl (.inr ⟨o, go _ h (fun _ e => nomatch e)⟩)
  · exact .inr h
theorem Gro.parts {K : PySem.W.Frag} {l b p : Addr} {H H' : Hp} {ps : List (Str × Str)} (B : BagAt l H b) (B' : BagAt l H' b) (x : Gro b H H') (h : PartsAt K (L2.del H b) p ps) : PartsAt K (L2.del H' b) p ps := by
  obtain ⟨ts, h1, h2⟩ := h
  exact ⟨ts, x.seqL h1, bag_pairsDel B' (x.pairs B (h2.same Same.undel))⟩
end Fb
namespace K1
open PySem PySem.Spec PyProof.Rows L2 Fb RZ
theorem lettersGro {K : PySem.W.Frag} {CL a b l : Addr} {H H' : Hp} {ps : List (Str × Str)} (B : BagAt l H b) (x : Gro b H H') (h : LettersAt K CL H a ps) : LettersAt K CL H' a ps := by
  obtain ⟨_, _, _, _, _, h9, _⟩ := B.at_
  obtain ⟨dx, tn, ts, ta, d, h1, h2, h3, h4, h5⟩ := h
  refine ⟨dx, tn, ts, ta, d, x.at_ _ _ (fun z => by rw [z, h9] at h1; cases h1) h1 (fun _ e => nomatch e), ?_, x.seqT B h3, x.seqT B h4, x.at_ _ _ (fun z => by rw [z, h9] at h5; cases h5) h5 (fun _ e => nomatch e)⟩
  obtain ⟨o, g, r⟩ := h2
  exact ⟨o, x.at_ _ _ (fun z => by rw [z, h9] at g; cases g) g (fun _ e => nomatch e), r⟩
end K1

set_option Elab.async false
set_option linter.all false
set_option maxRecDepth 100000
set_option maxHeartbeats 4000000
namespace Fb
open PySem PySem.Spec PyProof.Rows L2
/-- a def whose code object is known (it makes lambdas) -/
structure FunC (K : PySem.W.Frag) (x qual : Str) (st : Stmt) (f : Addr) (fd : FuncData) (c : Addr) : Prop where
  ex : ∃ (oc : Value) (od : Option Addr) (kV doc pm : Value) (an : Option Addr) (ct : Value) (osl : Array (Option Value)), fd = PySem.W.fnOf x qual (defArgs st) (defBody st) (defScope st) .none kV doc pm an (.ref c) ct ∧
    K.lookup f = some ⟨oc, od, .func fd, osl⟩ ∧ PySem.W.codeIn K (.ref c) qual = true
theorem FunC.ok {P : Program} {w : World} {K : PySem.W.Frag} {mg : Str → Option Value} {base : Heap} {x qual : Str} {st : Stmt} {f : Addr} {fd : FuncData} {c : Addr} {N ps : List Str} {k : Nat} {sp : Sp} (F : FunC K x qual st f fd c) (S : FnScope N ps (defScope st)) (len : ∀ vs H Q E, sp vs H Q E → vs.length = ps.length)
    (hbody : ∀ (A : Around) (outer : List Env) (s : Shared) (H : Hp) (vs : List V) (Q : VK) (E : XK), Room k (A.deeper (envOfC qual (defScope st) s.heap.objs.size f (.ref c))) → sp vs H Q E →
      ∃ t, PSs (cxOf CX0 P w K mg base N qual (defScope st) f (.ref c) A outer s H E).nox (defBody st) t ∧ t { nx := fun _ H' => Q .non H', rt := Q } (L2.start N vs) H) : FnOk P w K mg base CX0 (k + 1) f fd ps sp := by
  obtain ⟨oc, od, kV, doc, pm, an, ct, osl, rfl, lk, hcd⟩ := F.ex
  exact fn_of lk hcd S len fun A outer s H vs Q E hr hsp => by
    obtain ⟨t, h, q⟩ := hbody A outer s H vs Q E hr hsp
    exact ⟨t, PSs.nox h, q⟩
end Fb
namespace K1
open PySem PySem.Spec PyProof.Rows L2 Fb RZ LamX
/-- _law_ask_any, as the top has made it -/
structure AskC (K : PySem.W.Frag) (mg : Str → Option Value) : Prop where
  ex : ∃ (g : Addr) (fd : FuncData), L2.Fun K "_law_ask_any" "_law_ask_any" sAsk g fd ∧ mg "_law_ask_any" = some (.ref g) ∧ PySem.W.keepIn K (.ref g) = true ∧ L2.Binds K fd ["deed"] []
theorem pe_ask {X : Cx} {C : Str → Addr} {T : List (Addr × Str)} {c P : Addr} {k : Nat} {params : Arguments} {body : Expr} {scope : Scope} {t : XK → TE} {p lpos pos : Pos} (A : AskC X.K X.mg) (MX : Ex X.K X.mg C) (RF : RdW X.prog X.w X.K X.mg X.base CX0 1 "_law_fault" ["error"] (spFault C)) (hg : Gl X "_law_ask_any")
    (TB : TabB X.base X.mg c P) (hcode : X.env.code = .ref c) (hmT : (P, X.env.qual ++ "<lambda>") ∈ T) (hu : ∀ p ∈ T, p.1 = P → p.2 = X.env.qual ++ "<lambda>") (hr : Room (k + 2) X.A) (L : LamG X.N X.env.scope scope) (hdef : Dfl0 X params body scope)
    (hbody : ∀ (A : Around) (outer : List Env) (s : Shared) (H : Hp) (E : XK) (f c' : Addr), Room k (A.deeper (lamEnv X scope s.heap.objs.size f c')) → PE (lamCx X A outer s H E scope f c') body (t E)) :
    PE X (.Call (.Name "_law_ask_any" p) [.Lambda params body scope lpos] [] pos) (tLamM T (TAsk C) t) := by
  obtain ⟨g, fd, F, hm, hk, hb⟩ := A.ex
  obtain ⟨oc, od, kV, doc, pm, an, cdv, ct, osl, rfl, lk, hcd⟩ := F.ex
  exact pe_lamG (pg := defArgs sAsk) (bg := defBody sAsk) (sg := defScope sAsk) (Ng := NAsk) (a := "deed") hg hm hk lk hcd hb scAsk rfl (.inl rfl) (ask_gives MX RF fun s => RoomH.of ((hr.deeper _).mono (by omega))) TB hcode hmT hu hr L hdef hbody
end K1

set_option Elab.async false
set_option linter.all false
set_option maxRecDepth 100000
set_option maxHeartbeats 4000000
namespace K1
open PySem PySem.Spec PyProof.Rows L2 Fb RZ LamX
abbrev sTexts : Stmt := top 47
/-- an error that _law_fault knows -/
def Known (e : Str × List V) : Prop := (e.1, flOf e.1) ∈ tbl ∧ e.2.length = (flOf e.1).length
theorem known_text : Known ("BadText", [.int 0, .str "form"]) := ⟨by decide +kernel, by decide +kernel⟩
theorem known_verdict {ps : List (Str × Str)} {e : Str × List V} (h : verdict ps = some e) : Known e := by
  have k1 : ∀ n, Known (eParts n) := fun n => ⟨by show (("TooMany" : Str), flOf "TooMany") ∈ tbl; decide +kernel, by show 2 = (flOf "TooMany").length; decide +kernel⟩
  have k2 : Known eNone := ⟨by show (("BadLetters" : Str), flOf "BadLetters") ∈ tbl; decide +kernel, by show 1 = (flOf "BadLetters").length; decide +kernel⟩
  have k3 : ∀ n, Known (ePart n) := fun n => ⟨by show (("BadLetters" : Str), flOf "BadLetters") ∈ tbl; decide +kernel, by show 1 = (flOf "BadLetters").length; decide +kernel⟩
  have k4 : ∀ n, Known (eMany n) := fun n => ⟨by show (("TooMany" : Str), flOf "TooMany") ∈ tbl; decide +kernel, by show 2 = (flOf "TooMany").length; decide +kernel⟩
  unfold verdict at h
  split at h
  · rename_i e2 he
    obtain rfl := Option.some.inj h
    unfold head at he
    split at he
    · obtain rfl := Option.some.inj he
      exact k1 _
    · split at he
      · obtain rfl := Option.some.inj he
        exact k2
      · obtain ⟨k, _, rfl⟩ := Option.map_eq_some_iff.mp he
        exact k3 _
  · split at h
    · obtain rfl := Option.some.inj h
      exact k4 _
    · cases h
/-- its values are plain -/
def Plain (e : Str × List V) : Prop := ∃ ds : List PyData, (∀ (K : PySem.W.Frag) (H : Hp), DpAll K H (errL e) ds) ∧ DK 3 (.list ds)
theorem plain_si (x y : Str) (n : Int) : Plain (x, [.str y, .int n]) := ⟨[.str x, .str y, .int n], fun _ _ => .cons (.str _) (.cons (.str _) (.cons (.int _) .nil)), .lst (by show 3 ≤ 10000; decide) fun d hd => by
  simp only [List.mem_cons, List.not_mem_nil, or_false] at hd
  rcases hd with rfl | rfl | rfl
  · exact .str _
  · exact .str _
  · exact .int _⟩
theorem plain_i (x : Str) (n : Int) : Plain (x, [.int n]) := ⟨[.str x, .int n], fun _ _ => .cons (.str _) (.cons (.int _) .nil), .lst (by show 2 ≤ 10000; decide) fun d hd => by
  simp only [List.mem_cons, List.not_mem_nil, or_false] at hd
  rcases hd with rfl | rfl
  · exact .str _
  · exact .int _⟩
theorem plain_text : Plain ("BadText", [.int 0, .str "form"]) := ⟨[.str "BadText", .int 0, .str "form"], fun _ _ => .cons (.str _) (.cons (.int _) (.cons (.str _) .nil)), .lst (by show 3 ≤ 10000; decide) fun d hd => by
  simp only [List.mem_cons, List.not_mem_nil, or_false] at hd
  rcases hd with rfl | rfl | rfl
  · exact .str _
  · exact .int _
  · exact .str _⟩
theorem plain_verdict {ps : List (Str × Str)} {e : Str × List V} (h : verdict ps = some e) : Plain e := by
  unfold verdict at h
  split at h
  · rename_i e2 he
    obtain rfl := Option.some.inj h
    unfold head at he
    split at he
    · obtain rfl := Option.some.inj he
      exact plain_si _ _ _
    · split at he
      · obtain rfl := Option.some.inj he
        exact plain_i _ _
      · obtain ⟨k, _, rfl⟩ := Option.map_eq_some_iff.mp he
        exact plain_i _ _
  · split at h
    · obtain rfl := Option.some.inj h
      exact plain_si _ _ _
    · cases h
theorem dueT_cases {z : Str} {e : Str × List V} (h : dueT z = some e) : Known e ∧ Plain e ∧ (readable z = false → e = (("BadText" : Str), [V.int 0, V.str "form"])) ∧ (readable z = true → verdict (readPs z) = some e) := by
  unfold dueT at h
  by_cases hr : readable z = true
  · rw [if_pos hr] at h
    exact ⟨known_verdict h, plain_verdict h, fun q => (by rw [hr] at q; cases q), fun _ => h⟩
  · rw [if_neg hr] at h
    obtain rfl := Option.some.inj h
    exact ⟨known_text, plain_text, fun _ => rfl, fun q => absurd q hr⟩
theorem dueT_none {z : Str} (h : dueT z = none) : readable z = true ∧ verdict (readPs z) = none := by
  unfold dueT at h
  by_cases hr : readable z = true
  · rw [if_pos hr] at h
    exact ⟨hr, h⟩
  · rw [if_neg hr] at h
    cases h
theorem pairsExt {K : PySem.W.Frag} {H H' : Hp} (s : ExtN H H') : ∀ {ts : List Addr} {ps : List (Str × Str)}, PairsAt K H ts ps → PairsAt K H' ts ps
  | [], [], _ => trivial
  | _ :: _, _ :: _, q => ⟨by
      rcases q.1 with (h | ⟨o, h⟩) | h
      · exact .inl (.inl (s _ _ h (fun _ e => nomatch e)))
      · exact .inl (.inr ⟨o, s _ _ h (fun _ e => nomatch e)⟩)
      · exact .inr h, pairsExt s q.2⟩
theorem partsExt {K : PySem.W.Frag} {H H' : Hp} {p : Addr} {ps : List (Str × Str)} (s : ExtN H H') (h : PartsAt K H p ps) : PartsAt K H' p ps := by
  obtain ⟨ts, h1, h2⟩ := h
  refine ⟨ts, ?_, pairsExt s h2⟩
  rcases h1 with (h | ⟨o, h⟩) | h
  · exact .inl (.inl (s _ _ h (fun _ e => nomatch e)))
  · exact .inl (.inr ⟨o, s _ _ h (fun _ e => nomatch e)⟩)
  · exact .inr h
theorem raises_ask {C : Str → Addr} {H : Hp} {Q : VK} {e : Str × List V} (k : Known e) (q : ∀ (l : Addr) (H' : Hp), Same H H' → H l = none → H' l = some (.lst (errL e)) → Q (.ref l) H') : Raises C H (EAsk C Q) e :=
  fun d H' s _ hx => ⟨e.1, flOf e.1, e.2, d, rfl, k.1, k.2, rfl, hx, fun l H'' s2 hn hat => q l H'' (s.trans s2) (s.free hn) hat⟩
section
variable {P : Program} {w : World} {K : PySem.W.Frag} {mg : Str → Option Value} {base : Heap} {C : Str → Addr} {CL : Addr}
abbrev NTexts : List Str := ["bag", "parts", "text", "k", "spot", "sign", "bent", "due", "new", "told"]
theorem scTexts : FnScope NTexts ["bag", "parts"] (defScope sTexts) := ⟨rfl, rfl, rfl, by decide +kernel, rfl, by decide +kernel, by decide +kernel⟩
abbrev qTexts : Str := "_law_texts_so" ++ ".<locals>." ++ "<lambda>"
def spTexts (K : PySem.W.Frag) (T : List (Addr × Str)) : Sp := fun vs H Q _ => ∃ (b l p : Addr) (ps : List (Str × Str)), vs = [.ref b, .ref p] ∧ BagAt l H b ∧ GoodPs ps ∧ PartsAt K (L2.del H b) p ps ∧ Tabs T H ∧ ∀ H', BagAt l H' b → Gro b H H' → Tabs T H' → Q (.bl true) H'
theorem ok_texts {f c Pt : Addr} {fd : FuncData} {T : List (Addr × Str)} (F : FunC K "_law_texts_so" "_law_texts_so" sTexts f fd c) (A1 : AskC K mg) (MX : Ex K mg C) (RF : RdW P w K mg base CX0 1 "_law_fault" ["error"] (spFault C)) (TB : TabB base mg c Pt) (hmT : (Pt, qTexts) ∈ T) (hu : ∀ p ∈ T, p.1 = Pt → p.2 = qTexts)
    (D : RD P w K mg base 1 "_law_draw" ["bag", "size"] spDraw) (O : RD P w K mg base 2 "_law_of" ["bag", "things"] (spOf K)) (RL : RD P w K mg base 4 "_law_like" ["told", "due"] (spLike K 3)) (RT : RD P w K mg base 1 "_law_parts_text" ["parts"] (spPartsText K)) (RDT : RD P w K mg base 3 "_law_due_text" ["text"] (spDueT K)) (RR : Rd P w K mg base (L2.CX P w) 6 "read_letters" ["text"] (spRead K C CL)) (RS : RD P w K mg base 7 "_law_told_so" ["bag", "abc", "parts"] (spToldSo K CL))
    (mn : mg "len" = none) (mr : mg "range" = none) : FnOk P w K mg base CX0 9 f fd ["bag", "parts"] (spTexts K T) := by
  refine F.ok scTexts (fun vs H Q E h => ?_) (fun A outer s H vs Q E hr h => ?_)
  · obtain ⟨b, l, p, ps, rfl, _⟩ := h
    rfl
  obtain ⟨b, l, p, ps, rfl, B, G, ⟨ts, hp, hps⟩, hT, q⟩ := h
  have hr1 := hr.mono (by decide : 1 ≤ 8)
  have hr2 := hr.mono (by decide : 2 ≤ 8)
  have hr3 := hr.mono (by decide : 3 ≤ 8)
  have hr4 := hr.mono (by decide : 4 ≤ 8)
  have hr7 := hr.mono (by decide : 7 ≤ 8)
  refine ⟨_, pss_cons (ps_set (i := 2) scTexts.nd rfl (Or.inl rfl) (pe_rd RT hr1 rfl pass0 (pa_cons (pv 1) pa_nil)))
    (pss_cons (ps_for PassesOwn.never rfl (pi_range1 rfl mr (pa_cons pe_int pa_nil)) (pg_name (i := 3) scTexts.nd rfl (Or.inl rfl))
      (pss_cons (ps_set (i := 4) scTexts.nd rfl (Or.inl rfl) (pe_rd D hr1 rfl pass0 (pa_cons (pv 0) (pa_cons (pe_op op_add (pe_callB call_len_str rfl mn PySem.boot_len (pa_cons (pv 2) pa_nil)) pe_int) pa_nil))))
      (pss_cons (ps_set (i := 5) scTexts.nd rfl (Or.inl rfl) (pe_rd O hr2 rfl pass0 (pa_cons (pv 0) (pa_cons (pe_lst (pa_cons pe_str (pa_cons pe_str (pa_cons pe_str (pa_cons pe_str (pa_cons pe_str (pa_cons pe_str (pa_cons pe_str (pa_cons pe_str (pa_cons pe_str pa_nil)))))))))) pa_nil))))
      (pss_cons (ps_set (i := 6) scTexts.nd rfl (Or.inr rfl) (pe_rd O hr2 rfl pass0 (pa_cons (pv 0) (pa_cons (pe_lst (pa_cons (pe_op op_add_str (pe_op op_add_str (pe_slice sl_str (pv 2) po_none (po_some (pv 4))) (pv 5)) (pe_slice sl_str (pv 2) (po_some (pv 4)) po_none))
          (pa_cons (pe_op op_add_str (pe_slice sl_str (pv 2) po_none (po_some (pv 4))) (pe_slice sl_str (pv 2) (po_some (pe_op op_add (pv 4) pe_int)) po_none)) (pa_cons (pe_op op_add_str (pv 2) (pv 5)) (pa_cons (pe_op op_add_str (pv 5) (pv 2)) pa_nil))))) pa_nil))))
      (pss_cons (ps_asg (pe_rd RDT hr3 rfl pass0 (pa_cons (pv 6) pa_nil)) (pg_tup rfl (pgs_cons (pg_name (i := 7) scTexts.nd rfl (Or.inl rfl)) (pgs_cons (pg_name (i := 8) scTexts.nd rfl (Or.inl rfl)) pgs_nil))))
      (pss_cons (ps_set (i := 9) scTexts.nd rfl (Or.inl rfl) (pe_ask (k := 6) (T := T) (t := fun E => tCall (spRead K C CL) [] E (tCons (tVar 6) tNil)) A1 MX RF rfl TB rfl hmT hu hr (lamG_by (N := NTexts) (sc := defScope sTexts) (by decide +kernel)) (.inl ⟨rfl, fun _ _ _ _ _ _ => rfl⟩) (fun A' outer' s' H' E' f' c' hr' => pe_rd RR hr' rfl (passes_call (takes_of rfl rfl rfl rfl) fun _ _ _ _ h => h) (pa_cons (pv 6) pa_nil))))
      (pss_cons (ps_if (PW.pt (pw_and (pt_cmpR op_notN (pv 7) pe_non (nomark _)) (pw_and1 (pt_not (pt_val (pe_rd RL hr4 rfl pass0 (pa_cons (pv 9) (pa_cons (pv 7) pa_nil)))))))) (pss_one (ps_ret pe_bl)) pss_nil)
      (pss_one (ps_if (PW.pt (pw_and (pt_cmpR op_isN (pv 7) pe_non (nomark _)) (pw_and1 (PW.pt (pw_or (pt_cmpR op_ne (pe_ix ix_list (pv 9) pe_int (fun _ _ => rfl)) pe_str (nomark _)) (pw_or1 (pt_not (pt_val (pe_rd RS hr7 rfl pass0 (pa_cons (pv 0) (pa_cons (pe_ix ix_list (pv 9) pe_int (fun _ _ => rfl)) (pa_cons (pv 8) pa_nil))))))))))))
        (pss_one (ps_ret pe_bl)) pss_nil)))))))))
    (pss_one (ps_ret (pe_rd RL hr4 rfl pass0 (pa_cons (pe_ask (k := 6) (T := T) (t := fun E => tCall (spRead K C CL) [] E (tCons (tC (.str "")) tNil)) A1 MX RF rfl TB rfl hmT hu hr (lamG_by (N := NTexts) (sc := defScope sTexts) (by decide +kernel)) (.inl ⟨rfl, fun _ _ _ _ _ _ => rfl⟩) (fun A' outer' s' H' E' f' c' hr' => pe_rd RR hr' rfl (passes_call (takes_of rfl rfl rfl rfl) fun _ _ _ _ h => h) (pa_cons pe_str pa_nil))) (pa_cons (pe_lst (pa_cons pe_str (pa_cons pe_int (pa_cons pe_str pa_nil)))) pa_nil)))))), ?_⟩
  have hz2 : sizeLine = 16777216 := sizeLine_eq
  have htx := G.text95
  have pPB : PartsAt K H p ps := ⟨ts, Same.undel.seq hp, hps.same Same.undel⟩
  refine ⟨_, rfl, p, ps, rfl, pPB, GoodPs.small' G, fun H1 s1 => ?_⟩
  refine ⟨5, rfl, by decide, by decide, for_range (n := 5) (fun i σ Hi => BagAt l Hi b ∧ Gro b H Hi ∧ Tabs T Hi ∧ ∃ v3 v4 v5 v6 v7 v8 v9 : Option V, σ = [some (.ref b), some (.ref p), some (.str (partsText ps)), v3, v4, v5, v6, v7, v8, v9]) ⟨B.same s1, Gro.ofSame s1, tabs_same hT s1, _, _, _, _, _, _, _, rfl⟩ ?_ ?_⟩
  · rintro i _ Hi hi ⟨Bi, gi, Ti, v3, v4, v5, v6, v7, v8, v9, rfl⟩
    generalize partsText ps = z at htx
    refine ⟨_, rfl, _, rfl, z, rfl, by omega, _, _, rfl, rfl, b, l, _, rfl, Bi, by omega, by omega, fun r H2 r0 r1 B2 b2 => ?_⟩
    obtain ⟨k, rfl⟩ : ∃ k : Nat, r = (k : Int) := ⟨r.toNat, by omega⟩
    refine ⟨_, rfl, (by show 9 ≤ sizeLine; decide), fun p1 hp1 => ⟨b, l, .ref p1, 9, (fun y => ∃ u : Str, y = .str u ∧ u.length ≤ 4), rfl, B2.new hp1 _, by decide, by decide, .inl ⟨p1, _, rfl, B2.ne hp1, .inl (SqL.of upd_same), rfl, fun y hy => ?_⟩, fun y H3 hy B3 b3 => ?_⟩⟩
    · simp only [List.mem_cons, List.not_mem_nil, or_false] at hy
      rcases hy with rfl | rfl | rfl | rfl | rfl | rfl | rfl | rfl | rfl <;> exact ⟨_, rfl, by decide⟩
    obtain ⟨sg, rfl, hsg⟩ := hy
    have bt3 := b2.trans ((But.of (same_new hp1 _)).trans b3)
    have c1 := cutS_to_len (z := z) (k := k)
    have c2 := cutS_from_len (z := z) (k := k) (by omega)
    have c3 := cutS_length z (some ((k : Int) + 1)) none
    refine ⟨_, rfl, _, rfl, _, rfl, _, rfl, z, rfl, by omega, _, rfl, _, _, rfl, rfl, by omega, _, rfl, _, rfl, _, rfl, z, rfl, by omega, _, _, rfl, rfl, (by rw [strLen_append]; omega), ?_⟩
    refine ⟨_, rfl, _, rfl, _, rfl, z, rfl, by omega, _, rfl, _, rfl, _, _, rfl, rfl, _, rfl, z, rfl, by omega, _, _, rfl, rfl, by omega, ?_⟩
    refine ⟨_, rfl, _, rfl, _, _, rfl, rfl, by omega, _, rfl, _, rfl, _, _, rfl, rfl, by omega, (by show 4 ≤ sizeLine; decide), fun p2 hp2 => ?_⟩
    refine ⟨b, l, .ref p2, 4, (fun y => ∃ u : Str, y = .str u ∧ u.length ≤ 99), rfl, B3.new hp2 _, by decide, by decide, .inl ⟨p2, _, rfl, B3.ne hp2, .inl (SqL.of upd_same), rfl, fun y hy => ?_⟩, fun y H4 hy B4 b4 => ?_⟩
    · simp only [List.mem_cons, List.not_mem_nil, or_false] at hy
      have c4 : k + 1 ≤ z.length → (cutS z (some ((k : Int) + 1)) none).length + (k + 1) = z.length := fun h => cutS_from_len (z := z) (k := k + 1) h
      rcases hy with rfl | rfl | rfl | rfl
      · exact ⟨_, rfl, by rw [strLen_append, strLen_append]; omega⟩
      · refine ⟨_, rfl, ?_⟩
        rw [strLen_append]
        by_cases hk : k + 1 ≤ z.length
        · have := c4 hk
          omega
        · have e : (cutS z (some ((k : Int) + 1)) none).length = 0 := by
            have e1 : TL.tl (cutS z (some (((k + 1 : Nat) : Int))) none) = (TL.tl z).drop (k + 1) := cutS_fromN
            have e2 : ((k : Int) + 1) = ((k + 1 : Nat) : Int) := by omega
            rw [e2, str_len, e1, List.length_drop, ← str_len]
            omega
          omega
      · exact ⟨_, rfl, by rw [strLen_append]; omega⟩
      · exact ⟨_, rfl, by rw [strLen_append]; omega⟩
    obtain ⟨bent, rfl, hbent⟩ := hy
    have bt4 := bt3.trans ((But.of (same_new hp2 _)).trans b4)
    have g4 := gi.trans (Gro.ofBut B4 bt4)
    have T4 := tabs_but Bi Ti bt4
    clear bt4 b4 hp2 bt3 b3 hp1 b2 c1 c2 c3
    have Tq : Room 8 _ := hr
    refine ⟨_, rfl, bent, rfl, hbent, fun hd t m H5 s5 ht5 hm5 => ?_, fun e hd t lD m H5 s5 ht5 hl5 => ?_⟩
    · obtain ⟨hr1', hv⟩ := dueT_none hd
      refine ⟨t, _, rfl, ht5, rfl, .non, _, rfl, .ref m, _, rfl, rfl, tabs_same T4 s5, fun H6 e6 n6 T6 => ⟨_, rfl, bent, rfl, hbent, fun q => (by rw [hr1'] at q; cases q), fun _ => ⟨fun _ a H7 s7 ha hL7 => ⟨by decide, fun l9 hl9 => ?_⟩, fun e he => (by rw [hv] at he; cases he)⟩⟩⟩
      have g7 := ((g4.trans (Gro.ofSame s5)).trans (Gro.ofExt e6 n6)).trans (Gro.ofSame (s7.trans (same_new hl9 (.lst [.str "told", .ref a]))))
      have T8 := tabs_same T6 (s7.trans (same_new hl9 (.lst [.str "told", .ref a])))
      have B8 := (bag_ext (B4.same s5) e6).same (s7.trans (same_new hl9 (.lst [.str "told", .ref a])))
      have hL8 := hL7.same (same_new hl9 (.lst [.str "told", .ref a]))
      have hm8 := (partsExt e6 hm5).same (s7.trans (same_new hl9 (.lst [.str "told", .ref a])))
      have hl8 : upd H7 l9 (.lst [.str "told", .ref a]) l9 = some (.lst [.str "told", .ref a]) := upd_same
      generalize upd H7 l9 (.lst [.str "told", .ref a]) = H8 at g7 T8 B8 hL8 hm8 hl8 ⊢
      refine ⟨_, rfl, rfl, _, rfl, iteF ⟨_, rfl, rfl, _, rfl, iteT ⟨_, rfl, l9, _, 0, .str "told", rfl, rfl, SqL.of hl8, rfl, rfl, _, rfl, iteF ⟨_, rfl, _, rfl, l9, _, 1, .ref a, rfl, rfl, SqL.of hl8, rfl, _, rfl, b, a, m, readPs bent, rfl, GoodPs.of hv, hL8, hm8, fun H9 s9 => ⟨_, rfl, iteF ⟨B8.same s9, g7.trans (Gro.ofSame s9), tabs_same T8 s9, _, _, _, _, _, _, _, rfl⟩⟩⟩⟩⟩⟩
    · obtain ⟨kn, ⟨ds, hds, hdk⟩, ef, et⟩ := dueT_cases hd
      refine ⟨t, _, rfl, ht5, rfl, .ref lD, _, rfl, .ref m, _, rfl, rfl, tabs_same T4 s5, fun H6 e6 n6 T6 => ?_⟩
      have hl6 : H6 lD = some (.lst (errL e)) := e6 _ _ hl5 (fun _ e => nomatch e)
      have B6 := bag_ext (B4.same s5) e6
      have g6 := (g4.trans (Gro.ofSame s5)).trans (Gro.ofExt e6 n6)
      refine ⟨_, rfl, bent, rfl, hbent, fun q => ?_, fun q => ⟨fun hv => (by rw [et q] at hv; cases hv), fun e' he' => ?_⟩⟩
      · obtain rfl := ef q
        refine raises_ask kn fun l9 H7 s7 hl9 hat9 => ?_
        refine ⟨_, rfl, rfl, _, rfl, iteY rfl ⟨_, rfl, _, rfl, .ref l9, .ref lD, .list ds, rfl, .lst (SqL.of hat9) (hds _ _), .lst (SqL.of (s7 _ _ hl6)) (hds _ _), hdk, fun H8 s8 => ⟨_, rfl, iteF ⟨_, rfl, rfl, _, rfl, iteN rfl ⟨B6.same (s7.trans s8), g6.trans (Gro.ofSame (s7.trans s8)), tabs_same T6 (s7.trans s8), _, _, _, _, _, _, _, rfl⟩⟩⟩⟩⟩
      · obtain rfl : e = e' := Option.some.inj ((et q).symm.trans he')
        refine raises_ask kn fun l9 H7 s7 hl9 hat9 => ?_
        refine ⟨_, rfl, rfl, _, rfl, iteY rfl ⟨_, rfl, _, rfl, .ref l9, .ref lD, .list ds, rfl, .lst (SqL.of hat9) (hds _ _), .lst (SqL.of (s7 _ _ hl6)) (hds _ _), hdk, fun H8 s8 => ⟨_, rfl, iteF ⟨_, rfl, rfl, _, rfl, iteN rfl ⟨B6.same (s7.trans s8), g6.trans (Gro.ofSame (s7.trans s8)), tabs_same T6 (s7.trans s8), _, _, _, _, _, _, _, rfl⟩⟩⟩⟩⟩
  · rintro _ Hi ⟨Bi, gi, Ti, v3, v4, v5, v6, v7, v8, v9, rfl⟩
    obtain ⟨ds, hds, hdk⟩ := plain_text
    refine ⟨Ti, fun H6 e6 n6 T6 => ⟨"", rfl, by decide, fun _ => raises_ask known_text fun l9 H7 s7 hl9 hat9 => ?_, fun q => absurd q (by decide +kernel)⟩⟩
    refine ⟨(by show 3 ≤ sizeLine; decide), fun l2 hl2 => ⟨.ref l9, .ref l2, .list ds, rfl, .lst (SqL.of ((same_new hl2 _) _ _ hat9)) (hds _ _), .lst (SqL.of upd_same) (hds _ _), hdk, fun H8 s8 => q H8 ((bag_ext Bi e6).same (s7.trans ((same_new hl2 _).trans s8))) ((gi.trans (Gro.ofExt e6 n6)).trans (Gro.ofSame (s7.trans ((same_new hl2 _).trans s8)))) (tabs_same T6 (s7.trans ((same_new hl2 _).trans s8)))⟩⟩
end
end K1

set_option Elab.async false
set_option linter.all false
set_option maxRecDepth 100000
set_option maxHeartbeats 4000000
/-! the law's signs at some parts are the method's -/
namespace Fb
open PySem PySem.Spec PyProof.Rows L2
theorem seenUp_eq {ps : List (Str × Str)} {w tag told : Str} (hn : (ps.map (·.1)).Nodup) (ht : tag ∈ ps.map (·.1)) : ∀ n, n ≤ ps.length → seenUp ps w tag n told = if nameAt ps tag < n then told ++ ⟨#[signAt ps w tag]⟩ else told
  | 0, _ => by
    rw [if_neg (Nat.not_lt_zero _)]
    rfl
  | n + 1, h => by
    have ih := seenUp_eq (told := told) (w := w) hn ht n (by omega)
    have hl : n < ps.length := by omega
    have hg := List.getElem?_eq_getElem hl
    have hd : ps.getD n ("", "") = ps[n] := by
      rw [List.getD_eq_getElem?_getD, hg]
      rfl
    unfold seenUp
    rw [hd, ih]
    by_cases e : ps[n].1 = tag
    · have hna : nameAt ps tag = n := by rw [← e]; exact nameAt_of hn hg
      rw [if_pos e, hna, if_neg (Nat.lt_irrefl n), if_pos (Nat.lt_succ_self n)]
      unfold signAt
      rw [hna]
    · rw [if_neg e]
      have hne : nameAt ps tag ≠ n := fun z => by
        obtain ⟨g, _, _⟩ := nameAt_get ht
        rw [z, List.getElem?_map, hg] at g
        exact e (Option.some.inj g)
      by_cases hlt : nameAt ps tag < n
      · rw [if_pos hlt, if_pos (by omega)]
      · rw [if_neg hlt, if_neg (by omega)]
theorem seen_fold {ps : List (Str × Str)} {w : Str} (hn : (ps.map (·.1)).Nodup) : ∀ (names : List Str) (told : Str), (∀ t ∈ names, t ∈ ps.map (·.1)) → TL.tl (names.foldl (fun told tag => seenUp ps w tag ps.length told) told) = TL.tl told ++ names.map (signAt ps w)
  | [], told, _ => by simp
  | t :: r, told, h => by
    have ht := h t List.mem_cons_self
    obtain ⟨_, hl, _⟩ := nameAt_get ht
    rw [List.foldl_cons, seen_fold hn r _ fun x hx => h x (List.mem_cons_of_mem _ hx), seenUp_eq hn ht ps.length (Nat.le_refl _), if_pos hl, TL.tl_append, List.append_assoc]
    rfl
theorem seenAll_eq {ps : List (Str × Str)} {w : Str} {names : List Str} (hn : (ps.map (·.1)).Nodup) (h : ∀ t ∈ names, t ∈ ps.map (·.1)) : seenAll ps w names = seenT ps w names := by
  apply tl_inj
  have e1 : names.map (fun n => (⟨#[signAt ps w n]⟩ : Str)) = (names.map (signAt ps w)).map fun c => (⟨#[c]⟩ : Str) := by
    rw [List.map_map]
    rfl
  unfold seenAll seenT
  rw [seen_fold hn names _ h, e1, join_ones]
  rfl
end Fb

set_option Elab.async false
set_option linter.all false
set_option maxRecDepth 100000
set_option maxHeartbeats 4000000
/-! an expression by what it gives, then what follows -/
namespace Fb
open PySem PySem.Spec PyProof.Rows L2 LamX
def tCutE (te : TE) : TE := fun σ H Q => ∃ R : V → Hp → Prop, (∀ Q' : VK, (∀ v H', R v H' → Q' v H') → te σ H Q') ∧ ∀ v H', R v H' → Q v H'
theorem pe_cut {X : Cx} {e : Expr} {te : TE} (h : PE X e te) : PE X e (tCutE te) := ⟨fun pins s σ H Q I ⟨_, h1, h2⟩ => h.run pins s σ H Q I (h1 Q h2)⟩
end Fb

set_option Elab.async false
set_option linter.all false
set_option maxRecDepth 100000
set_option maxHeartbeats 4000000
namespace K1
open PySem PySem.Spec PyProof.Rows L2 Fb RZ LamX
abbrev sStrange : Stmt := top 45
section
variable {P : Program} {w : World} {K : PySem.W.Frag} {mg : Str → Option Value} {base : Heap} {C : Str → Addr} {CL : Addr}
abbrev NStrange : List Str := ["bag", "abc", "parts", "mine", "tags", "part", "k", "word", "due", "names", "wrong", "tag", "kept"]
theorem scStrange : FnScope NStrange ["bag", "abc", "parts"] (defScope sStrange) := ⟨rfl, rfl, rfl, by decide +kernel, rfl, by decide +kernel, by decide +kernel⟩
abbrev qStrange : Str := "_law_strangers_so" ++ ".<locals>." ++ "<lambda>"
def spStrange (K : PySem.W.Frag) (CL : Addr) (T : List (Addr × Str)) : Sp := fun vs H Q _ => ∃ (b l a p : Addr) (ps : List (Str × Str)), vs = [.ref b, .ref a, .ref p] ∧ BagAt l H b ∧ GoodPs ps ∧ LettersAt K CL H a ps ∧ PartsAt K (L2.del H b) p ps ∧ Tabs T H ∧ ∀ H', BagAt l H' b → Gro b H H' → Tabs T H' → Q (.bl true) H'
/-- what stays through a turn -/
structure SI (K : PySem.W.Frag) (CL b l a p m Dt : Addr) (ps : List (Str × Str)) (T : List (Addr × Str)) (H0 H : Hp) : Prop where
  B : BagAt l H b
  g : Gro b H0 H
  T : Tabs T H
  m : H m = some (.lst ((lettersOf ps).map V.str))
  d : H Dt = some (.lst ((ps.map (·.1)).map V.str))
  L : LettersAt K CL H a ps
  p : PartsAt K (L2.del H b) p ps
section
variable {b l a p m Dt : Addr} {ps : List (Str × Str)} {T : List (Addr × Str)} {H0 H H' : Hp}
theorem SI.gro (h : SI K CL b l a p m Dt ps T H0 H) (hm : m ≠ b) (hd : Dt ≠ b) (x : Gro b H H') (B' : BagAt l H' b) (T' : Tabs T H') : SI K CL b l a p m Dt ps T H0 H' :=
  ⟨B', h.g.trans x, T', x.at_ _ _ hm h.m (fun _ e => nomatch e), x.at_ _ _ hd h.d (fun _ e => nomatch e), lettersGro h.B x h.L, Gro.parts h.B B' x h.p⟩
theorem SI.same (h : SI K CL b l a p m Dt ps T H0 H) (hm : m ≠ b) (hd : Dt ≠ b) (s : Same H H') : SI K CL b l a p m Dt ps T H0 H' := h.gro hm hd (Gro.ofSame s) (h.B.same s) (tabs_same h.T s)
theorem SI.but (h : SI K CL b l a p m Dt ps T H0 H) (hm : m ≠ b) (hd : Dt ≠ b) (B' : BagAt l H' b) (x : But b H H') : SI K CL b l a p m Dt ps T H0 H' := h.gro hm hd (Gro.ofBut B' x) B' (tabs_but h.B h.T x)
theorem SI.ext (h : SI K CL b l a p m Dt ps T H0 H) (hm : m ≠ b) (hd : Dt ≠ b) (e : ExtN H H') (n : ∀ b, H' b = none → H b = none) (T' : Tabs T H') : SI K CL b l a p m Dt ps T H0 H' := h.gro hm hd (Gro.ofExt e n) (bag_ext h.B e) T'
end
theorem plain_s (x y : Str) : Plain (x, [.str y]) := ⟨[.str x, .str y], fun _ _ => .cons (.str _) (.cons (.str _) .nil), .lst (by show 2 ≤ 10000; decide) fun d hd => by
  simp only [List.mem_cons, List.not_mem_nil, or_false] at hd
  rcases hd with rfl | rfl
  · exact .str _
  · exact .str _⟩
theorem dk_bb (x y : Bool) : DK 3 (.list [.bool x, .bool y]) := .lst (by show 2 ≤ 10000; decide) fun d hd => by
  simp only [List.mem_cons, List.not_mem_nil, or_false] at hd
  rcases hd with rfl | rfl <;> exact .bl _
theorem known_number {z : Str} : Known ("BadNumber", [.str z]) := ⟨by show (("BadNumber" : Str), flOf "BadNumber") ∈ tbl; decide +kernel, by show 1 = (flOf "BadNumber").length; decide +kernel⟩
theorem known_part {z : Str} : Known ("UnknownPart", [.str z]) := ⟨by show (("UnknownPart" : Str), flOf "UnknownPart") ∈ tbl; decide +kernel, by show 1 = (flOf "UnknownPart").length; decide +kernel⟩
theorem shapedL {ys : List Str} (h : ∀ y ∈ ys, Low y) : SeqAt.shaped (.list (ys.map PyData.str)) = true := by
  show (PyData.canLay0 (.list (ys.map PyData.str)) && decide (PyData.depth (.list (ys.map PyData.str)) ≤ 64)) = true
  simp only [PyData.canLay0, PyData.depth, layStrs h, depStrs]
  rfl
theorem filter_first {p : Str → Bool} {t : Str} (ht : p t = true) : ∀ {ns : List Str} {j : Nat}, ns[j]? = some t → (∀ k < j, ∀ u, ns[k]? = some u → p u = false) → ∃ r, ns.filter p = t :: r
  | [], j, h, _ => by simp at h
  | x :: r, 0, h, _ => by
    obtain rfl : x = t := by simpa using h
    exact ⟨_, List.filter_cons_of_pos ht⟩
  | x :: r, j + 1, h, hb => by
    have hx : p x = false := hb 0 (Nat.succ_pos j) x rfl
    rw [List.filter_cons_of_neg (by rw [hx]; decide)]
    exact filter_first ht (ns := r) (j := j) (by simpa using h) fun k hk u hu => hb (k + 1) (by omega) u (by simpa using hu)
theorem partsUndel {K : PySem.W.Frag} {H : Hp} {b p : Addr} {ps : List (Str × Str)} (h : PartsAt K (L2.del H b) p ps) : PartsAt K H p ps := by
  obtain ⟨ts, h1, h2⟩ := h
  exact ⟨ts, Same.undel.seq h1, h2.same Same.undel⟩
def eTold (v : V) : Str × List V := ("told", [v])
def eNum (z : Str) : Str × List V := ("BadNumber", [.str z])
def eUnk (z : Str) : Str × List V := ("UnknownPart", [.str z])
/-- a word of a list, all fit to be a name asked for -/
def Words (ns : List Str) : Prop := ns.length ≤ 6 ∧ ∀ t ∈ ns, t.length ≤ 60 ∧ Low t
def PvKnown (tags ns : List Str) (H : Hp) (D : Addr) (i : Nat) (Hi : Hp) : Prop := Hi D = some (.lst (((ns.take i).filter fun t => !decide (t ∈ tags)).map V.str)) ∧ Same H Hi
theorem ok_strange {f c Pt : Addr} {fd : FuncData} {T : List (Addr × Str)} {gP gS : List Value → List Value → List Value} {vP vS : List V → List V → List V} (F : FunC K "_law_strangers_so" "_law_strangers_so" sStrange f fd c) (A1 : AskC K mg) (MX : Ex K mg C) (RF : RdW P w K mg base CX0 1 "_law_fault" ["error"] (spFault C)) (TB : TabB base mg c Pt) (hmT : (Pt, qStrange) ∈ T) (hu : ∀ p ∈ T, p.1 = Pt → p.2 = qStrange)
    (L : LC K mg CL) (M : Ms P w K mg base C CL) (MP : MtK P w K mg base (L2.CX P w) 3 CL "place" ["self", "letter"] (spPlace K C CL) ["letter"] gP vP) (MS : MtK P w K mg base (L2.CX P w) 3 CL "signs_of" ["self", "name"] (spSignsOf K C CL) ["name"] gS vS) (ME : Mt P w K mg base (L2.CX P w) 3 CL "seen" ["self", "letter", "names"] (spSeenM K C CL))
    (D : RD P w K mg base 1 "_law_draw" ["bag", "size"] spDraw) (O : RD P w K mg base 2 "_law_of" ["bag", "things"] (spOf K)) (N : RD P w K mg base 3 "_law_name" ["bag"] spName) (RO : RD P w K mg base 3 "_law_odd" ["bag", "mine"] (spOdd K)) (RN : RD P w K mg base 2 "_law_some_names" ["bag", "parts"] (spSomeNames K)) (RL : RD P w K mg base 4 "_law_like" ["told", "due"] (spLike K 3)) (RI : RD P w K mg base 1 "_law_listed" ["parts"] (spListed K)) (RE : RD P w K mg base 1 "_law_seen" ["parts", "word", "names"] (spSeen K))
    (hvP : ∀ x y : V, vP [x] [y] = [x, y]) (hvS : ∀ x y : V, vS [x] [y] = [x, y]) (mn : mg "len" = none) (mr : mg "range" = none) (mt : mg "tuple" = none) (ms : mg "set" = none) : FnOk P w K mg base CX0 9 f fd ["bag", "abc", "parts"] (spStrange K CL T) := by
  refine F.ok scStrange (fun vs H Q E h => ?_) (fun A outer s H vs Q E hr h => ?_)
  · obtain ⟨b, l, a, p, ps, rfl, _⟩ := h
    rfl
  obtain ⟨b, l, a, p, ps, rfl, B, G, hL, ⟨ts, hp, hps⟩, hT, q⟩ := h
  have hr1 := hr.mono (by decide : 1 ≤ 8)
  have hr2 := hr.mono (by decide : 2 ≤ 8)
  have hr3 := hr.mono (by decide : 3 ≤ 8)
  have hr4 := hr.mono (by decide : 4 ≤ 8)
  have hU : (A.deeper (envOfC "_law_strangers_so" (defScope sStrange) s.heap.objs.size f (.ref c))).units + 64 < cLine := by have := hr.un; omega
  have hr5 : Room (3 + 2) (A.deeper (envOfC "_law_strangers_so" (defScope sStrange) s.heap.objs.size f (.ref c))) := hr.mono (by decide : 5 ≤ 8)
  refine ⟨_, pss_cons (ps_set (i := 3) scStrange.nd rfl (Or.inl rfl) (pe_rd RI hr1 rfl pass0 (pa_cons (pv 2) pa_nil)))
    (pss_cons (ps_set (i := 4) scStrange.nd rfl (Or.inr rfl) (pe_lc (own := [("part", 5)]) (g := gName 5) (tt := tYes) (te := tOp (rIxT K) (tVar 5) (tC (.int 0))) rfl scStrange.nd (pi_list (pv 2)) (blkOk_by (N := NStrange) (sc := defScope sStrange) (by decide +kernel)) (fun _ _ _ _ _ => pg_name (i := 5) scStrange.nd rfl (Or.inl rfl)) (fun _ _ _ _ _ => pts_nil) (fun _ _ _ _ _ => pe_ix ix_tup (pv 5) pe_int (fun _ _ => rfl))))
    (pss_cons (ps_for PassesOwn.never rfl (pi_range1 rfl mr (pa_cons pe_int pa_nil)) (pg_name (i := 6) scStrange.nd rfl (Or.inl rfl))
      (pss_cons (ps_set (i := 7) scStrange.nd rfl (Or.inr rfl) (pe_rd O hr2 rfl pass0 (pa_cons (pv 0) (pa_cons (pe_lst (pa_cons (pe_rd RO hr3 rfl pass0 (pa_cons (pv 0) (pa_cons (pv 3) pa_nil))) (pa_cons (pe_rd O hr2 rfl pass0 (pa_cons (pv 0) (pa_cons (pv 3) pa_nil))) pa_nil))) pa_nil))))
      (pss_cons (ps_if (pt_not (pt_val (pe_rd RL hr4 rfl pass0 (pa_cons (pe_lst (pa_cons (pe_mt M.is_ L.cl (pv 1) hr1 pass0 (pa_cons (pv 7) pa_nil)) (pa_cons (pe_cmpR (op_inO (Mt.own M.cont pass0) hr1) (pv 7) (pv 1) rfl) pa_nil))) (pa_cons (pe_lst (pa_cons (pe_cmpR op_in_seq (pv 7) (pv 3) rfl) (pa_cons (pe_cmpR op_in_seq (pv 7) (pv 3) rfl) pa_nil))) pa_nil))))) (pss_one (ps_ret pe_bl)) pss_nil)
      (pss_cons (ps_set (i := 8) scStrange.nd rfl (Or.inl rfl) (pe_cut (pe_ifExp (pt_cmpR op_in_seq (pv 7) (pv 3) rfl) (pe_lst (pa_cons (pe_str) (pa_cons (pe_bm PySem.F.plainAttrs_list PySem.F.slot_list_index PySem.F.type_list_index mt_index (pv 3) (pa_cons (pv 7) pa_nil)) pa_nil))) (pe_lst (pa_cons (pe_str) (pa_cons (pv 7) pa_nil))))))
      (pss_cons (ps_if (pt_not (pt_val (pe_rd RL hr4 rfl pass0 (pa_cons (pe_cut (pe_ask (k := 3) (T := T) (t := fun E => tMethK CL "place" (spPlace K C CL) vP E (tVar 1) (tCons (tVar 7) tNil)) A1 MX RF rfl TB rfl hmT hu hr5 (lamG_by (N := NStrange) (sc := defScope sStrange) (by decide +kernel)) (.inl ⟨rfl, fun _ _ _ _ _ _ => rfl⟩) (fun A' outer' s' H' E' f' c' hr' => pe_mtK MP L.cl (pv 1) hr' (passes_call (takes_of rfl rfl rfl rfl) fun _ _ _ _ h => h) (pk_cons (pv 7) pk_nil)))) (pa_cons (pv 8) pa_nil))))) (pss_one (ps_ret pe_bl)) pss_nil)
      (pss_cons (ps_set (i := 9) scStrange.nd rfl (Or.inr rfl) (pe_rd RN hr2 rfl pass0 (pa_cons (pv 0) (pa_cons (pv 2) pa_nil))))
      (pss_cut (ps_if (pt_cmpR op_eq (pe_rd D hr1 rfl pass0 (pa_cons (pv 0) (pa_cons (pe_int) pa_nil))) pe_int (nomark _)) (pss_one (ps_expr (pe_bm PySem.F.plainAttrs_list PySem.F.slot_list_insert PySem.F.type_list_insert mt_insert (pv 9) (pa_cons (pe_rd D hr1 rfl pass0 (pa_cons (pv 0) (pa_cons (pe_op op_add (pe_callB call_len_seq rfl mn PySem.boot_len (pa_cons (pv 9) pa_nil)) pe_int) pa_nil))) (pa_cons (pe_rd O hr2 rfl pass0 (pa_cons (pv 0) (pa_cons (pe_lst (pa_cons (pe_rd N hr3 rfl pass0 (pa_cons (pv 0) pa_nil)) (pa_cons (pe_str) (pa_cons (pe_str) (pa_cons (pe_op op_add_str (pe_ix ix_list (pv 4) pe_int (fun _ _ => rfl)) pe_str) pa_nil))))) pa_nil))) pa_nil))))) pss_nil)
      (pss_cut (ps_if (pt_cmpR op_lt (Fb.pe_lenSet rfl mn rfl ms (pv 9)) (pe_callB call_len_seq rfl mn PySem.boot_len (pa_cons (pv 9) pa_nil)) (nomark _)) (pss_one (ps_set (i := 9) scStrange.nd rfl (Or.inr rfl) (pe_lst pa_nil))) pss_nil)
      (pss_cons (ps_setLc (i := 10) (own := [("tag", 11)]) (g := gName 11) (tt := tTest (tOp (rIn K true) (tVar 11) (tVar 4))) (te := tVar 11) rfl scStrange.nd rfl rfl (sw_true rfl rfl rfl (by decide +kernel)) (pi_list (pv 9)) (blkOk_by (N := NStrange) (sc := defScope sStrange) (by decide +kernel)) (fun _ _ _ _ _ => pg_name (i := 11) scStrange.nd rfl (Or.inl rfl)) (fun _ _ _ _ _ => pts_one (pt_cmpR op_notIn_seq (pv 11) (pv 4) rfl)) (fun _ _ _ _ _ => pv 11))
      (pss_cut (ps_if (pt_cmpR op_notIn_seq (pv 7) (pv 3) rfl) (pss_one (ps_set (i := 8) scStrange.nd rfl (Or.inl rfl) (pe_lst (pa_cons (pe_str) (pa_cons (pv 7) pa_nil))))) (pss_one (ps_set (i := 8) scStrange.nd rfl (Or.inl rfl) (pe_ifExp (pt_cmpR (op_neD hU) (pv 10) (pe_lst pa_nil) (nomark _)) (pe_lst (pa_cons (pe_str) (pa_cons (pe_ix ix_list (pv 10) pe_int (fun _ _ => rfl)) pa_nil))) (pe_lst (pa_cons (pe_str) (pa_cons (pe_rd RE hr1 rfl pass0 (pa_cons (pv 2) (pa_cons (pv 7) (pa_cons (pv 9) pa_nil)))) pa_nil)))))))
      (pss_cons (ps_set (i := 12) scStrange.nd rfl (Or.inl rfl) (pe_callTy call_tuple_of rfl mt (by decide +kernel) (pa_cons (pv 9) pa_nil)))
      (pss_cons (ps_if (PW.pt (pw_or (pt_not (pt_val (pe_rd RL hr4 rfl pass0 (pa_cons (pe_cut (pe_ask (k := 3) (T := T) (t := fun E => tMeth CL "seen" (spSeenM K C CL) [] E (tVar 1) (tCons (tVar 7) (tCons (tVar 9) tNil))) A1 MX RF rfl TB rfl hmT hu hr5 (lamG_by (N := NStrange) (sc := defScope sStrange) (by decide +kernel)) (.inr ⟨0, _, _, "x", rfl, by decide +kernel, fun _ _ _ _ _ _ _ _ => ⟨_, rfl, rfl⟩⟩) (fun A' outer' s' H' E' f' c' hr' => pe_mt ME L.cl (pv 1) hr' (passes_call (takes_of rfl rfl rfl rfl) fun _ _ _ _ h => h) (pa_cons (pv 7) (pa_cons (pv 9) pa_nil))))) (pa_cons (pv 8) pa_nil))))) (pw_or1 (pt_cmpR (op_neD hU) (pe_callTy call_tuple_of rfl mt (by decide +kernel) (pa_cons (pv 9) pa_nil)) (pv 12) (nomark _))))) (pss_one (ps_ret pe_bl)) pss_nil)
      (pss_cons (ps_if (pt_not (pt_val (pe_rd RL hr4 rfl pass0 (pa_cons (pe_cut (pe_ask (k := 3) (T := T) (t := fun E => tMeth CL "seen" (spSeenM K C CL) [] E (tVar 1) (tCons (tVar 7) (tCons (tCB (rTupOf K) (tCons (tVar 9) tNil)) tNil))) A1 MX RF rfl TB rfl hmT hu hr5 (lamG_by (N := NStrange) (sc := defScope sStrange) (by decide +kernel)) (.inr ⟨1, _, _, "x", rfl, by decide +kernel, fun _ _ _ _ _ _ _ _ => ⟨_, rfl, rfl⟩⟩) (fun A' outer' s' H' E' f' c' hr' => pe_mt ME L.cl (pv 1) hr' (passes_call (takes_of rfl rfl rfl rfl) fun _ _ _ _ h => h) (pa_cons (pv 7) (pa_cons (pe_callTy call_tuple_of rfl mt (by decide +kernel) (pa_cons (pv 9) pa_nil)) pa_nil))))) (pa_cons (pv 8) pa_nil))))) (pss_one (ps_ret pe_bl)) pss_nil)
      (pss_cons (ps_set (i := 11) scStrange.nd rfl (Or.inr rfl) (pe_rd O hr2 rfl pass0 (pa_cons (pv 0) (pa_cons (pe_op op_cat (pv 4) (pe_lst (pa_cons (pe_rd N hr3 rfl pass0 (pa_cons (pv 0) pa_nil)) (pa_cons (pe_str) (pa_cons (pe_op op_add_str (pe_ix ix_list (pv 4) pe_int (fun _ _ => rfl)) pe_str) (pa_cons (pe_str) pa_nil)))))) pa_nil))))
      (pss_cut (ps_set (i := 8) scStrange.nd rfl (Or.inl rfl) (pe_ifExp (pt_cmpR op_in_seq (pv 11) (pv 4) rfl) (pe_lst (pa_cons (pe_str) (pa_cons (pe_ix ix_tup (pe_ix ix_list (pv 2) (pe_bm PySem.F.plainAttrs_list PySem.F.slot_list_index PySem.F.type_list_index mt_index (pv 4) (pa_cons (pv 11) pa_nil)) (fun _ _ => rfl)) pe_int (fun _ _ => rfl)) pa_nil))) (pe_lst (pa_cons (pe_str) (pa_cons (pv 11) pa_nil)))))
      (pss_one (ps_if (pt_not (pt_val (pe_rd RL hr4 rfl pass0 (pa_cons (pe_cut (pe_ask (k := 3) (T := T) (t := fun E => tMethK CL "signs_of" (spSignsOf K C CL) vS E (tVar 1) (tCons (tVar 11) tNil)) A1 MX RF rfl TB rfl hmT hu hr5 (lamG_by (N := NStrange) (sc := defScope sStrange) (by decide +kernel)) (.inr ⟨2, _, _, "x", rfl, by decide +kernel, fun _ _ _ _ _ _ _ _ => ⟨_, rfl, rfl⟩⟩) (fun A' outer' s' H' E' f' c' hr' => pe_mtK MS L.cl (pv 1) hr' (passes_call (takes_of rfl rfl rfl rfl) fun _ _ _ _ h => h) (pk_cons (pv 11) pk_nil)))) (pa_cons (pv 8) pa_nil))))) (pss_one (ps_ret pe_bl)) pss_nil)))))))))))))))))
    (pss_one (ps_ret pe_bl)))), ?_⟩
  have hz2 : sizeLine = 16777216 := sizeLine_eq
  have hlen := hps.len
  have hfew := G.few
  have hpos : 0 < ps.length := List.length_pos_iff.mpr G.ne
  have hcount := G.count
  have hsome := G.some
  have pH : SqL K H p (ts.map V.ref) := Same.undel.seq hp
  have psH : PairsAt K H ts ps := hps.same Same.undel
  refine ⟨_, rfl, p, ps, rfl, ⟨ts, pH, psH⟩, GoodPs.few' G, fun m H1 s1 hm0 hm => ?_⟩
  have pH1 := s1.seq pH
  refine ⟨_, rfl, p, rfl, ⟨_, pH1⟩, fun Dt hDt => lc_list (xs := ts.map V.ref) (PvTexts (·.1) ps H1 Dt) ⟨by rw [List.take_zero]; exact upd_same, same_new hDt _⟩ (fun i Hi _ pv => pv.2.seq pH1) ?_ ?_⟩
  · intro i y Hi hi pv
    obtain ⟨t, ht, rfl⟩ : ∃ t, ts[i]? = some t ∧ V.ref t = y := by
      rw [List.getElem?_map] at hi
      exact Option.map_eq_some_iff.mp hi
    obtain ⟨r9, hr9, hrt9⟩ := ((psH.same s1).same pv.2).get ht
    refine ⟨rfl, _, rfl, t, _, 0, .str r9.1, rfl, rfl, hrt9, rfl, _, pv.1, ?_, pv.step hDt hr9⟩
    rw [List.length_map, List.length_map, List.length_take]
    omega
  rintro H2 ⟨dt2, s2⟩
  rw [List.length_map, hlen, List.take_of_length_le (Nat.le_refl _)] at dt2
  have s02 := s1.trans s2
  have B2 := B.same s02
  have hm2 := s2 _ _ hm
  have hmb : m ≠ b := B.ne hm0
  have hDtb : Dt ≠ b := (B.same s1).ne hDt
  have hL2 := hL.same s02
  have hp2 : PartsAt K (L2.del H2 b) p ps := ⟨ts, (Same.seq (But.of s02) hp), hps.same (But.of s02)⟩
  have T2 := tabs_same hT s02
  have g2 := Gro.ofSame (b := b) s02
  clear s1 s2 hm hm0 hDt pH1 pH psH
  refine ⟨5, rfl, by decide, by decide, for_range (n := 5) (fun i σ Hi => BagAt l Hi b ∧ Gro b H2 Hi ∧ Tabs T Hi ∧ ∃ v6 v7 v8 v9 v10 v11 v12 : Option V, σ = [some (.ref b), some (.ref a), some (.ref p), some (.ref m), some (.ref Dt), none, v6, v7, v8, v9, v10, v11, v12]) ⟨B2, Gro.refl, T2, _, _, _, _, _, _, _, rfl⟩ ?_ ?_⟩
  · rintro i _ Hi hi ⟨Bi, gi, Ti, v6, v7, v8, v9, v10, v11, v12, rfl⟩
    have hmi : Hi m = some (.lst ((lettersOf ps).map V.str)) := gi.at_ _ _ hmb hm2 (fun _ e => nomatch e)
    have hdi : Hi Dt = some (.lst ((ps.map (·.1)).map V.str)) := gi.at_ _ _ hDtb dt2 (fun _ e => nomatch e)
    have hLi := lettersGro B2 gi hL2
    have hpi := Gro.parts B2 Bi gi hp2
    have hms : ∀ z ∈ lettersOf ps, 1 ≤ z.length ∧ AnyS 4 z := fun z hz => by
      have h1 := listed_word hz
      rw [List.length_map] at h1
      exact ⟨by omega, by omega, G.lowLetters hz⟩
    refine ⟨_, rfl, _, rfl, _, rfl, b, l, m, lettersOf ps, rfl, Bi, hmb, SqL.of hmi, hsome, by omega, hms, fun zo H3 azo B3 b3 => ?_⟩
    have hm3 := b3.at hmb hmi
    refine ⟨_, rfl, _, rfl, b, l, .ref m, (lettersOf ps).length, (fun y => ∃ z : Str, y = .str z ∧ z ∈ lettersOf ps), rfl, B3, hsome, by omega, .inl ⟨m, _, rfl, hmb, .inl (SqL.of hm3), List.length_map .., fun y hy => ?_⟩, fun y H4 hy B4 b4 => ?_⟩
    · obtain ⟨z, hz, rfl⟩ := List.mem_map.mp hy
      exact ⟨z, rfl, hz⟩
    obtain ⟨zl, rfl, hzl⟩ := hy
    refine ⟨(by show 2 ≤ sizeLine; decide), fun p1 hp1 => ⟨b, l, .ref p1, 2, (fun y => ∃ z : Str, y = .str z ∧ AnyS 9 z), rfl, B4.new hp1 _, by decide, by decide, .inl ⟨p1, _, rfl, B4.ne hp1, .inl (SqL.of upd_same), rfl, fun y hy => ?_⟩, fun y H5 hy B5 b5 => ?_⟩⟩
    · simp only [List.mem_cons, List.not_mem_nil, or_false] at hy
      rcases hy with rfl | rfl
      · exact ⟨_, rfl, azo⟩
      · exact ⟨_, rfl, (hms zl hzl).2.mono (by decide)⟩
    obtain ⟨z, rfl, az⟩ := hy
    have bt5 := b3.trans (b4.trans ((But.of (same_new hp1 _)).trans b5))
    have I5 : SI K CL b l a p m Dt ps T H2 H5 := ⟨B5, gi.trans (Gro.ofBut B5 bt5), tabs_but Bi Ti bt5, bt5.at hmb hmi, bt5.at hDtb hdi, lettersBut Bi bt5 hLi, hpi.same bt5⟩
    clear bt5 b5 hp1 b4 B4 hm3 B3 b3 hzl zl azo zo hpi hLi hdi hmi Ti gi Bi B5
    obtain ⟨dx, tn, tsg, ta, d, l1, l2, l3, l4, l5⟩ := id I5.L
    have hzin : inV (.str z) ((lettersOf ps).map V.str) = decide (z ∈ lettersOf ps) := inV_strs
    refine ⟨_, rfl, a, dx, _, rfl, l1, rfl, _, rfl, a, z, ps, rfl, G, I5.L, fun H6 s6 => ⟨_, rfl, _, rfl, a, dx, _, rfl, s6 _ _ l1, a, z, ps, rfl, G, I5.L.same s6, fun H7 s7 => ⟨_, rfl, (by show 2 ≤ sizeLine; decide), fun q1 hq1 => ?_⟩⟩⟩
    have s67 := (s6.trans s7).trans (same_new hq1 (.lst [.bl (decide (z ∈ lettersOf ps)), .bl (decide (z ∈ lettersOf ps))]))
    have I7 := I5.same hmb hDtb s67
    refine ⟨_, rfl, _, rfl, m, _, rfl, .inl (SqL.of I7.m), rfl, Fb.flat_strs _, _, rfl, ?_⟩
    refine ⟨_, rfl, m, _, rfl, .inl (SqL.of I7.m), rfl, Fb.flat_strs _, ?_⟩
    refine ⟨(by show 2 ≤ sizeLine; decide), fun q2 hq2 => ?_⟩
    rw [hzin]
    have hq1' : upd H7 q1 (.lst [.bl (decide (z ∈ lettersOf ps)), .bl (decide (z ∈ lettersOf ps))]) q1 = some (.lst [.bl (decide (z ∈ lettersOf ps)), .bl (decide (z ∈ lettersOf ps))]) := upd_same
    refine ⟨.ref q1, .ref q2, .list [.bool (decide (z ∈ lettersOf ps)), .bool (decide (z ∈ lettersOf ps))], rfl, .lst (SqL.of ((same_new hq2 _) _ _ hq1')) (.cons (.bl _) (.cons (.bl _) .nil)), .lst (SqL.of upd_same) (.cons (.bl _) (.cons (.bl _) .nil)), dk_bb _ _, fun H8 s8 => ⟨_, rfl, iteF ?_⟩⟩
    have I8 := I7.same hmb hDtb ((same_new hq2 _).trans s8)
    clear s8 hq2 q2 hq1' I7 s67 hq1 q1 s7 H7 s6 H6 l1 l2 l3 l4 l5 I5
    -- the place
    refine ⟨fun v H' => ∃ (du : Addr) (e : Str × List V), v = .ref du ∧ H8 du = none ∧ H' du = some (.lst (errL e)) ∧ Same H8 H' ∧ Plain e ∧ (∀ j : Nat, (lettersOf ps)[j]? = some z → e = eTold (.int j)) ∧ (z ∉ lettersOf ps → e = eNum z), fun Q' k => ?_, ?_⟩
    · refine ⟨_, rfl, _, rfl, m, _, rfl, .inl (SqL.of I8.m), rfl, Fb.flat_strs _, _, rfl, ?_⟩
      rw [hzin]
      by_cases hzm : z ∈ lettersOf ps
      · rw [decide_eq_true hzm]
        obtain ⟨j, hj⟩ := List.mem_iff_getElem?.mp hzm
        have hj2 : ((lettersOf ps).map V.str)[j]? = some (.str z) := by rw [List.getElem?_map, hj]; rfl
        refine iteT ⟨_, rfl, .inl ⟨rfl, _, SqL.of I8.m⟩, _, rfl, m, _, .str z, j, .str z, rfl, rfl, SqL.of I8.m, rfl, Fb.flat_strs _, hj2, by simp [eqV], fun j' z' hj' hz' => ?_, (by show 2 ≤ sizeLine; decide), fun du hdu => k _ _ ⟨du, eTold (.int j), rfl, hdu, upd_same, same_new hdu _, plain_i _ _, fun j2 h2 => ?_, fun hn => absurd hzm hn⟩⟩
        · rw [List.getElem?_map] at hz'
          obtain ⟨u, hu, rfl⟩ := Option.map_eq_some_iff.mp hz'
          have hne : u ≠ z := fun e => by
            subst e
            have := (List.getElem?_inj (List.getElem?_eq_some_iff.mp hu).1 G.letters).mp (hu.trans hj.symm)
            omega
          simp [eqV, hne]
        · obtain rfl : j = j2 := (List.getElem?_inj (List.getElem?_eq_some_iff.mp hj).1 G.letters).mp (hj.trans h2.symm)
          rfl
      · rw [decide_eq_false hzm]
        exact iteF ⟨_, rfl, (by show 2 ≤ sizeLine; decide), fun du hdu => k _ _ ⟨du, eNum z, rfl, hdu, upd_same, same_new hdu _, plain_s _ _, fun j2 h2 => absurd (List.mem_of_getElem? h2) hzm, fun _ => rfl⟩⟩
    rintro _ H9 ⟨du, e, rfl, hdu8, hdu9, s9, ⟨ds, hds, hdk⟩, e1, e2⟩
    have hdub : du ≠ b := I8.B.ne hdu8
    have I9 := I8.same hmb hDtb s9
    clear s9 hdu8 I8
    refine ⟨fun v H' => ∃ l9 : Addr, v = .ref l9 ∧ H' l9 = some (.lst (errL e)) ∧ H' du = some (.lst (errL e)) ∧ SI K CL b l a p m Dt ps T H2 H', fun Q' k => ?_, ?_⟩
    · refine ⟨I9.T, fun H10 e10 n10 T10 => ?_⟩
      have I10 := I9.ext hmb hDtb e10 n10 T10
      have hdu10 := e10 _ _ hdu9 (fun _ e => nomatch e)
      obtain ⟨dx, tn, tsg, ta, d, l1, l2, l3, l4, l5⟩ := id I10.L
      refine ⟨_, rfl, a, dx, _, rfl, l1, rfl, _, rfl, a, z, ps, hvP _ _, G, I10.L, by have := az.1; omega, az.2, fun j hj H11 s11 => ⟨by decide, fun l9 hl9 => ?_⟩, fun hn => raises_ask known_number fun l9 H11 s11 hl9 hat9 => ?_⟩
      · obtain rfl := e1 j hj
        exact k _ _ ⟨l9, rfl, upd_same, (s11.trans (same_new hl9 _)) _ _ hdu10, I10.same hmb hDtb (s11.trans (same_new hl9 _))⟩
      · obtain rfl := e2 hn
        exact k _ _ ⟨l9, rfl, hat9, s11 _ _ hdu10, I10.same hmb hDtb s11⟩
    rintro _ H10 ⟨l9, rfl, hl9, hdu10, I10⟩
    refine ⟨_, rfl, .ref l9, .ref du, .list ds, rfl, .lst (SqL.of hl9) (hds _ _), .lst (SqL.of hdu10) (hds _ _), hdk, fun H11 s11 => ⟨_, rfl, iteF ?_⟩⟩
    have I11 := I10.same hmb hDtb s11
    clear s11 hl9 hdu10 I10 I9 hdu9 hds hdk e1 e2 ds e hdub
    -- some names
    refine ⟨_, rfl, _, rfl, b, l, p, ps, rfl, I11.B, I11.p, by omega, fun an names H12 han0 han hnm hnl B12 b12 => ?_⟩
    have I12 := I11.but hmb hDtb B12 b12
    have hanb : an ≠ b := I11.B.ne han0
    have hanl : an ≠ l := I11.B.cell han0
    have wn : Words names := ⟨by omega, fun t ht => by
      obtain ⟨r9, hr9, rfl⟩ := List.mem_map.mp (hnm t ht)
      exact ⟨Nat.le_trans (G.len r9 hr9).1 (by decide), (G.low r9 hr9).1⟩⟩
    clear B12 hnm
    refine ⟨fun σ' H' => ∃ ns : List Str, σ' = [some (.ref b), some (.ref a), some (.ref p), some (.ref m), some (.ref Dt), none, some (.int (0 + (i : Int))), some (.str z), some (.ref du), some (.ref an), v10, v11, v12] ∧ H' an = some (.lst (ns.map V.str)) ∧ Words ns ∧ SI K CL b l a p m Dt ps T H2 H', ?_, ?_⟩
    · refine ⟨_, rfl, b, l, 3, rfl, I12.B, by decide, by decide, fun r H13 r0 r1 B13 b13 => ⟨rfl, _, rfl, ?_⟩⟩
      have I13 := I12.but hmb hDtb B13 b13
      have han13 := b13.at hanb han
      refine ite2 (fun _ => ?_) (fun _ => ⟨names, rfl, han13, wn, I13⟩)
      refine ⟨_, rfl, .inl ⟨rfl, _, SqL.of han13⟩, _, rfl, _, rfl, an, _, rfl, .inl (SqL.of han13), _, _, rfl, rfl, b, l, _, rfl, I13.B, by rw [List.length_map]; omega, by rw [List.length_map]; omega, fun x H14 x0 x1 B14 b14 => ?_⟩
      rw [List.length_map] at x1
      have I14 := I13.but hmb hDtb B14 b14
      have han14 := b14.at hanb han13
      refine ⟨_, rfl, _, rfl, b, l, rfl, B14, fun nm H15 hnm15 B15 b15 => ?_⟩
      have I15 := I14.but hmb hDtb B15 b15
      have han15 := b15.at hanb han14
      have hps0 : 0 < ps.length := hpos
      have hat0 : atI ((ps.map (·.1)).map V.str) 0 = some (.str ps[0].1) := atI_nat (j := 0) (by rw [List.getElem?_map, List.getElem?_map, List.getElem?_eq_getElem hps0]; rfl)
      have g0 := G.len _ (List.getElem_mem hps0)
      have l0 := G.low _ (List.getElem_mem hps0)
      refine ⟨_, rfl, Dt, _, 0, _, rfl, rfl, SqL.of I15.d, hat0, _, _, rfl, rfl, (by show _ + 1 ≤ sizeLine; omega), (by show 4 ≤ sizeLine; decide), fun p1 hp1 => ⟨b, l, .ref p1, 4, (fun y => ∃ t : Str, y = .str t ∧ t.length ≤ 60 ∧ Low t), rfl, B15.new hp1 _, by decide, by decide, .inl ⟨p1, _, rfl, B15.ne hp1, .inl (SqL.of upd_same), rfl, fun y hy => ?_⟩, fun y H16 hy B16 b16 => ?_⟩⟩
      · simp only [List.mem_cons, List.not_mem_nil, or_false] at hy
        rcases hy with rfl | rfl | rfl | rfl
        · exact ⟨nm, rfl, by have := (isName_len hnm15).2.1; omega, low_name hnm15⟩
        · exact ⟨_, rfl, by decide, by unfold Low; decide +kernel⟩
        · exact ⟨_, rfl, by decide, by unfold Low; decide +kernel⟩
        · refine ⟨_, rfl, by rw [strLen_append]; show _ + 1 ≤ 60; omega, fun c hc => ?_⟩
          rw [TL.tl_append] at hc
          rcases List.mem_append.mp hc with hc | hc
          · exact l0.1 c hc
          · have h9 : ∀ c ∈ TL.tl (Str.ofString "\n"), c < 1000 := by decide +kernel
            exact h9 c hc
      obtain ⟨t, rfl, ht1, ht2⟩ := hy
      have bt16 := (But.of (b := b) (same_new hp1 (.lst [.str nm, .str "", .str "NO", .str (ps[0].1 ++ Str.ofString "\n")]))).trans b16
      have I16 := I15.but hmb hDtb B16 bt16
      have han16 := bt16.at hanb han15
      refine ⟨an, _, x, _, rfl, rfl, han16, by rw [List.length_map]; omega, x0, by omega, ?_⟩
      refine ⟨names.take x.toNat ++ [t] ++ names.drop x.toNat, rfl, by rw [List.map_append, List.map_append, List.map_take, List.map_drop]; exact upd_same, ⟨?_, fun u hu => ?_⟩, ?_⟩
      · have := wn.1
        rw [List.length_append, List.length_append, List.length_take, List.length_drop]
        show min _ _ + 1 + _ ≤ 6
        omega
      · rcases List.mem_append.mp hu with hu | hu
        · rcases List.mem_append.mp hu with hu | hu
          · exact wn.2 u (List.mem_of_mem_take hu)
          · rw [List.mem_singleton.mp hu]
            exact ⟨ht1, ht2⟩
        · exact wn.2 u (List.mem_of_mem_drop hu)
      · exact I11.but hmb hDtb (B16.skip hanb hanl _) (but_new (b12.trans (b13.trans (b14.trans (b15.trans bt16)))) han0)
    rintro _ H13 ⟨ns, rfl, han13, wn13, I13⟩
    clear han wn hnl I12 I11 b12
    refine ⟨fun σ' H' => ∃ (an : Addr) (ns : List Str), σ' = [some (.ref b), some (.ref a), some (.ref p), some (.ref m), some (.ref Dt), none, some (.int (0 + (i : Int))), some (.str z), some (.ref du), some (.ref an), v10, v11, v12] ∧ an ≠ b ∧ H' an = some (.lst (ns.map V.str)) ∧ Words ns ∧ SI K CL b l a p m Dt ps T H2 H', ?_, ?_⟩
    · have hnl13 := wn13.1
      refine ⟨_, rfl, .inr ⟨an, ns, rfl, SqL.of han13, by omega, _, rfl, an, _, rfl, .inl (SqL.of han13), _, _, rfl, rfl, _, rfl, ?_⟩⟩
      refine ite2 (fun _ => ⟨(by show 0 ≤ sizeLine; decide), fun e he => ⟨e, [], rfl, I13.B.ne he, upd_same, ⟨by decide, fun t ht => absurd ht List.not_mem_nil⟩, I13.same hmb hDtb (same_new he _)⟩⟩) (fun _ => ⟨an, ns, rfl, hanb, han13, wn13, I13⟩)
    clear hanb han13 I13 wn13 hanl han0
    clear ns an
    rintro _ H14 ⟨an, ns, rfl, hanb, han14, wn14, I14⟩
    -- the wrong ones
    refine ⟨_, rfl, an, rfl, ⟨_, SqL.of han14⟩, fun Dw hDw => lc_list (xs := ns.map V.str) (PvKnown (ps.map (·.1)) ns H14 Dw) ⟨by rw [List.take_zero]; exact upd_same, same_new hDw _⟩ (fun i Hi _ pv => pv.2.seq (SqL.of han14)) ?_ ?_⟩
    · intro i' y Hi' hi' pv
      rw [List.getElem?_map] at hi'
      obtain ⟨t, ht, rfl⟩ := Option.map_eq_some_iff.mp hi'
      have hit : inV (.str t) ((ps.map (·.1)).map V.str) = decide (t ∈ ps.map (·.1)) := inV_strs
      have htk : ns.take (i' + 1) = ns.take i' ++ [t] := by rw [List.take_succ, ht]; rfl
      refine ⟨rfl, _, rfl, _, rfl, Dt, _, rfl, .inl (SqL.of (pv.2 _ _ I14.d)), rfl, Fb.flat_strs _, _, rfl, ?_⟩
      by_cases hmt : t ∈ ps.map (·.1)
      · have hb : (!inV (.str t) ((ps.map (·.1)).map V.str)) = false := by rw [hit, decide_eq_true hmt]; rfl
        refine iteN hb ⟨?_, pv.2⟩
        rw [htk, List.filter_append, List.filter_cons_of_neg (by rw [decide_eq_true hmt]; decide), List.filter_nil, List.append_nil]
        exact pv.1
      · have hb : (!inV (.str t) ((ps.map (·.1)).map V.str)) = true := by rw [hit, decide_eq_false hmt]; rfl
        refine iteY hb ⟨_, rfl, _, pv.1, ?_, ?_, same_over pv.2 hDw⟩
        · rw [List.length_map]
          have h1 := List.length_filter_le (fun t => !decide (t ∈ ps.map (·.1))) (ns.take i')
          have h2 := wn14.1
          rw [List.length_take] at h1
          omega
        · rw [htk, List.filter_append, List.filter_cons_of_pos (by rw [decide_eq_false hmt]; decide), List.filter_nil, List.map_append]
          exact upd_same
    rintro H15 ⟨hDw15, s15⟩
    rw [List.length_map, List.take_of_length_le (Nat.le_refl _)] at hDw15
    have I15 := I14.same hmb hDtb s15
    have han15 := s15 _ _ han14
    have hDwb : Dw ≠ b := I14.B.ne hDw
    have hnW : ∀ t ∈ ns.filter (fun t => !decide (t ∈ ps.map (·.1))), t ∉ ps.map (·.1) := fun t ht hm => by
      have := (List.mem_filter.mp ht).2
      rw [decide_eq_true hm] at this
      cases this
    have hlowW : ∀ t ∈ ns.filter (fun t => !decide (t ∈ ps.map (·.1))), Low t := fun t ht => (wn14.2 t (List.mem_filter.mp ht).1).2
    clear s15 hDw han14 I14
    refine ⟨fun σ' H' => ∃ (du : Addr) (e : Str × List V), σ' = [some (.ref b), some (.ref a), some (.ref p), some (.ref m), some (.ref Dt), none, some (.int (0 + (i : Int))), some (.str z), some (.ref du), some (.ref an), some (.ref Dw), v11, v12] ∧ du ≠ b ∧ H' du = some (.lst (errL e)) ∧ Plain e ∧ H' an = some (.lst (ns.map V.str)) ∧ (z ∉ lettersOf ps → e = eNum z) ∧
        (z ∈ lettersOf ps → (∀ t ∈ ns, t ∈ ps.map (·.1)) → e = eTold (.str (seenT ps z ns))) ∧ (z ∈ lettersOf ps → ∀ (j : Nat) (t : Str), ns[j]? = some t → t ∉ ps.map (·.1) → (∀ k < j, ∀ u, ns[k]? = some u → u ∈ ps.map (·.1)) → e = eUnk t) ∧ SI K CL b l a p m Dt ps T H2 H', ?_, ?_⟩
    · refine ⟨_, rfl, _, rfl, m, _, rfl, .inl (SqL.of I15.m), rfl, Fb.flat_strs _, _, rfl, ?_⟩
      by_cases hzm : z ∈ lettersOf ps
      · have hb : (!inV (.str z) ((lettersOf ps).map V.str)) = false := by rw [hzin, decide_eq_true hzm]; rfl
        refine iteN hb ⟨_, rfl, (by show 0 ≤ sizeLine; decide), fun e0 he0 => ⟨_, _, .lst (SqL.of ((same_new he0 _) _ _ hDw15)) (dpStrs _), .lst (SqL.of upd_same) .nil, shapedL hlowW, rfl, _, rfl, ?_⟩⟩
        have hzl : z.length = ps.length := by
          have := listed_word hzm
          rw [List.length_map] at this
          exact this
        have I15e := I15.same hmb hDtb (same_new he0 (.lst []))
        have han15e := (same_new he0 (.lst [])) _ _ han15
        have hDw15e := (same_new he0 (.lst [])) _ _ hDw15
        generalize upd H15 e0 (.lst []) = H15e at I15e han15e hDw15e ⊢
        generalize hW : ns.filter (fun t => !decide (t ∈ ps.map (·.1))) = W at hnW hDw15e ⊢
        cases W with
        | nil =>
          have hall : ∀ t ∈ ns, t ∈ ps.map (·.1) := fun t ht => by
            have := List.filter_eq_nil_iff.mp hW t ht
            by_cases hm : t ∈ ps.map (·.1)
            · exact hm
            · rw [decide_eq_false hm] at this
              exact absurd rfl this
          refine iteN rfl ⟨_, rfl, _, rfl, _, rfl, p, an, ps, z, ns, rfl, partsUndel I15e.p, SqL.of han15e, hzl, by omega, by have := wn14.1; omega, fun Hs ss => ⟨(by show 2 ≤ sizeLine; decide), fun du hdu => ⟨du, eTold (.str (seenAll ps z ns)), rfl, (I15e.B.same ss).ne hdu, upd_same, plain_s _ _, (ss.trans (same_new hdu _)) _ _ han15e, fun h => absurd hzm h, fun _ _ => by rw [seenAll_eq G.nodup hall], fun _ j t ht hn _ => absurd (hall t (List.mem_of_getElem? ht)) hn, I15e.same hmb hDtb (ss.trans (same_new hdu _))⟩⟩⟩
        | cons t r =>
          have htn : t ∉ ps.map (·.1) := hnW t List.mem_cons_self
          have htm : t ∈ ns := (List.mem_filter.mp (by rw [hW]; exact List.mem_cons_self)).1
          refine iteY rfl ⟨_, rfl, Dw, _, 0, .str t, rfl, rfl, SqL.of hDw15e, atI_nat (j := 0) rfl, (by show 2 ≤ sizeLine; decide), fun du hdu => ⟨du, eUnk t, rfl, I15e.B.ne hdu, upd_same, plain_s _ _, (same_new hdu _) _ _ han15e, fun h => absurd hzm h, fun _ hall => absurd (hall t htm) htn, fun _ j t' ht' hn' hb' => ?_, I15e.same hmb hDtb (same_new hdu _)⟩⟩
          obtain ⟨r', hr'⟩ := filter_first (p := fun t => !decide (t ∈ ps.map (·.1))) (by rw [decide_eq_false hn']; rfl) ht' fun k hk u hu => by rw [decide_eq_true (hb' k hk u hu)]; rfl
          rw [hW] at hr'
          obtain rfl : t = t' := (List.cons.inj hr').1
          rfl
      · have hb : (!inV (.str z) ((lettersOf ps).map V.str)) = true := by rw [hzin, decide_eq_false hzm]; rfl
        exact iteY hb ⟨_, rfl, (by show 2 ≤ sizeLine; decide), fun du hdu => ⟨du, eNum z, rfl, I15.B.ne hdu, upd_same, plain_s _ _, (same_new hdu _) _ _ han15, fun _ => rfl, fun h => absurd h hzm, fun h => absurd h hzm, I15.same hmb hDtb (same_new hdu _)⟩⟩
    clear hDw15 han15 I15 hnW hlowW
    rintro _ H16 ⟨du, e, rfl, hdub, hdu16, ⟨ds, hds, hdk⟩, han16, e1, e2, e3, I16⟩
    -- kept
    refine ⟨_, rfl, an, _, rfl, .inl ⟨SqL.of han16, fun kt hkt => ?_⟩⟩
    have hkt17 : upd H16 kt (.tup (ns.map V.str)) kt = some (.tup (ns.map V.str)) := upd_same
    have s17 := same_new hkt (.tup (ns.map V.str))
    have I17 := I16.same hmb hDtb s17
    have hdu17 := s17 _ _ hdu16
    have han17 := s17 _ _ han16
    have hktb := I16.B.ne hkt
    generalize upd H16 kt (.tup (ns.map V.str)) = H17 at hkt17 s17 I17 hdu17 han17 ⊢
    clear s17 hkt hdu16 han16 I16
    refine ⟨fun v H' => ∃ l9 : Addr, v = .ref l9 ∧ H' l9 = some (.lst (errL e)) ∧ H' du = some (.lst (errL e)) ∧ H' an = some (.lst (ns.map V.str)) ∧ H' kt = some (.tup (ns.map V.str)) ∧ SI K CL b l a p m Dt ps T H2 H', fun Q' k => ?_, ?_⟩
    · refine ⟨I17.T, fun H18 e18 n18 T18 => ?_⟩
      have I18 := I17.ext hmb hDtb e18 n18 T18
      have hdu18 := e18 _ _ hdu17 (fun _ e => nomatch e)
      have han18 := e18 _ _ han17 (fun _ e => nomatch e)
      have hkt18 := e18 _ _ hkt17 (fun _ e => nomatch e)
      obtain ⟨dx, tn, tsg, ta, d, l1, l2, l3, l4, l5⟩ := id I18.L
      refine ⟨_, rfl, a, dx, _, rfl, l1, rfl, _, rfl, _, rfl, a, an, z, ps, ns, rfl, G, I18.L, by have := az.1; omega, az.2, .inl (SqL.of han18), by have := wn14.1; omega, wn14.2, fun hn => ?_, fun hzm => ⟨fun j t ht hn hb => ?_, fun hall H19 s19 => ⟨by decide, fun l9 hl9 => ?_⟩⟩⟩
      · obtain rfl := e1 hn
        exact raises_ask known_number fun l9 H19 s19 hl9 hat9 => k _ _ ⟨l9, rfl, hat9, s19 _ _ hdu18, s19 _ _ han18, s19 _ _ hkt18, I18.same hmb hDtb s19⟩
      · obtain rfl := e3 hzm j t ht hn hb
        exact raises_ask known_part fun l9 H19 s19 hl9 hat9 => k _ _ ⟨l9, rfl, hat9, s19 _ _ hdu18, s19 _ _ han18, s19 _ _ hkt18, I18.same hmb hDtb s19⟩
      · obtain rfl := e2 hzm hall
        have s20 := s19.trans (same_new hl9 (.lst [.str "told", .str (seenT ps z ns)]))
        exact k _ _ ⟨l9, rfl, upd_same, s20 _ _ hdu18, s20 _ _ han18, s20 _ _ hkt18, I18.same hmb hDtb s20⟩
    rintro _ H18 ⟨l9, rfl, hl9, hdu18, han18, hkt18, I18⟩
    refine ⟨_, rfl, .ref l9, .ref du, .list ds, rfl, .lst (SqL.of hl9) (hds _ _), .lst (SqL.of hdu18) (hds _ _), hdk, fun H19 s19 => ?_⟩
    have I19 := I18.same hmb hDtb s19
    have hdu19 := s19 _ _ hdu18
    have han19 := s19 _ _ han18
    have hkt19 := s19 _ _ hkt18
    clear s19 hdu18 han18 hkt18 I18 hl9 l9 hdu17 han17 hkt17 I17
    refine ⟨_, rfl, iteF ⟨_, rfl, an, _, rfl, .inl ⟨SqL.of han19, fun tt htt => ?_⟩⟩⟩
    have htt20 : upd H19 tt (.tup (ns.map V.str)) tt = some (.tup (ns.map V.str)) := upd_same
    have s20 := same_new htt (.tup (ns.map V.str))
    have I20 := I19.same hmb hDtb s20
    have hdu20 := s20 _ _ hdu19
    have han20 := s20 _ _ han19
    have hkt20 := s20 _ _ hkt19
    generalize upd H19 tt (.tup (ns.map V.str)) = H20 at htt20 I20 hdu20 han20 hkt20 ⊢
    refine ⟨_, rfl, _, _, .tup (SqT.of htt20) (dpStrs _), .tup (SqT.of hkt20) (dpStrs _), shapedT fun t ht => (wn14.2 t ht).2, shapedT fun t ht => (wn14.2 t ht).2, _, rfl, ?_⟩
    have heq : PyData.eqv (.tuple (ns.map PyData.str)) (.tuple (ns.map PyData.str)) = true := SeqAt.eqv_refl _ (by simp only [PyData.canLay0]; exact layStrs fun t ht => (wn14.2 t ht).2)
    rw [heq]
    refine iteF ?_
    clear heq htt20 s20 htt hkt20 hkt19 han19 hdu19 I19
    -- seen once more
    refine ⟨fun v H' => ∃ l9 : Addr, v = .ref l9 ∧ H' l9 = some (.lst (errL e)) ∧ H' du = some (.lst (errL e)) ∧ SI K CL b l a p m Dt ps T H2 H', fun Q' k => ?_, ?_⟩
    · refine ⟨I20.T, fun H18 e18 n18 T18 => ?_⟩
      have I18 := I20.ext hmb hDtb e18 n18 T18
      have hdu18 := e18 _ _ hdu20 (fun _ e => nomatch e)
      have han18 := e18 _ _ han20 (fun _ e => nomatch e)
      obtain ⟨dx, tn, tsg, ta, d, l1, l2, l3, l4, l5⟩ := id I18.L
      refine ⟨_, rfl, a, dx, _, rfl, l1, rfl, _, rfl, _, rfl, an, _, rfl, .inl ⟨SqL.of han18, fun tt htt => ?_⟩⟩
      have s0 := same_new htt (.tup (ns.map V.str))
      refine ⟨a, tt, z, ps, ns, rfl, G, I18.L.same s0, by have := az.1; omega, az.2, .inr (SqT.of upd_same), by have := wn14.1; omega, wn14.2, fun hn => ?_, fun hzm => ⟨fun j t ht hn hb => ?_, fun hall H19 s19 => ⟨by decide, fun l9 hl9 => ?_⟩⟩⟩
      · obtain rfl := e1 hn
        exact raises_ask known_number fun l9 H19 s19 hl9 hat9 => k _ _ ⟨l9, rfl, hat9, (s0.trans s19) _ _ hdu18, I18.same hmb hDtb (s0.trans s19)⟩
      · obtain rfl := e3 hzm j t ht hn hb
        exact raises_ask known_part fun l9 H19 s19 hl9 hat9 => k _ _ ⟨l9, rfl, hat9, (s0.trans s19) _ _ hdu18, I18.same hmb hDtb (s0.trans s19)⟩
      · obtain rfl := e2 hzm hall
        have s20 := (s0.trans s19).trans (same_new hl9 (.lst [.str "told", .str (seenT ps z ns)]))
        exact k _ _ ⟨l9, rfl, upd_same, s20 _ _ hdu18, I18.same hmb hDtb s20⟩
    rintro _ H21 ⟨l9, rfl, hl9, hdu21, I21⟩
    refine ⟨_, rfl, .ref l9, .ref du, .list ds, rfl, .lst (SqL.of hl9) (hds _ _), .lst (SqL.of hdu21) (hds _ _), hdk, fun H22 s22 => ⟨_, rfl, iteF ?_⟩⟩
    have I22 := I21.same hmb hDtb s22
    clear s22 hdu21 I21 hl9 l9 hdu20 han20 I20 H19 H20 H18
    clear e1 e2 e3 hds hdk ds e hdub hktb
    -- a name
    have hps0 : 0 < ps.length := hpos
    have hat0 : atI ((ps.map (·.1)).map V.str) 0 = some (.str ps[0].1) := atI_nat (j := 0) (by rw [List.getElem?_map, List.getElem?_map, List.getElem?_eq_getElem hps0]; rfl)
    have g0 := G.len _ (List.getElem_mem hps0)
    have l0 := G.low _ (List.getElem_mem hps0)
    refine ⟨_, rfl, _, rfl, _, rfl, b, l, rfl, I22.B, fun nm H23 hnm B23 b23 => ?_⟩
    have I23 := I22.but hmb hDtb B23 b23
    refine ⟨_, rfl, Dt, _, 0, _, rfl, rfl, SqL.of I23.d, hat0, _, _, rfl, rfl, (by show _ + 1 ≤ sizeLine; omega), (by show 4 ≤ sizeLine; decide), fun p1 hp1 => ?_⟩
    have hlt : ((ps.map (·.1)).map V.str).length = ps.length := by rw [List.length_map, List.length_map]
    refine ⟨Dt, p1, _, _, rfl, rfl, (same_new hp1 _) _ _ I23.d, upd_same, (by rw [hlt]; show _ + 4 ≤ sizeLine; omega), fun p2 hp2 => ?_⟩
    have s24 := (same_new hp1 (.lst [.str nm, .str "", .str (ps[0].1 ++ Str.ofString " "), .str "0"])).trans (same_new hp2 (.lst ((ps.map (·.1)).map V.str ++ [.str nm, .str "", .str (ps[0].1 ++ Str.ofString " "), .str "0"])))
    have I24 := I23.same hmb hDtb s24
    refine ⟨b, l, .ref p2, ps.length + 4, (fun y => ∃ t : Str, y = .str t ∧ t.length ≤ 60 ∧ Low t), rfl, I24.B, by omega, by omega, .inl ⟨p2, _, rfl, (I23.B.same (same_new hp1 _)).ne hp2, .inl (SqL.of upd_same), by rw [List.length_append, hlt]; rfl, fun y hy => ?_⟩, fun y H25 hy B25 b25 => ?_⟩
    · rcases List.mem_append.mp hy with hy | hy
      · obtain ⟨t, ht, rfl⟩ := List.mem_map.mp hy
        obtain ⟨r9, hr9, rfl⟩ := List.mem_map.mp ht
        exact ⟨_, rfl, Nat.le_trans (G.len r9 hr9).1 (by decide), (G.low r9 hr9).1⟩
      · simp only [List.mem_cons, List.not_mem_nil, or_false] at hy
        rcases hy with rfl | rfl | rfl | rfl
        · exact ⟨nm, rfl, by have := (isName_len hnm).2.1; omega, low_name hnm⟩
        · exact ⟨_, rfl, by decide, by unfold Low; decide +kernel⟩
        · refine ⟨_, rfl, by rw [strLen_append]; show _ + 1 ≤ 60; omega, fun c hc => ?_⟩
          rw [TL.tl_append] at hc
          rcases List.mem_append.mp hc with hc | hc
          · exact l0.1 c hc
          · have h9 : ∀ c ∈ TL.tl (Str.ofString " "), c < 1000 := by decide +kernel
            exact h9 c hc
        · exact ⟨_, rfl, by decide, by unfold Low; decide +kernel⟩
    obtain ⟨t, rfl, ht1, ht2⟩ := hy
    have I25 := I24.but hmb hDtb B25 b25
    clear b25 B25 I24 s24 hp2 hp1 I23 b23 B23 hnm I22 H23
    refine ⟨fun σ' H' => ∃ (du : Addr) (e : Str × List V), σ' = [some (.ref b), some (.ref a), some (.ref p), some (.ref m), some (.ref Dt), none, some (.int (0 + (i : Int))), some (.str z), some (.ref du), some (.ref an), some (.ref Dw), some (.str t), some (.ref kt)] ∧ du ≠ b ∧ H' du = some (.lst (errL e)) ∧ Plain e ∧ (t ∈ ps.map (·.1) → ∀ r, ps[nameAt ps t]? = some r → e = eTold (.str r.2)) ∧ (t ∉ ps.map (·.1) → e = eUnk t) ∧ SI K CL b l a p m Dt ps T H2 H', ?_, ?_⟩
    · refine ⟨_, rfl, _, rfl, Dt, _, rfl, .inl (SqL.of I25.d), rfl, Fb.flat_strs _, _, rfl, ?_⟩
      have hit : inV (.str t) ((ps.map (·.1)).map V.str) = decide (t ∈ ps.map (·.1)) := inV_strs
      rw [hit]
      by_cases hmt : t ∈ ps.map (·.1)
      · rw [decide_eq_true hmt]
        obtain ⟨e1, e2, e3⟩ := nameAt_get hmt
        obtain ⟨ts', hp', hps'⟩ := partsUndel I25.p
        have hlen' := hps'.len
        obtain ⟨r, hr2, hrt⟩ := hps'.get (List.getElem?_eq_getElem (show nameAt ps t < ts'.length by omega))
        have gt : ((ps.map (·.1)).map V.str)[nameAt ps t]? = some (.str t) := by rw [List.getElem?_map, e1]; rfl
        refine iteT ⟨_, rfl, _, rfl, .inl ⟨rfl, _, SqL.of I25.d⟩, _, rfl, Dt, _, .str t, nameAt ps t, .str t, rfl, rfl, SqL.of I25.d, rfl, Fb.flat_strs _, gt, by simp [eqV], fun j z' hj hz' => ?_, p, _, _, .ref _, rfl, rfl, hp', ref_at (List.getElem?_eq_getElem (show nameAt ps t < ts'.length by omega)), _, _, 1, .str r.2, rfl, rfl, hrt, rfl, (by show 2 ≤ sizeLine; decide), fun du hdu => ⟨du, eTold (.str r.2), rfl, I25.B.ne hdu, upd_same, plain_s _ _, fun _ r' hr' => ?_, fun h => absurd hmt h, I25.same hmb hDtb (same_new hdu _)⟩⟩
        · rw [List.getElem?_map] at hz'
          obtain ⟨u, hu, rfl⟩ := Option.map_eq_some_iff.mp hz'
          have hne : u ≠ t := fun e => e3 j hj (by rw [hu, e])
          simp [eqV, hne]
        · obtain rfl : r = r' := Option.some.inj (hr2.symm.trans hr')
          rfl
      · rw [decide_eq_false hmt]
        exact iteF ⟨_, rfl, (by show 2 ≤ sizeLine; decide), fun du hdu => ⟨du, eUnk t, rfl, I25.B.ne hdu, upd_same, plain_s _ _, fun h => absurd h hmt, fun _ => rfl, I25.same hmb hDtb (same_new hdu _)⟩⟩
    clear I25
    rintro _ H26 ⟨du, e, rfl, hdub, hdu26, ⟨ds, hds, hdk⟩, e1, e2, I26⟩
    refine ⟨fun v H' => ∃ l9 : Addr, v = .ref l9 ∧ H' l9 = some (.lst (errL e)) ∧ H' du = some (.lst (errL e)) ∧ SI K CL b l a p m Dt ps T H2 H', fun Q' k => ?_, ?_⟩
    · refine ⟨I26.T, fun H18 e18 n18 T18 => ?_⟩
      have I18 := I26.ext hmb hDtb e18 n18 T18
      have hdu18 := e18 _ _ hdu26 (fun _ e => nomatch e)
      obtain ⟨dx, tn, tsg, ta, d, l1, l2, l3, l4, l5⟩ := id I18.L
      refine ⟨_, rfl, a, dx, _, rfl, l1, rfl, _, rfl, a, t, ps, hvS _ _, I18.L, ht1, ht2, fun hm r hr H19 s19 => ⟨by decide, fun l9 hl9 => ?_⟩, fun hn => raises_ask known_part fun l9 H19 s19 hl9 hat9 => ?_⟩
      · obtain rfl := e1 hm r hr
        have s20 := s19.trans (same_new hl9 (.lst [.str "told", .str r.2]))
        exact k _ _ ⟨l9, rfl, upd_same, s20 _ _ hdu18, I18.same hmb hDtb s20⟩
      · obtain rfl := e2 hn
        exact k _ _ ⟨l9, rfl, hat9, s19 _ _ hdu18, I18.same hmb hDtb s19⟩
    rintro _ H27 ⟨l9, rfl, hl9, hdu27, I27⟩
    refine ⟨_, rfl, .ref l9, .ref du, .list ds, rfl, .lst (SqL.of hl9) (hds _ _), .lst (SqL.of hdu27) (hds _ _), hdk, fun H28 s28 => ⟨_, rfl, iteF ?_⟩⟩
    have I28 := I27.same hmb hDtb s28
    exact ⟨I28.B, I28.g, I28.T, _, _, _, _, _, _, _, rfl⟩
  · rintro _ Hi ⟨Bi, gi, Ti, v6, v7, v8, v9, v10, v11, v12, rfl⟩
    exact q Hi Bi (g2.trans gi) Ti
end
end K1

set_option Elab.async false
set_option linter.all false
set_option maxRecDepth 100000
set_option maxHeartbeats 4000000
namespace Fb
open PySem PySem.Spec PyProof.Rows L2
/-- sizes of parts, in a tuple, that pass a check -/
def TG (c : List Nat → Bool) (H : Hp) (y : V) : Prop := ∃ (t : Addr) (ns : List Nat), y = .ref t ∧ H t = some (.tup (ns.map fun n : Nat => V.int (n : Int))) ∧ c ns = true
theorem TG.same {c : List Nat → Bool} {H H' : Hp} {y : V} (h : TG c H y) (s : Same H H') : TG c H' y := by
  obtain ⟨t, ns, e, h, r⟩ := h
  exact ⟨t, ns, e, s _ _ h, r⟩
theorem TG.but {c : List Nat → Bool} {b l : Addr} {H H' : Hp} {y : V} (h : TG c H y) (B : BagAt l H b) (x : But b H H') : TG c H' y := by
  obtain ⟨t, ns, e, h, r⟩ := h
  obtain ⟨_, _, _, _, _, h9, _⟩ := B.at_
  exact ⟨t, ns, e, x.at (fun z => by rw [z, h9] at h; cases h) h, r⟩
def TGt (c : List Nat → Bool) (H Hk : Hp) (ys : List V) : Prop := Same H Hk ∧ ∀ y ∈ ys, TG c Hk y
theorem TGt.push {c : List Nat → Bool} {H Hk : Hp} {ys : List V} (g : TGt c H Hk ys) {t : Addr} (h : Hk t = none) (ns : List Nat) (hc : c ns = true) : TGt c H (upd Hk t (.tup (ns.map fun n : Nat => V.int (n : Int)))) (ys ++ [.ref t]) := by
  refine ⟨g.1.trans (same_new h _), fun y hy => ?_⟩
  rcases List.mem_append.mp hy with hy | hy
  · exact (g.2 y hy).same (same_new h _)
  · have : y = .ref t := by simpa using hy
    exact ⟨t, ns, this, upd_same, hc⟩
end Fb
namespace K1
open PySem PySem.Spec PyProof.Rows L2 Fb RZ LamX
abbrev sLaw : Stmt := top 50
/-- sizes of good parts -/
def okS (ns : List Nat) : Bool := decide (1 ≤ ns.length) && (decide (ns.length ≤ 4) && (ns.all (fun n => decide (1 ≤ n) && decide (n ≤ 16)) && decide (ns.foldl (· * ·) 1 ≤ 16)))
theorem okS_of {ns : List Nat} (h : okS ns = true) : 1 ≤ ns.length ∧ ns.length ≤ 4 ∧ (∀ n ∈ ns, 1 ≤ n ∧ n ≤ 16) ∧ ns.foldl (· * ·) 1 ≤ 16 := by
  unfold okS at h
  rw [Bool.and_eq_true, Bool.and_eq_true, Bool.and_eq_true, decide_eq_true_iff, decide_eq_true_iff, decide_eq_true_iff, List.all_eq_true] at h
  refine ⟨h.1, h.2.1, fun n hn => ?_, h.2.2.2⟩
  have := h.2.2.1 n hn
  rw [Bool.and_eq_true, decide_eq_true_iff, decide_eq_true_iff] at this
  exact this
theorem goodMany : ∀ {ps : List (Str × Str)} {ns : List Nat} (k : Nat), GoodParts ps ns → ps.foldl (fun n p => n * p.2.length) k = ns.foldl (· * ·) k
  | [], [], _, _ => rfl
  | p :: r, n :: s, k, h => by
    rw [List.foldl_cons, List.foldl_cons, goodMany (k * p.2.length) h.2.2, h.2.1.1]
  | [], _ :: _, _, h => h.elim
  | _ :: _, [], _, h => h.elim
theorem goodEach : ∀ {ps : List (Str × Str)} {ns : List Nat}, GoodParts ps ns → (∀ n ∈ ns, 1 ≤ n ∧ n ≤ 16) → ∀ p ∈ ps, isName p.1 = true ∧ areSigns p.2 = true
  | [], [], _, _, p, hp => absurd hp List.not_mem_nil
  | q :: r, n :: s, h, hn, p, hp => by
    rcases List.mem_cons.mp hp with rfl | hp
    · obtain ⟨l1, l2, l3⟩ := h.2.1
      obtain ⟨m1, m2⟩ := hn n List.mem_cons_self
      exact ⟨h.1, areSigns_of (by omega) (by omega) l2 l3⟩
    · exact goodEach h.2.2 (fun m hm => hn m (List.mem_cons_of_mem _ hm)) p hp
  | [], _ :: _, h, _, _, _ => h.elim
  | _ :: _, [], h, _, _, _ => h.elim
theorem good_verdict {ps : List (Str × Str)} {ns : List Nat} (h : GoodParts ps ns) (hn : (ps.map (·.1)).Nodup) (hs : okS ns = true) : verdict ps = none := by
  obtain ⟨h1, h2, h3, h4⟩ := okS_of hs
  have hl := h.len
  have hm : many ps = ns.foldl (· * ·) 1 := goodMany 1 h
  exact verdict_of (by omega) (fun e => by rw [e] at hl; simp at hl; omega) (goodEach h h3) hn (by rw [hm]; exact h4)
theorem mildSmall {n : Nat} {ps : List (Str × Str)} (h : Mild n ps) (hn : n ≤ 1000) : Small ps := ⟨Nat.le_trans h.1 (by decide), fun p hp => ⟨Nat.le_trans (h.2 p hp).1 (by decide), Nat.le_trans (h.2 p hp).2.2.1 hn⟩⟩
/-- what stays through a lap -/
structure LJ (K : PySem.W.Frag) (CL b l a p : Addr) (ps : List (Str × Str)) (T : List (Addr × Str)) (H : Hp) : Prop where
  B : BagAt l H b
  T : Tabs T H
  L : LettersAt K CL H a ps
  p : PartsAt K (L2.del H b) p ps
section
variable {K : PySem.W.Frag} {CL b l a p : Addr} {ps : List (Str × Str)} {T : List (Addr × Str)} {H H' : Hp}
theorem LJ.gro (h : LJ K CL b l a p ps T H) (x : Gro b H H') (B' : BagAt l H' b) (T' : Tabs T H') : LJ K CL b l a p ps T H' := ⟨B', T', lettersGro h.B x h.L, Gro.parts h.B B' x h.p⟩
theorem LJ.same (h : LJ K CL b l a p ps T H) (s : Same H H') : LJ K CL b l a p ps T H' := h.gro (Gro.ofSame s) (h.B.same s) (tabs_same h.T s)
theorem LJ.but (h : LJ K CL b l a p ps T H) (B' : BagAt l H' b) (x : But b H H') : LJ K CL b l a p ps T H' := h.gro (Gro.ofBut B' x) B' (tabs_but h.B h.T x)
end
section
variable {P : Program} {w : World} {K : PySem.W.Frag} {mg : Str → Option Value} {base : Heap} {C : Str → Addr} {CL : Addr}
abbrev NLaw : List Str := ["script", "bag", "lap", "sizes", "parts", "abc", "more", "turn", "due", "told"]
theorem scLaw : FnScope NLaw ["script"] (defScope sLaw) := ⟨rfl, rfl, rfl, by decide +kernel, rfl, by decide +kernel, by decide +kernel⟩
abbrev qLaw : Str := "law" ++ ".<locals>." ++ "<lambda>"
def spLaw (K : PySem.W.Frag) (T : List (Addr × Str)) : Sp := fun vs H Q _ => ∃ (a : Addr) (ns : List Int), vs = [.ref a] ∧ SqL K H a (ns.map V.int) ∧ ns.length ≤ 63 ∧ Tabs T H ∧ ∀ H', Q (.bl true) H'
theorem ok_law {f c Pt : Addr} {fd : FuncData} {T : List (Addr × Str)} (F : FunC K "law" "law" sLaw f fd c) (A1 : AskC K mg) (MX : Ex K mg C) (RF : RdW P w K mg base CX0 1 "_law_fault" ["error"] (spFault C)) (TB : TabB base mg c Pt) (hmT : (Pt, qLaw) ∈ T) (hu : ∀ p ∈ T, p.1 = Pt → p.2 = qLaw)
    (L : LC K mg CL) (M : Ms P w K mg base C CL) (RB : RD P w K mg base 1 "_law_bag" ["script"] (spBag K)) (O : RD P w K mg base 2 "_law_of" ["bag", "things"] (spOf K)) (RP : RD P w K mg base 5 "_law_parts" ["bag", "sizes"] (spParts K)) (LT : Rd P w K mg base (L2.CX P w) 6 "_law_letters" ["parts"] (spLetters K C CL 1 4)) (LL : Rd P w K mg base (L2.CX P w) 7 "_law_letters_of" ["parts"] (spLetters K C CL 0 6))
    (RW : RD P w K mg base 5 "_law_seen_twice_so" ["bag", "abc", "parts"] (spTwice K CL)) (RS : RD P w K mg base 7 "_law_told_so" ["bag", "abc", "parts"] (spToldSo K CL)) (RG : RD P w K mg base 9 "_law_strangers_so" ["bag", "abc", "parts"] (spStrange K CL T)) (RO : RD P w K mg base 5 "_law_other_parts" ["bag", "parts"] (spOther K)) (RL : RD P w K mg base 4 "_law_like" ["told", "due"] (spLike K 3))
    (RX : RD P w K mg base 9 "_law_texts_so" ["bag", "parts"] (spTexts K T)) (RN : RD P w K mg base 5 "_law_names_so" ["bag"] spNamesSo) (SP : RD P w K mg base 6 "_law_some_parts" ["bag"] (spSomeParts K)) (DU : RD P w K mg base 2 "_law_due" ["parts"] (spDue K)) (mr : mg "range" = none) :
    FnOk P w K mg base CX0 10 f fd ["script"] (spLaw K T) := by
  refine F.ok scLaw (fun vs H Q E h => ?_) (fun A outer s H vs Q E hr h => ?_)
  · obtain ⟨a, ns, rfl, _⟩ := h
    rfl
  obtain ⟨sa, ns, rfl, hS, hn, hT, q⟩ := h
  have hr1 := hr.mono (by decide : 1 ≤ 9)
  have hr2 := hr.mono (by decide : 2 ≤ 9)
  have hr4 := hr.mono (by decide : 4 ≤ 9)
  have hr5 := hr.mono (by decide : 5 ≤ 9)
  have hr6 := hr.mono (by decide : 6 ≤ 9)
  have hr7 := hr.mono (by decide : 7 ≤ 9)
  have hU : (A.deeper (envOfC "law" (defScope sLaw) s.heap.objs.size f (.ref c))).units + 64 < cLine := by have := hr.un; omega
  refine ⟨_, pss_cons (ps_set (i := 1) scLaw.nd rfl (Or.inl rfl) (pe_rd RB hr1 rfl pass0 (pa_cons (pv 0) pa_nil)))
      (pss_cons (ps_for PassesOwn.never rfl (pi_range1 rfl mr (pa_cons pe_int pa_nil)) (pg_name (i := 2) scLaw.nd rfl (Or.inl rfl))
      (pss_cons (ps_set (i := 3) scLaw.nd rfl (Or.inl rfl) (pe_lst (pa_cons (pe_tup (pa_cons pe_int pa_nil)) (pa_cons (pe_tup (pa_cons pe_int pa_nil)) (pa_cons (pe_tup (pa_cons pe_int (pa_cons pe_int pa_nil))) (pa_cons (pe_tup (pa_cons pe_int (pa_cons pe_int pa_nil))) (pa_cons (pe_tup (pa_cons pe_int pa_nil)) (pa_cons (pe_tup (pa_cons pe_int (pa_cons pe_int (pa_cons pe_int pa_nil)))) (pa_cons (pe_tup (pa_cons pe_int (pa_cons pe_int (pa_cons pe_int (pa_cons pe_int pa_nil))))) (pa_cons (pe_tup (pa_cons pe_int (pa_cons pe_int pa_nil))) (pa_cons (pe_tup (pa_cons pe_int pa_nil)) (pa_cons (pe_tup (pa_cons pe_int (pa_cons pe_int pa_nil))) (pa_cons (pe_tup (pa_cons pe_int (pa_cons pe_int (pa_cons pe_int (pa_cons pe_int pa_nil))))) (pa_cons (pe_tup (pa_cons pe_int (pa_cons pe_int pa_nil))) (pa_cons (pe_tup (pa_cons pe_int (pa_cons pe_int pa_nil))) pa_nil)))))))))))))))
      (pss_cons (ps_set (i := 4) scLaw.nd rfl (Or.inr rfl) (pe_rd RP hr5 rfl pass0 (pa_cons (pv 1) (pa_cons (pe_rd O hr2 rfl pass0 (pa_cons (pv 1) (pa_cons (pv 3) pa_nil))) pa_nil))))
      (pss_cons (ps_set (i := 5) scLaw.nd rfl (Or.inl rfl) (pe_rd LT hr6 rfl passF (pa_cons (pv 4) pa_nil)))
      (pss_cons (ps_if (pt_not (pt_val (pe_rd RW hr5 rfl pass0 (pa_cons (pv 1) (pa_cons (pv 5) (pa_cons (pv 4) pa_nil)))))) (pss_one (ps_ret pe_bl)) pss_nil)
      (pss_cons (ps_if (PW.pt (pw_or (pt_not (pt_val (pe_rd RS hr7 rfl pass0 (pa_cons (pv 1) (pa_cons (pv 5) (pa_cons (pv 4) pa_nil)))))) (pw_or1 (pt_not (pt_val (pe_rd RG hr rfl pass0 (pa_cons (pv 1) (pa_cons (pv 5) (pa_cons (pv 4) pa_nil))))))))) (pss_one (ps_ret pe_bl)) pss_nil)
      (pss_cons (ps_set (i := 6) scLaw.nd rfl (Or.inl rfl) (pe_rd RO hr5 rfl pass0 (pa_cons (pv 1) (pa_cons (pv 4) pa_nil))))
      (pss_cons (ps_if (pt_not (pt_val (pe_rd RL hr4 rfl pass0 (pa_cons (pe_lst (pa_cons (pe_cmpR (op_eqO (Mt.own M.eq pass0) hr2 M.nS M.nL) (pv 5) (pe_rd LT hr6 rfl passF (pa_cons (pv 6) pa_nil)) (nomark _)) (pa_cons (pe_cmpR (op_eqO (Mt.own M.eq pass0) hr2 M.nS M.nL) (pe_rd LT hr6 rfl passF (pa_cons (pv 6) pa_nil)) (pv 5) (nomark _)) pa_nil))) (pa_cons (pe_lst (pa_cons (pe_cmpR (op_eqD hU) (pv 4) (pv 6) (nomark _)) (pa_cons (pe_cmpR (op_eqD hU) (pv 4) (pv 6) (nomark _)) pa_nil))) pa_nil))))) (pss_one (ps_ret pe_bl)) pss_nil)
      (pss_cons (ps_if (PW.pt (pw_or (pt_not (pt_val (pe_rd RX hr rfl pass0 (pa_cons (pv 1) (pa_cons (pv 4) pa_nil))))) (pw_or1 (pt_not (pt_val (pe_rd RN hr5 rfl pass0 (pa_cons (pv 1) pa_nil))))))) (pss_one (ps_ret pe_bl)) pss_nil)
      (pss_one (ps_for PassesOwn.never rfl (pi_range1 rfl mr (pa_cons pe_int pa_nil)) (pg_name (i := 7) scLaw.nd rfl (Or.inl rfl))
      (pss_cons (ps_set (i := 4) scLaw.nd rfl (Or.inr rfl) (pe_rd SP hr6 rfl pass0 (pa_cons (pv 1) pa_nil)))
      (pss_cons (ps_set (i := 8) scLaw.nd rfl (Or.inl rfl) (pe_rd DU hr2 rfl pass0 (pa_cons (pv 4) pa_nil)))
      (pss_cons (ps_set (i := 9) scLaw.nd rfl (Or.inl rfl) (pe_cut (pe_ask (k := 7) (T := T) (t := fun E => tCall (spLetters K C CL 0 6) [] E (tCons (tVar 4) tNil)) A1 MX RF rfl TB rfl hmT hu hr (lamG_by (N := NLaw) (sc := defScope sLaw) (by decide +kernel)) (.inl ⟨rfl, fun _ _ _ _ _ _ => rfl⟩) (fun A' outer' s' H' E' f' c' hr' => pe_rd LL hr' rfl (passes_call (takes_of rfl rfl rfl rfl) fun _ _ _ _ h => h) (pa_cons (pv 4) pa_nil)))))
      (pss_cons (ps_if (PW.pt (pw_and (pt_cmpR op_notN (pv 8) pe_non (nomark _)) (pw_and1 (pt_not (pt_val (pe_rd RL hr4 rfl pass0 (pa_cons (pv 9) (pa_cons (pv 8) pa_nil)))))))) (pss_one (ps_ret pe_bl)) pss_nil)
      (pss_one (ps_if (PW.pt (pw_and (pt_cmpR op_isN (pv 8) pe_non (nomark _)) (pw_and1 (PW.pt (pw_or (pt_cmpR op_ne (pe_ix ix_list (pv 9) pe_int (fun _ _ => rfl)) pe_str (nomark _)) (pw_or1 (pt_not (pt_val (pe_rd RS hr7 rfl pass0 (pa_cons (pv 1) (pa_cons (pe_ix ix_list (pv 9) pe_int (fun _ _ => rfl)) (pa_cons (pv 4) pa_nil)))))))))))) (pss_one (ps_ret pe_bl)) pss_nil)))))))))))))))))
      (pss_one (ps_ret pe_bl))), ?_⟩
  have hz2 : sizeLine = 16777216 := sizeLine_eq
  refine ⟨_, rfl, sa, ns, rfl, hS, hn, fun b l H1 s1 hb0 hl0 B1 => ?_⟩
  have T1 := tabs_same hT s1
  clear hS hn s1 hb0 hl0 hT
  refine ⟨3, rfl, by decide, by decide, for_range (n := 3) (fun i σ Hi => BagAt l Hi b ∧ Tabs T Hi ∧ ∃ v2 v3 v4 v5 v6 v7 v8 v9 : Option V, σ = [some (.ref sa), some (.ref b), v2, v3, v4, v5, v6, v7, v8, v9]) ⟨B1, T1, _, _, _, _, _, _, _, _, rfl⟩ ?_ ?_⟩
  · rintro i _ H hi ⟨B, hT, v2, v3, v4, v5, v6, v7, v8, v9, rfl⟩
    have g0 : TGt okS H H [] := ⟨Same.refl _, fun y hy => absurd hy List.not_mem_nil⟩
    refine ⟨(by show 1 ≤ sizeLine; decide), fun t1 h1 => ?_⟩
    have g1 : TGt okS H (upd H t1 (.tup [.int 1])) [.ref t1] := g0.push h1 [1] (by decide)
    generalize upd H t1 (.tup [.int 1]) = H_1 at g1 ⊢
    refine ⟨(by show 1 ≤ sizeLine; decide), fun t2 h2 => ?_⟩
    have g2 : TGt okS H (upd H_1 t2 (.tup [.int 2])) [.ref t1, .ref t2] := g1.push h2 [2] (by decide)
    generalize upd H_1 t2 (.tup [.int 2]) = H_2 at g2 ⊢
    refine ⟨(by show 2 ≤ sizeLine; decide), fun t3 h3 => ?_⟩
    have g3 : TGt okS H (upd H_2 t3 (.tup [.int 2, .int 2])) [.ref t1, .ref t2, .ref t3] := g2.push h3 [2, 2] (by decide)
    generalize upd H_2 t3 (.tup [.int 2, .int 2]) = H_3 at g3 ⊢
    refine ⟨(by show 2 ≤ sizeLine; decide), fun t4 h4 => ?_⟩
    have g4 : TGt okS H (upd H_3 t4 (.tup [.int 1, .int 2])) [.ref t1, .ref t2, .ref t3, .ref t4] := g3.push h4 [1, 2] (by decide)
    generalize upd H_3 t4 (.tup [.int 1, .int 2]) = H_4 at g4 ⊢
    refine ⟨(by show 1 ≤ sizeLine; decide), fun t5 h5 => ?_⟩
    have g5 : TGt okS H (upd H_4 t5 (.tup [.int 3])) [.ref t1, .ref t2, .ref t3, .ref t4, .ref t5] := g4.push h5 [3] (by decide)
    generalize upd H_4 t5 (.tup [.int 3]) = H_5 at g5 ⊢
    refine ⟨(by show 3 ≤ sizeLine; decide), fun t6 h6 => ?_⟩
    have g6 : TGt okS H (upd H_5 t6 (.tup [.int 2, .int 2, .int 2])) [.ref t1, .ref t2, .ref t3, .ref t4, .ref t5, .ref t6] := g5.push h6 [2, 2, 2] (by decide)
    generalize upd H_5 t6 (.tup [.int 2, .int 2, .int 2]) = H_6 at g6 ⊢
    refine ⟨(by show 4 ≤ sizeLine; decide), fun t7 h7 => ?_⟩
    have g7 : TGt okS H (upd H_6 t7 (.tup [.int 2, .int 2, .int 2, .int 2])) [.ref t1, .ref t2, .ref t3, .ref t4, .ref t5, .ref t6, .ref t7] := g6.push h7 [2, 2, 2, 2] (by decide)
    generalize upd H_6 t7 (.tup [.int 2, .int 2, .int 2, .int 2]) = H_7 at g7 ⊢
    refine ⟨(by show 2 ≤ sizeLine; decide), fun t8 h8 => ?_⟩
    have g8 : TGt okS H (upd H_7 t8 (.tup [.int 4, .int 4])) [.ref t1, .ref t2, .ref t3, .ref t4, .ref t5, .ref t6, .ref t7, .ref t8] := g7.push h8 [4, 4] (by decide)
    generalize upd H_7 t8 (.tup [.int 4, .int 4]) = H_8 at g8 ⊢
    refine ⟨(by show 1 ≤ sizeLine; decide), fun t9 h9 => ?_⟩
    have g9 : TGt okS H (upd H_8 t9 (.tup [.int 16])) [.ref t1, .ref t2, .ref t3, .ref t4, .ref t5, .ref t6, .ref t7, .ref t8, .ref t9] := g8.push h9 [16] (by decide)
    generalize upd H_8 t9 (.tup [.int 16]) = H_9 at g9 ⊢
    refine ⟨(by show 2 ≤ sizeLine; decide), fun t10 h10 => ?_⟩
    have g10 : TGt okS H (upd H_9 t10 (.tup [.int 2, .int 8])) [.ref t1, .ref t2, .ref t3, .ref t4, .ref t5, .ref t6, .ref t7, .ref t8, .ref t9, .ref t10] := g9.push h10 [2, 8] (by decide)
    generalize upd H_9 t10 (.tup [.int 2, .int 8]) = H_10 at g10 ⊢
    refine ⟨(by show 4 ≤ sizeLine; decide), fun t11 h11 => ?_⟩
    have g11 : TGt okS H (upd H_10 t11 (.tup [.int 1, .int 1, .int 1, .int 1])) [.ref t1, .ref t2, .ref t3, .ref t4, .ref t5, .ref t6, .ref t7, .ref t8, .ref t9, .ref t10, .ref t11] := g10.push h11 [1, 1, 1, 1] (by decide)
    generalize upd H_10 t11 (.tup [.int 1, .int 1, .int 1, .int 1]) = H_11 at g11 ⊢
    refine ⟨(by show 2 ≤ sizeLine; decide), fun t12 h12 => ?_⟩
    have g12 : TGt okS H (upd H_11 t12 (.tup [.int 3, .int 5])) [.ref t1, .ref t2, .ref t3, .ref t4, .ref t5, .ref t6, .ref t7, .ref t8, .ref t9, .ref t10, .ref t11, .ref t12] := g11.push h12 [3, 5] (by decide)
    generalize upd H_11 t12 (.tup [.int 3, .int 5]) = H_12 at g12 ⊢
    refine ⟨(by show 2 ≤ sizeLine; decide), fun t13 h13 => ?_⟩
    have g13 : TGt okS H (upd H_12 t13 (.tup [.int 5, .int 2])) [.ref t1, .ref t2, .ref t3, .ref t4, .ref t5, .ref t6, .ref t7, .ref t8, .ref t9, .ref t10, .ref t11, .ref t12, .ref t13] := g12.push h13 [5, 2] (by decide)
    generalize upd H_12 t13 (.tup [.int 5, .int 2]) = H_13 at g13 ⊢
    refine ⟨(by show 13 ≤ sizeLine; decide), fun p1 hp1 => ?_⟩
    have s1 := g13.1.trans (same_new hp1 (.lst [.ref t1, .ref t2, .ref t3, .ref t4, .ref t5, .ref t6, .ref t7, .ref t8, .ref t9, .ref t10, .ref t11, .ref t12, .ref t13]))
    refine ⟨_, rfl, _, rfl, _, rfl, b, l, .ref p1, 13, TG okS (upd H_13 p1 (.lst [.ref t1, .ref t2, .ref t3, .ref t4, .ref t5, .ref t6, .ref t7, .ref t8, .ref t9, .ref t10, .ref t11, .ref t12, .ref t13])), rfl, B.same s1, by decide, by decide, .inl ⟨p1, _, rfl, (B.same g13.1).ne hp1, .inl (SqL.of upd_same), rfl, fun y hy => (g13.2 y hy).same (same_new hp1 _)⟩, fun y1 H1 hy1 B1 b1 => ?_⟩
    have hy1 := hy1.but (B.same s1) b1
    have T1 := tabs_but B hT ((But.of s1).trans b1)
    clear g0 g1 g2 g3 g4 g5 g6 g7 g8 g9 g10 g11 g12 g13 s1 b1
    obtain ⟨ta, ms, rfl, hta, hok⟩ := hy1
    obtain ⟨k1, k2, k3, k4⟩ := okS_of hok
    have htab : ta ≠ b := fun z => by
      obtain ⟨_, _, _, _, _, h9, _⟩ := B1.at_
      rw [z, h9] at hta
      cases hta
    refine ⟨b, l, ta, ms, rfl, B1, SqT.of (by rw [L2.del_ne htab]; exact hta), by omega, fun n hn => ⟨(k3 n hn).1, by have := (k3 n hn).2; omega⟩, fun pp ts ps H2 hpp0 hpp hps hgood hnd B2 b2 => ?_⟩
    have hppb : pp ≠ b := B1.ne hpp0
    have hP : PartsAt K (L2.del H2 b) pp ps := ⟨ts, SqL.of (by rw [L2.del_ne hppb]; exact hpp), bag_pairsDel B2 (hps.same fresh_sub)⟩
    have hv := good_verdict hgood hnd hok
    have G := GoodPs.of hv
    have T2 := tabs_but B1 T1 b2
    have hpos : 0 < ps.length := List.length_pos_iff.mpr G.ne
    clear hgood hnd hok k1 k2 k3 k4 hta htab hps hpp hpp0 hppb b2 B1 T1
    refine ⟨_, rfl, pp, ps, rfl, partsUndel hP, GoodPs.small' G, by omega, G.few, fun _ abc H3 s3 habc hL => ?_, fun e he => (by rw [hv] at he; cases he)⟩
    have J3 : LJ K CL b l abc pp ps T H3 := ⟨B2.same s3, tabs_same T2 s3, hL, hP.same (But.of s3)⟩
    clear s3 habc hL hP T2 B2
    refine ⟨_, rfl, _, rfl, _, rfl, b, l, abc, pp, ps, rfl, J3.B, G, J3.L, J3.p, fun H4 B4 b4 => ⟨_, rfl, iteF ?_⟩⟩
    have J4 := J3.but B4 b4
    clear b4 B4 J3
    refine ⟨_, rfl, _, rfl, _, rfl, b, abc, pp, ps, rfl, G, J4.L, partsUndel J4.p, fun H5 s5 => ⟨_, rfl, iteF ?_⟩⟩
    have J5 := J4.same s5
    clear s5 J4
    refine ⟨_, rfl, _, rfl, _, rfl, b, l, abc, pp, ps, rfl, J5.B, G, J5.L, J5.p, J5.T, fun H6 B6 g6 T6 => ⟨_, rfl, iteF ?_⟩⟩
    have J6 := J5.gro g6 B6 T6
    clear g6 T6 B6 J5
    refine ⟨_, rfl, _, rfl, b, l, pp, ps, rfl, J6.B, J6.p, G, fun mo qs H7 hmo hvq B7 b7 => ?_⟩
    have J7 := J6.but B7 b7
    have G2 := GoodPs.of hvq
    have hpos2 : 0 < qs.length := List.length_pos_iff.mpr G2.ne
    clear b7 B7 J6
    obtain ⟨dx, tn, tsg, tl, d, l1, l2, l3, l4, l5⟩ := id J7.L
    refine ⟨_, rfl, _, rfl, mo, qs, rfl, partsUndel hmo, GoodPs.small' G2, by omega, G2.few, fun _ ab2 H8 s8 _ hL2 => ?_, fun e he => (by rw [hvq] at he; cases he)⟩
    have J8 := J7.same s8
    obtain ⟨dx2, tn2, ts2, tl2, d2, g1, g2, g3, g4, g5⟩ := id hL2
    refine ⟨abc, dx, _, rfl, s8 _ _ l1, .inr (.inr ⟨ab2, _, _, rfl, g1⟩), abc, ps, G, J8.L, .inr (.inr ⟨ab2, qs, rfl, G2, hL2, fun H9 s9 => ⟨_, rfl, ?_⟩⟩)⟩
    have s89 := s8.trans s9
    refine ⟨_, rfl, mo, qs, rfl, (partsUndel hmo).same s89, GoodPs.small' G2, by omega, G2.few, fun _ ab3 H10 s10 _ hL3 => ?_, fun e he => (by rw [hvq] at he; cases he)⟩
    obtain ⟨dx3, tn3, ts3, tl3, d3, f1, f2, f3, f4, f5⟩ := id hL3
    refine ⟨_, rfl, ab3, dx3, _, rfl, f1, .inr (.inr ⟨abc, _, _, rfl, (s89.trans s10) _ _ l1⟩), ab3, qs, G2, hL3, .inr (.inr ⟨abc, ps, rfl, G, (J7.same (s89.trans s10)).L, fun H11 s11 => ⟨_, rfl, (by show 2 ≤ sizeLine; decide), fun q1 hq1 => ?_⟩⟩)⟩
    have e12 : decide (qs = ps) = decide (ps = qs) := by
      by_cases e : ps = qs
      · rw [decide_eq_true e, decide_eq_true e.symm]
      · rw [decide_eq_false e, decide_eq_false (fun z => e z.symm)]
    rw [e12]
    have s12 := ((s89.trans s10).trans s11).trans (same_new hq1 (.lst [.bl (decide (ps = qs)), .bl (decide (ps = qs))]))
    have hq12 : upd H11 q1 (.lst [.bl (decide (ps = qs)), .bl (decide (ps = qs))]) q1 = some (.lst [.bl (decide (ps = qs)), .bl (decide (ps = qs))]) := upd_same
    generalize upd H11 q1 (.lst [.bl (decide (ps = qs)), .bl (decide (ps = qs))]) = H12 at s12 hq12 ⊢
    have J12 := J7.same s12
    have hmo12 := (partsUndel hmo).same s12
    clear hq1 s11 f1 f2 f3 f4 f5 hL3 s10 s89 s9 s8 g1 g2 g3 g4 g5 hL2 J8 s12 l1 l2 l3 l4 l5
    obtain ⟨tsP, hP1, hP2⟩ := partsUndel J12.p
    obtain ⟨tsQ, hQ1, hQ2⟩ := hmo12
    refine ⟨_, rfl, _, rfl, _, _, .lst hP1 (dpPairs hP2), .lst hQ1 (dpPairs hQ2), shapedP fun p hp => G.low p hp, shapedP fun p hp => G2.low p hp, ?_⟩
    refine ⟨_, rfl, _, rfl, _, _, .lst hP1 (dpPairs hP2), .lst hQ1 (dpPairs hQ2), shapedP fun p hp => G.low p hp, shapedP fun p hp => G2.low p hp, ?_⟩
    have e1 : PyData.eqv (.list (ps.map dPair)) (.list (qs.map dPair)) = decide (ps = qs) := eqvPairs ps qs
    rw [e1]
    refine ⟨(by show 2 ≤ sizeLine; decide), fun q2 hq2 => ⟨.ref q1, .ref q2, .list [.bool (decide (ps = qs)), .bool (decide (ps = qs))], rfl, .lst (SqL.of ((same_new hq2 _) _ _ hq12)) (.cons (.bl _) (.cons (.bl _) .nil)), .lst (SqL.of upd_same) (.cons (.bl _) (.cons (.bl _) .nil)), dk_bb _ _, fun H13 s13 => ⟨_, rfl, iteF ?_⟩⟩⟩
    have J13 := J12.same ((same_new hq2 _).trans s13)
    clear s13 hq2 q2 hq12 q1 e1 e12 J12 hP1 hP2 hQ1 hQ2 tsP tsQ
    refine ⟨_, rfl, _, rfl, b, l, pp, ps, rfl, J13.B, G, J13.p, J13.T, fun H14 B14 g14 T14 => ⟨_, rfl, iteF ⟨_, rfl, b, l, rfl, B14, fun H15 B15 b15 => ⟨_, rfl, iteF ?_⟩⟩⟩⟩
    have T15 := tabs_but B14 T14 b15
    clear b15 T14 g14 B14 J13
    refine ⟨4, rfl, by decide, by decide, for_range (n := 4) (fun i σ Hi => BagAt l Hi b ∧ Tabs T Hi ∧ ∃ v2 v3 v4 v5 v6 v7 v8 v9 : Option V, σ = [some (.ref sa), some (.ref b), v2, v3, v4, v5, v6, v7, v8, v9]) ⟨B15, T15, _, _, _, _, _, _, _, _, rfl⟩ ?_ ?_⟩
    · rintro j _ H hj ⟨B, hT, v2, v3, v4, v5, v6, v7, v8, v9, rfl⟩
      refine ⟨_, rfl, b, l, rfl, B, fun m rs H1 hm hmild B1 b1 => ?_⟩
      have T1 := tabs_but B hT b1
      have hsm : Small rs := mildSmall hmild (by decide)
      refine ⟨_, rfl, m, rs, rfl, partsUndel hm, hsm, fun hv H2 s2 => ?_, fun e he lD H2 s2 hlD0 hlD => ?_⟩
      · refine ⟨fun v H' => ∃ (l9 x : Addr), v = .ref l9 ∧ H' l9 = some (.lst [.str "told", .ref x]) ∧ LettersAt K CL H' x rs ∧ PartsAt K H' m rs ∧ BagAt l H' b ∧ Tabs T H', fun Q' k => ⟨tabs_same T1 s2, fun H3 e3 n3 T3 => ⟨_, rfl, m, rs, rfl, partsExt e3 ((partsUndel hm).same s2), hsm, by omega, hmild.1, fun _ x H4 s4 hx hLx => ⟨by decide, fun l9 hl9 => ?_⟩, fun e he => (by rw [hv] at he; cases he)⟩⟩, ?_⟩
        · have s5 := s4.trans (same_new hl9 (.lst [.str "told", .ref x]))
          exact k _ _ ⟨l9, x, rfl, upd_same, hLx.same (same_new hl9 _), (partsExt e3 ((partsUndel hm).same s2)).same s5, (bag_ext (B1.same s2) e3).same s5, tabs_same T3 s5⟩
        rintro _ H5 ⟨l9, x, rfl, hl9, hLx, hm5, B5, T5⟩
        exact ⟨_, rfl, rfl, _, rfl, iteF ⟨_, rfl, rfl, _, rfl, iteT ⟨_, rfl, l9, _, 0, .str "told", rfl, rfl, SqL.of hl9, rfl, rfl, _, rfl, iteF ⟨_, rfl, _, rfl, l9, _, 1, .ref x, rfl, rfl, SqL.of hl9, rfl, _, rfl, b, x, m, rs, rfl, GoodPs.of hv, hLx, hm5, fun H9 s9 => ⟨_, rfl, iteF ⟨B5.same s9, tabs_same T5 s9, _, _, _, _, _, _, _, _, rfl⟩⟩⟩⟩⟩⟩
      · obtain ⟨ds, hds, hdk⟩ := plain_verdict he
        refine ⟨fun v H' => ∃ l9 : Addr, v = .ref l9 ∧ H' l9 = some (.lst (errL e)) ∧ H' lD = some (.lst (errL e)) ∧ BagAt l H' b ∧ Tabs T H', fun Q' k => ⟨tabs_same T1 s2, fun H3 e3 n3 T3 => ⟨_, rfl, m, rs, rfl, partsExt e3 ((partsUndel hm).same s2), hsm, by omega, hmild.1, fun hv => (by rw [hv] at he; cases he), fun e' he' => ?_⟩⟩, ?_⟩
        · obtain rfl : e = e' := Option.some.inj (he.symm.trans he')
          exact raises_ask (known_verdict he) fun l9 H7 s7 hl9 hat9 => k _ _ ⟨l9, rfl, hat9, s7 _ _ (e3 _ _ hlD (fun _ e => nomatch e)), (bag_ext (B1.same s2) e3).same s7, tabs_same T3 s7⟩
        rintro _ H5 ⟨l9, rfl, hl9, hlD5, B5, T5⟩
        exact ⟨_, rfl, rfl, _, rfl, iteY rfl ⟨_, rfl, _, rfl, .ref l9, .ref lD, .list ds, rfl, .lst (SqL.of hl9) (hds _ _), .lst (SqL.of hlD5) (hds _ _), hdk, fun H8 s8 => ⟨_, rfl, iteF ⟨_, rfl, rfl, _, rfl, iteN rfl ⟨B5.same s8, tabs_same T5 s8, _, _, _, _, _, _, _, _, rfl⟩⟩⟩⟩⟩
    · rintro _ H ⟨B, hT, v2, v3, v4, v5, v6, v7, v8, v9, rfl⟩
      exact ⟨B, hT, _, _, _, _, _, _, _, _, rfl⟩
  · rintro _ H ⟨B, hT, v2, v3, v4, v5, v6, v7, v8, v9, rfl⟩
    exact q H
end
end K1

set_option Elab.async false
set_option linter.all false
set_option maxRecDepth 100000
set_option maxHeartbeats 4000000
namespace Fb
open PySem PySem.Spec PyProof.Rows L2
/-- what the written part says of a def of the top -/
structure RawF (K : PySem.W.Frag) (x : Str) (st : Stmt) (f : Addr) : Prop where
  ex : ∃ (oc : Value) (od : Option Addr) (kV dc pm : Value) (an : Option Addr) (cd ct : Value) (sl : Array (Option Value)), K.lookup f = some ⟨oc, od, .func (PySem.W.fnOf x x (defArgs st) (defBody st) (defScope st) .none kV dc pm an cd ct), sl⟩ ∧ PySem.W.codeIn K cd x = true ∧ PySem.W.keepIn K (.ref f) = true
theorem RawF.sat {K : PySem.W.Frag} {mg : Str → Option Value} {x : Str} {st : Stmt} {f : Addr} {ps : List Str} (R : RawF K x st f) (g : mg x = some (.ref f))
    (h : ∀ (kV doc pm : Value) (an : Option Addr) (cdv ct : Value) (us : List Value), us.length = ps.length → bindArgs (PySem.W.fnOf x x (defArgs st) (defBody st) (defScope st) .none kV doc pm an cdv ct) ⟨us, []⟩ = pure (ps.zip us)) : Sat K mg x st ps := by
  obtain ⟨oc, od, kV, dc, pm, an, cd, ct, sl, l, c, k⟩ := R.ex
  have F := fun_mk (st := st) l c k
  exact ⟨f, _, F, g, k, F.binds h⟩
theorem RawF.of {K : PySem.W.Frag} {x : Str} {st : Stmt} {f : Addr} {oc : Value} {od : Option Addr} {kV dc pm : Value} {an : Option Addr} {cd ct : Value} {sl : Array (Option Value)} (l : K.lookup f = some ⟨oc, od, .func (PySem.W.fnOf x x (defArgs st) (defBody st) (defScope st) .none kV dc pm an cd ct), sl⟩)
    (c : PySem.W.codeIn K cd x = true) (k : PySem.W.keepIn K (.ref f) = true) : RawF K x st f := ⟨⟨_, _, _, _, _, _, _, _, _, l, c, k⟩⟩
/-- what it says of an own error class -/
structure RawC (P : Program) (K : PySem.W.Frag) (qual f1 f2 : Str) (st : Stmt) (B newId ini : String) (bmB : List Value) (C : Addr) : Prop where
  q1 : PySem.W.excInitIn K C bmB newId = true
  q2 : PySem.W.excOver K C bmB = true
  sB : PySem.W.subIn K (.ref C) (.type B) = some true
  ks : PySem.W.ks_superIn K C C "__init__" = some (some (.builtin ini))
  cl : PySem.W.isClsIn K C = true
  hd : PySem.W.hasDictIn K C = true
  sa : PySem.W.findIn K (.ref C) "__setattr__" = some (some (.builtin "object.__setattr__"))
  ga : PySem.W.findIn K (.ref C) "__getattribute__" = some (some (.builtin "BaseException.__getattribute__"))
  gg : PySem.W.findIn K (.ref C) "__getattr__" = some none
  ex : PySem.W.subIn K (.ref C) (.type "BaseException") = some true
  ty : PySem.W.typeIn K (.ref C) = some (.type "type")
  kp : PySem.W.keepIn K (.ref C) = true
  ha : PySem.W.findIn K (.ref C) "__class__" = some (some (.builtin "object.__class__"))
  hm : PySem.W.mroIn K C (.type "object") = some true
  se : PySem.W.mroIn K C (.ref C) = some true
  no : PySem.W.findIn K (.ref C) "code" = some none
  n1 : PySem.W.findIn K (.ref C) f1 = some none
  n2 : PySem.W.findIn K (.ref C) f2 = some none
  fn : ∃ (fI c cc : Addr) (oc : Value) (od : Option Addr) (doc pm : Value) (an : Option Addr) (ct : Value) (osl : Array (Option Value)) (ccl : Value) (cdd : Option Addr) (vs : Array Value) (ccs : Array (Option Value)) (file : Str) (tf : Tok) (cl : Value) (cld : Option Addr) (csl : Array (Option Value)),
    PySem.W.findIn K (.ref C) "__init__" = some (some (.ref fI)) ∧ PySem.W.typeIn K (.ref fI) = some (.type "function") ∧
    K.lookup fI = some ⟨oc, od, .func (PySem.W.fnX "__init__" qual (defArgs st) (defBody st) (defScope st) [(("__class__" : Str), cc)] .none .none doc pm an (.ref c) ct), osl⟩ ∧ PySem.W.codeIn K (.ref c) qual = true ∧
    K.lookup c = some ⟨ccl, cdd, .fields vs, ccs⟩ ∧ vs[2]? = some (.str file tf) ∧ ((P.main.file : Str) == file) = true ∧ K.lookup cc = some ⟨cl, cld, .cell (some (.ref C)), csl⟩
theorem RawC.of {P : Program} {K : PySem.W.Frag} {qual f1 f2 : Str} {st : Stmt} {B newId ini : String} {bmB : List Value} {C fI c cc : Addr} {oc : Value} {od : Option Addr} {doc pm : Value} {an : Option Addr} {ct : Value} {osl : Array (Option Value)} {ccl : Value} {cdd : Option Addr} {vs : Array Value} {ccs : Array (Option Value)} {file : Str} {tf : Tok} {cl0 : Value} {cld : Option Addr} {csl : Array (Option Value)}
    (q1 : PySem.W.excInitIn K C bmB newId = true) (q2 : PySem.W.excOver K C bmB = true) (sB : PySem.W.subIn K (.ref C) (.type B) = some true) (ks : PySem.W.ks_superIn K C C "__init__" = some (some (.builtin ini))) (cl : PySem.W.isClsIn K C = true) (hd : PySem.W.hasDictIn K C = true)
    (sa : PySem.W.findIn K (.ref C) "__setattr__" = some (some (.builtin "object.__setattr__"))) (ga : PySem.W.findIn K (.ref C) "__getattribute__" = some (some (.builtin "BaseException.__getattribute__"))) (gg : PySem.W.findIn K (.ref C) "__getattr__" = some none) (ex : PySem.W.subIn K (.ref C) (.type "BaseException") = some true)
    (ty : PySem.W.typeIn K (.ref C) = some (.type "type")) (kp : PySem.W.keepIn K (.ref C) = true) (ha : PySem.W.findIn K (.ref C) "__class__" = some (some (.builtin "object.__class__"))) (hm : PySem.W.mroIn K C (.type "object") = some true) (se : PySem.W.mroIn K C (.ref C) = some true)
    (no : PySem.W.findIn K (.ref C) "code" = some none) (n1 : PySem.W.findIn K (.ref C) f1 = some none) (n2 : PySem.W.findIn K (.ref C) f2 = some none)
    (a1 : PySem.W.findIn K (.ref C) "__init__" = some (some (.ref fI))) (a2 : PySem.W.typeIn K (.ref fI) = some (.type "function"))
    (a3 : K.lookup fI = some ⟨oc, od, .func (PySem.W.fnX "__init__" qual (defArgs st) (defBody st) (defScope st) [(("__class__" : Str), cc)] .none .none doc pm an (.ref c) ct), osl⟩) (a4 : PySem.W.codeIn K (.ref c) qual = true)
    (a5 : K.lookup c = some ⟨ccl, cdd, .fields vs, ccs⟩) (a6 : vs[2]? = some (.str file tf)) (a7 : ((P.main.file : Str) == file) = true) (a8 : K.lookup cc = some ⟨cl0, cld, .cell (some (.ref C)), csl⟩) : RawC P K qual f1 f2 st B newId ini bmB C :=
  ⟨q1, q2, sB, ks, cl, hd, sa, ga, gg, ex, ty, kp, ha, hm, se, no, n1, n2, ⟨_, _, _, _, _, _, _, _, _, _, _, _, _, _, _, _, _, _, _, a1, a2, a3, a4, a5, a6, a7, a8⟩⟩
/-- the facts that all classes share -/
structure RawG (P : Program) (K : PySem.W.Frag) : Prop where
  th : PySem.W.nsIn K cStatics "thirdparty.any" = some none
  hn : PySem.W.specialIn K (.builtin "object.__class__") "__get__" = some (some (.builtin "getset_descriptor.__get__"))
  ht : PySem.W.takesIn K (.builtin "object.__class__") = some true
  tp : (P.main.scope.names.lookup ("super" : Str)).isSome = false
section
variable {P : Program} {K : PySem.W.Frag} {qual f1 f2 : Str} {st : Stmt} {B newId ini : String} {bmB : List Value} {C : Addr}
theorem RawC.ec (R : RawC P K qual f1 f2 st B newId ini bmB C) (g : RawG P K) (eb : ExcBaseFacts B newId ini bmB) (sf : StoreFacts B bmB "object.__setattr__" "object") (kx : PySem.W.KxsFacts B ini) : EC K C :=
  { by_ := ⟨B, newId, ini, bmB, ⟨eb, sf, kx, R.q1, R.q2, R.sB⟩, R.ks⟩, cl := R.cl, hd := R.hd, sa := R.sa, ga := R.ga, gg := R.gg, ex := R.ex, ty := R.ty, kp := R.kp, th := g.th }
theorem RawC.init (R : RawC P K qual f1 f2 st B newId ini bmB C) (g : RawG P K) : ∃ (fI : Addr) (fd : FuncData), PySem.W.findIn K (.ref C) "__init__" = some (some (.ref fI)) ∧ PySem.W.typeIn K (.ref fI) = some (.type "function") ∧ InitF P K C fI st qual fd := by
  obtain ⟨fI, c, cc, oc, od, doc, pm, an, ct, osl, ccl, cdd, vs, ccs, file, tf, cl, cld, csl, h1, h2, h3, h4, h5, h6, h7, h8⟩ := R.fn
  exact ⟨fI, _, h1, h2, ⟨oc, od, doc, pm, an, ct, osl, c, cc, rfl, h3, ⟨h4, rfl, ⟨ccl, cdd, vs, ccs, file, tf, h5, h6, h7⟩, ⟨cl, cld, csl, h8⟩, R.se, g.tp⟩⟩⟩
theorem RawC.eis (R : RawC P K qual f1 f2 st B newId ini bmB C) (g : RawG P K) : EIs K C := ⟨R.ha, g.hn, g.ht, R.hm⟩
end
def addrOf (l : List (Str × Addr)) (n : Str) : Addr := (l.lookup n).getD 0
abbrev spNot : Sp := fun _ _ _ _ => False
theorem Sat.none {P : Program} {w : World} {K : PySem.W.Frag} {mg : Str → Option Value} {base : Heap} {x : Str} {st : Stmt} {ps : List Str} (S : Sat K mg x st ps) (k : Nat) : Rd P w K mg base CX0 k x ps spNot := by
  obtain ⟨f, fd, F, g, kp, b⟩ := S.ex
  exact ⟨f, fd, ⟨fun _ _ _ _ h => h.elim, fun _ _ _ _ _ _ _ _ _ _ _ _ _ h => h.elim⟩, g, kp, b⟩
theorem Sat.rd {P : Program} {w : World} {K : PySem.W.Frag} {mg : Str → Option Value} {base : Heap} {CX : CXT} {k : Nat} {x : Str} {st : Stmt} {ps : List Str} {sp : Sp} (S : Sat K mg x st ps) (h : ∀ {f : Addr} {fd : FuncData}, Fun K x x st f fd → FnOk P w K mg base CX k f fd ps sp) : Rd P w K mg base CX k x ps sp := by
  obtain ⟨f, fd, F, g, kp, b⟩ := S.ex
  exact ⟨f, fd, h F, g, kp, b⟩
theorem Sat.rdW {P : Program} {w : World} {K : PySem.W.Frag} {mg : Str → Option Value} {base : Heap} {CX : CXT} {k : Nat} {x : Str} {st : Stmt} {ps : List Str} {sp : Sp} (S : Sat K mg x st ps) (h : ∀ {f : Addr} {fd : FuncData}, Fun K x x st f fd → FnW P w K mg base CX k f fd ps sp) : RdW P w K mg base CX k x ps sp := by
  obtain ⟨f, fd, F, g, kp, b⟩ := S.ex
  exact ⟨f, fd, h F, g, kp, b⟩
/-- a method of an own class, as the top has made it -/
structure RawM (K : PySem.W.Frag) (C : Addr) (m qual : Str) (st : Stmt) (f : Addr) : Prop where
  at_ : PySem.W.findIn K (.ref C) m = some (some (.ref f))
  fn : PySem.W.isFn K (.ref f) = true
  kp : PySem.W.keepIn K (.ref f) = true
  ex : ∃ (oc : Value) (od : Option Addr) (kV dc pm : Value) (an : Option Addr) (cd ct : Value) (sl : Array (Option Value)), K.lookup f = some ⟨oc, od, .func (PySem.W.fnOf m qual (defArgs st) (defBody st) (defScope st) .none kV dc pm an cd ct), sl⟩ ∧ PySem.W.codeIn K cd qual = true
theorem RawM.of {K : PySem.W.Frag} {C : Addr} {m qual : Str} {st : Stmt} {f : Addr} {oc : Value} {od : Option Addr} {kV dc pm : Value} {an : Option Addr} {cd ct : Value} {sl : Array (Option Value)} (a : PySem.W.findIn K (.ref C) m = some (some (.ref f))) (i : PySem.W.isFn K (.ref f) = true) (k : PySem.W.keepIn K (.ref f) = true)
    (l : K.lookup f = some ⟨oc, od, .func (PySem.W.fnOf m qual (defArgs st) (defBody st) (defScope st) .none kV dc pm an cd ct), sl⟩) (c : PySem.W.codeIn K cd qual = true) : RawM K C m qual st f := ⟨a, i, k, ⟨_, _, _, _, _, _, _, _, _, l, c⟩⟩
section
variable {P : Program} {w : World} {K : PySem.W.Frag} {mg : Str → Option Value} {base : Heap} {C : Addr} {m qual : Str} {st : Stmt} {f : Addr} {ps ks : List Str} {CX : CXT} {k : Nat} {sp : Sp}
theorem RawM.meth (R : RawM K C m qual st f) : Meth K C m f := ⟨R.at_, R.fn, R.kp⟩
theorem RawM.fun_ (R : RawM K C m qual st f) : ∃ fd, Fun K m qual st f fd := by
  obtain ⟨oc, od, kV, dc, pm, an, cd, ct, sl, l, c⟩ := R.ex
  exact ⟨_, fun_mk (st := st) l c R.kp⟩
theorem RawM.mt (R : RawM K C m qual st f) (h : ∀ {fd : FuncData}, Fun K m qual st f fd → FnOk P w K mg base CX k f fd ps sp)
    (b : ∀ (kV doc pm : Value) (an : Option Addr) (cdv ct : Value) (us : List Value), us.length = ps.length → bindArgs (PySem.W.fnOf m qual (defArgs st) (defBody st) (defScope st) .none kV doc pm an cdv ct) ⟨us, []⟩ = pure (ps.zip us)) : Mt P w K mg base CX k C m ps sp := by
  obtain ⟨fd, F⟩ := R.fun_
  exact ⟨f, fd, h F, R.meth, F.binds b⟩
theorem RawM.mtK {g : List Value → List Value → List Value} {gV : List V → List V → List V} (R : RawM K C m qual st f) (h : ∀ {fd : FuncData}, Fun K m qual st f fd → FnOk P w K mg base CX k f fd ps sp)
    (b : ∀ (kV doc pm : Value) (an : Option Addr) (cdv ct : Value) (us ws : List Value), (g us ws).length = ps.length → bindArgs (PySem.W.fnOf m qual (defArgs st) (defBody st) (defScope st) .none kV doc pm an cdv ct) ⟨us, ks.zip ws⟩ = pure (ps.zip (g us ws)))
    (r : ∀ {vs : List V} {us : List Value} {zs : List V} {ws : List Value}, Vals vs us → Vals zs ws → Vals (gV vs zs) (g us ws)) : MtK P w K mg base CX k C m ps sp ks g gV := by
  obtain ⟨oc, od, kV, dc, pm, an, cd, ct, sl, l, c⟩ := R.ex
  have F := fun_mk (st := st) l c R.kp
  exact ⟨f, _, h F, R.meth, ⟨fun s us ws _ hl => .of_eq (b kV dc pm an cd ct us ws hl), r⟩⟩
end
/-- o.m(k = v): self, then the one -/
def gOne : List Value → List Value → List Value
  | [a], [l] => [a, l]
  | _, _ => []
def gOneV : List V → List V → List V
  | [a], [l] => [a, l]
  | _, _ => []
theorem rel_one : ∀ {vs : List V} {us : List Value} {zs : List V} {ws : List Value}, Vals vs us → Vals zs ws → Vals (gOneV vs zs) (gOne us ws)
  | _, _, _, _, .nil, _ => .nil
  | _, _, _, _, .cons _ .nil, .nil => .nil
  | _, _, _, _, .cons r .nil, .cons s .nil => .cons r (.cons s .nil)
  | _, _, _, _, .cons _ .nil, .cons _ (.cons _ _) => .nil
  | _, _, _, _, .cons _ (.cons _ _), _ => .nil
theorem rel_seen : ∀ {vs : List V} {us : List Value} {zs : List V} {ws : List Value}, Vals vs us → Vals zs ws → Vals (gSeenV vs zs) (gSeen us ws)
  | _, _, _, _, .nil, _ => .nil
  | _, _, _, _, .cons _ .nil, .nil => .nil
  | _, _, _, _, .cons _ .nil, .cons _ .nil => .nil
  | _, _, _, _, .cons r .nil, .cons n (.cons l .nil) => .cons r (.cons l (.cons n .nil))
  | _, _, _, _, .cons _ .nil, .cons _ (.cons _ (.cons _ _)) => .nil
  | _, _, _, _, .cons _ (.cons _ _), _ => .nil
/-- a def of the top that makes lambdas: its code object at c, that one's table at T -/
structure RawT (K : PySem.W.Frag) (x : Str) (st : Stmt) (f c T : Addr) : Prop where
  ex : ∃ (oc : Value) (od : Option Addr) (kV dc pm : Value) (an : Option Addr) (ct : Value) (sl : Array (Option Value)), K.lookup f = some ⟨oc, od, .func (PySem.W.fnOf x x (defArgs st) (defBody st) (defScope st) .none kV dc pm an (.ref c) ct), sl⟩
  cd : PySem.W.codeIn K (.ref c) x = true
  kp : PySem.W.keepIn K (.ref f) = true
  tab : PySem.W.tabIn K x = some (c, T)
  nl : K.lookup T = none
theorem RawT.of {K : PySem.W.Frag} {x : Str} {st : Stmt} {f c T : Addr} {oc : Value} {od : Option Addr} {kV dc pm : Value} {an : Option Addr} {ct : Value} {sl : Array (Option Value)} {e : Value} {dd : Option Addr} {vs : Array Value} {sl2 : Array (Option Value)} (g : PySem.W.nsIn K mainGlobals x = some (some (.ref f)))
    (l : K.lookup f = some ⟨oc, od, .func (PySem.W.fnOf x x (defArgs st) (defBody st) (defScope st) .none kV dc pm an (.ref c) ct), sl⟩) (cd : PySem.W.codeIn K (.ref c) x = true) (kp : PySem.W.keepIn K (.ref f) = true) (lc : K.lookup c = some ⟨e, dd, .fields vs, sl2⟩) (hv : vs[11]? = some (.ref T)) (nl : K.lookup T = none) : RawT K x st f c T := by
  refine ⟨⟨_, _, _, _, _, _, _, _, l⟩, cd, kp, ?_, nl⟩
  unfold PySem.W.tabIn
  simp only [g, l, lc, hv]
section
variable {P : Program} {w : World} {K : PySem.W.Frag} {mg : Str → Option Value} {base : Heap} {x : Str} {st : Stmt} {f c T : Addr} {ps : List Str} {CX : CXT} {k : Nat} {sp : Sp}
theorem RawT.fc (R : RawT K x st f c T) : ∃ fd, FunC K x x st f fd c := by
  obtain ⟨oc, od, kV, dc, pm, an, ct, sl, l⟩ := R.ex
  exact ⟨_, ⟨oc, od, kV, dc, pm, an, ct, sl, rfl, l, R.cd⟩⟩
theorem RawT.rd (R : RawT K x st f c T) (g : mg x = some (.ref f)) (h : ∀ {fd : FuncData}, FunC K x x st f fd c → FnOk P w K mg base CX k f fd ps sp)
    (b : ∀ (kV doc pm : Value) (an : Option Addr) (cdv ct : Value) (us : List Value), us.length = ps.length → bindArgs (PySem.W.fnOf x x (defArgs st) (defBody st) (defScope st) .none kV doc pm an cdv ct) ⟨us, []⟩ = pure (ps.zip us)) : Rd P w K mg base CX k x ps sp := by
  obtain ⟨oc, od, kV, dc, pm, an, ct, sl, l⟩ := R.ex
  exact ⟨f, _, h ⟨oc, od, kV, dc, pm, an, ct, sl, rfl, l, R.cd⟩, g, R.kp, .all (b kV dc pm an (.ref c) ct)⟩
end
/-- an own class without a base, as the top has made it -/
structure RawL (K : PySem.W.Frag) (C : Addr) : Prop where
  pg : PySem.W.plainGet K C Str.empty = true
  hd : PySem.W.hasDictIn K C = true
  po : PySem.W.plainOver K C = true
  sa : PySem.W.findIn K (.ref C) "__setattr__" = some (some (.builtin "object.__setattr__"))
  mks : PySem.W.makesIn K C = true
  kp : PySem.W.keepIn K (.ref C) = true
theorem RawL.cls {K : PySem.W.Frag} {C : Addr} (R : RawL K C) : Cls K C := ⟨R.pg, R.hd, R.po, R.sa⟩
/-- the end of a row, all tables of its defs at hand -/
theorem walk_ofAll {l : PySem.W.OpenLaw} {n k : Nat} {q : Program} {loose : List Str} {XP : (Str → Option Value) → Heap → Prop} {YP : World → Heap → Prop} {d : DefRec} {K : Params → PySem.W.Frag} {CX : World → CXT} {x : Str}
    (hn : l.most = some n) (hn2 : n ≤ sizeLine) (hdf : d.params.defaults = []) (hr : Room k callerA) (hY : ∀ (w : World) (h : Heap), YP w h → (K w.params).In h)
    (F : ∀ (w : World) (mg : Str → Option Value) (fa : Addr) (h : Heap), YP w h → (K w.params).In h → h.Ns mainGlobals mg → mg d.name = some (.ref fa) →
      (∀ (y : Str) (c T : Addr), ((recsOf q).find? (fun e => e.name == y)).isSome = true → PySem.W.tabIn (K w.params) y = some (c, T) → PySem.W.CodeHd h c T ∧ h.get? T = some { cls := .none, data := .fields #[] }) → LamX.LawAtS l w (K w.params) (CX w) k n x mg fa h)
    (hCX : ∀ (w : World) (H : Hp) (s : Shared) (e : Value) (s' : Shared), CX w [] H s (fun _ _ _ => False) e s' → False) :
    PySem.W.WalkO q loose XP YP l.row.toRowW d [] (fun f vs => PySem.call f vs) := by
  refine Att.attach_callB hn hdf fun w s₀ s₁ mg mb fa o pm cd doc a vs ns G Y ho hd hcd hmg hobj hints hlen hbits hg => ?_
  have KX := hY w _ Y
  obtain ⟨fd, cs, sp, hT, nT, C, hb, hsp, hF⟩ := F w mg fa _ Y KX G.T.g hmg (fun y c T hs ht => by
    obtain ⟨d', hd'⟩ := Option.isSome_iff_exists.mp hs
    exact PySem.W.tab_of G.T KX hd' ht)
  exact LamX.law_callTs KX G.T.g G.T.b G.T.builtins G.T.nolimit hg hT nT C G.T.bmain hobj hints (Nat.le_trans hlen hn2) hr hF hb (fun H hH hS => hsp H a ns hlen hbits hH hS) fun H e s' => hCX w H s₁ e s'
/-- what the ends of a row hand over -/
def EndsOf (q P : Program) (w : World) (K : PySem.W.Frag) (mg : Str → Option Value) (fa : Addr) (k : Nat) : Prop :=
  ∃ (fd : FuncData) (cs : List (Addr × Addr)) (sp : Sp), (∀ p ∈ cs, K.lookup p.2 = none ∧ ∃ y : Str, ((recsOf q).find? (fun e => e.name == y)).isSome = true ∧ PySem.W.tabIn K y = some (p.1, p.2)) ∧ (∀ (s : Shared) (u : Value), BindsTo s fd ⟨[u], []⟩ [("script", u)]) ∧
    (∀ (H : Hp) (a : Addr) (ns : List Int), ns.length ≤ 63 → (∀ p ∈ cs, H p.2 = some (.tbl #[])) → SqL K H a (ns.map V.int) → sp [.ref a] H (fun v _ => v = .bl true) fun _ _ _ => False) ∧
    ∀ base : Heap, K.In base → base.Ns mainGlobals mg → (∀ p ∈ cs, LamX.TabB base mg p.1 p.2) → FnOk P w K mg base CX0 k fa fd ["script"] sp
theorem fin {l : PySem.W.OpenLaw} {q : Program} {w : World} {K : PySem.W.Frag} {mg : Str → Option Value} {fa : Addr} {h : Heap} {k : Nat}
    (TT : ∀ (y : Str) (c T : Addr), ((recsOf q).find? (fun e => e.name == y)).isSome = true → PySem.W.tabIn K y = some (c, T) → PySem.W.CodeHd h c T ∧ h.get? T = some { cls := .none, data := .fields #[] }) (e : EndsOf q l.prog w K mg fa k) : LamX.LawAtS l w K CX0 k 63 "script" mg fa h := by
  obtain ⟨fd, cs, sp, h1, h2, h3, h4⟩ := e
  refine ⟨fd, cs, sp, fun p hp => ?_, fun p hp => (h1 p hp).1, fun p hp => ?_, h2, fun H a ns hl _ hT hS => h3 H a ns hl hT hS, h4⟩
  · obtain ⟨_, y, hy, ht⟩ := h1 p hp
    exact (TT y _ _ hy ht).2
  · obtain ⟨_, y, hy, ht⟩ := h1 p hp
    exact (TT y _ _ hy ht).1
end Fb

set_option Elab.async false
set_option linter.all false
set_option maxRecDepth 100000
set_option maxHeartbeats 4000000
namespace K1
open PySem PySem.Spec PyProof.Rows L2 Fb RZ LamX
/-- what a class is an instance of, what catches it -/
def kitChk (K : PySem.W.Frag) (C : Str → Addr) : Bool := tbl.all fun p => (tbl.all fun q => PySem.W.kitOne K (.ref (C p.1)) (.ref (C q.1)) == some (decide (q.1 = p.1))) && (PySem.W.exmAny K (.ref (C p.1)) [.ref (C "RuleError"), .ref (C "Missing")] == some true)
theorem kitChk_of {K : PySem.W.Frag} {C : Str → Addr} (h : kitChk K C = true) : (∀ p ∈ tbl, ∀ q ∈ tbl, PySem.W.kitOne K (.ref (C p.1)) (.ref (C q.1)) = some (decide (q.1 = p.1))) ∧ ∀ x fl, (x, fl) ∈ tbl → PySem.W.exmAny K (.ref (C x)) [.ref (C "RuleError"), .ref (C "Missing")] = some true := by
  refine ⟨fun p hp q hq => ?_, fun x fl hm => ?_⟩
  · have e := List.all_eq_true.mp h _ hp
    rw [Bool.and_eq_true] at e
    exact eq_of_beq (List.all_eq_true.mp e.1 q hq)
  · have e := List.all_eq_true.mp h _ hm
    rw [Bool.and_eq_true] at e
    exact eq_of_beq e.2
section
variable {P : Program} {w : World} {K : PySem.W.Frag} {mg : Str → Option Value} {base : Heap}
theorem cl_BadText {C : Addr} (R : RawC P K "BadText.__init__" "line" "why" sBadText "ValueError" "ValueError.__new__" "ValueError.__init__" [.type "ValueError", .type "Exception", .type "BaseException", .type "object"] C) (g : RawG P K) (gC : mg "BadText" = some (.ref C)) (ms : mg "super" = none) : Fb.Cl P w K mg base "BadText" ["line", "why"] C := by
  have ec := R.ec g PySem.F.excBase_ValueError PySem.F.store_ValueError PySem.W.kxs_ValueError
  obtain ⟨fI, fd, iC, tI, S⟩ := R.init g
  have no : NoF K C ["line", "why"] := ⟨R.no, fun f hf => by
      simp only [List.mem_cons, List.not_mem_nil, or_false] at hf
      rcases hf with rfl | rfl
      · exact R.n1
      · exact R.n2⟩
  exact ⟨gC, ⟨fI, fd, ⟨ec, iC, tI⟩, ok_BadText ec S no ms, S.binds (fun doc pm an ct c cc us hl => match us, hl with | [_, _, _], _ => rfl), ⟨S.kbn (fun doc pm an ct c cc us ws h1 h2 => match us, h1, ws, h2 with | [_], _, [_, _], _ => rfl) rel_app, S.kbn (fun doc pm an ct c cc us ws h1 h2 => match us, h1, ws, h2 with | [_], _, [_, _], _ => rfl) rel_rev, S.kbn (fun doc pm an ct c cc us ws h1 h2 => match us, h1, ws, h2 with | [_, _], _, [_], _ => rfl) rel_app⟩⟩, R.eis g, no⟩
theorem cl_BadLetters {C : Addr} (R : RawC P K "BadLetters.__init__" "at" "at" sBadLetters "ValueError" "ValueError.__new__" "ValueError.__init__" [.type "ValueError", .type "Exception", .type "BaseException", .type "object"] C) (g : RawG P K) (gC : mg "BadLetters" = some (.ref C)) (ms : mg "super" = none) : Fb.Cl P w K mg base "BadLetters" ["at"] C := by
  have ec := R.ec g PySem.F.excBase_ValueError PySem.F.store_ValueError PySem.W.kxs_ValueError
  obtain ⟨fI, fd, iC, tI, S⟩ := R.init g
  have no : NoF K C ["at"] := ⟨R.no, fun f hf => by rcases List.mem_singleton.mp hf with rfl; exact R.n1⟩
  exact ⟨gC, ⟨fI, fd, ⟨ec, iC, tI⟩, ok_BadLetters ec S no ms, S.binds (fun doc pm an ct c cc us hl => match us, hl with | [_, _], _ => rfl), S.kbn (fun doc pm an ct c cc us ws h1 h2 => match us, h1, ws, h2 with | [_], _, [_], _ => rfl) rel_app⟩, R.eis g, no⟩
theorem cl_BadNumber {C : Addr} (R : RawC P K "BadNumber.__init__" "value" "value" sBadNumber "ValueError" "ValueError.__new__" "ValueError.__init__" [.type "ValueError", .type "Exception", .type "BaseException", .type "object"] C) (g : RawG P K) (gC : mg "BadNumber" = some (.ref C)) (ms : mg "super" = none) : Fb.Cl P w K mg base "BadNumber" ["value"] C := by
  have ec := R.ec g PySem.F.excBase_ValueError PySem.F.store_ValueError PySem.W.kxs_ValueError
  obtain ⟨fI, fd, iC, tI, S⟩ := R.init g
  have no : NoF K C ["value"] := ⟨R.no, fun f hf => by rcases List.mem_singleton.mp hf with rfl; exact R.n1⟩
  exact ⟨gC, ⟨fI, fd, ⟨ec, iC, tI⟩, ok_BadNumber ec S no ms, S.binds (fun doc pm an ct c cc us hl => match us, hl with | [_, _], _ => rfl), S.kbn (fun doc pm an ct c cc us ws h1 h2 => match us, h1, ws, h2 with | [_], _, [_], _ => rfl) rel_app⟩, R.eis g, no⟩
theorem cl_TooMany {C : Addr} (R : RawC P K "TooMany.__init__" "what" "found" sTooMany "ValueError" "ValueError.__new__" "ValueError.__init__" [.type "ValueError", .type "Exception", .type "BaseException", .type "object"] C) (g : RawG P K) (gC : mg "TooMany" = some (.ref C)) (ms : mg "super" = none) : Fb.Cl P w K mg base "TooMany" ["what", "found"] C := by
  have ec := R.ec g PySem.F.excBase_ValueError PySem.F.store_ValueError PySem.W.kxs_ValueError
  obtain ⟨fI, fd, iC, tI, S⟩ := R.init g
  have no : NoF K C ["what", "found"] := ⟨R.no, fun f hf => by
      simp only [List.mem_cons, List.not_mem_nil, or_false] at hf
      rcases hf with rfl | rfl
      · exact R.n1
      · exact R.n2⟩
  exact ⟨gC, ⟨fI, fd, ⟨ec, iC, tI⟩, ok_TooMany ec S no ms, S.binds (fun doc pm an ct c cc us hl => match us, hl with | [_, _, _], _ => rfl), ⟨S.kbn (fun doc pm an ct c cc us ws h1 h2 => match us, h1, ws, h2 with | [_], _, [_, _], _ => rfl) rel_app, S.kbn (fun doc pm an ct c cc us ws h1 h2 => match us, h1, ws, h2 with | [_], _, [_, _], _ => rfl) rel_rev, S.kbn (fun doc pm an ct c cc us ws h1 h2 => match us, h1, ws, h2 with | [_, _], _, [_], _ => rfl) rel_app⟩⟩, R.eis g, no⟩
theorem cl_UnknownPart {C : Addr} (R : RawC P K "UnknownPart.__init__" "name" "name" sUnknownPart "LookupError" "LookupError.__new__" "LookupError.__init__" [.type "LookupError", .type "Exception", .type "BaseException", .type "object"] C) (g : RawG P K) (gC : mg "UnknownPart" = some (.ref C)) (ms : mg "super" = none) : Fb.Cl P w K mg base "UnknownPart" ["name"] C := by
  have ec := R.ec g PySem.F.excBase_LookupError PySem.F.store_LookupError PySem.W.kxs_LookupError
  obtain ⟨fI, fd, iC, tI, S⟩ := R.init g
  have no : NoF K C ["name"] := ⟨R.no, fun f hf => by rcases List.mem_singleton.mp hf with rfl; exact R.n1⟩
  exact ⟨gC, ⟨fI, fd, ⟨ec, iC, tI⟩, ok_UnknownPart ec S no ms, S.binds (fun doc pm an ct c cc us hl => match us, hl with | [_, _], _ => rfl), S.kbn (fun doc pm an ct c cc us ws h1 h2 => match us, h1, ws, h2 with | [_], _, [_], _ => rfl) rel_app⟩, R.eis g, no⟩
end
section
variable {P : Program} {w : World} {K : PySem.W.Frag} {mg : Str → Option Value}
theorem ends {Q : Program} {h : Heap} {fa cBadText cBadLetters cBadNumber cTooMany cUnknownPart cRuleError cMissing f_bag f_draw f_of f_like f_is_name f_name f_fresh f_parts f_letters f_listed f_parts_text f_fault f_ask_any f_odd f_letters_of f_due f_due_text f_bent_part f_some_parts f_seen f_some_names f_told_so f_strangers_so f_other_parts f_texts_so f_names_so f_seen_twice_so p_law p_is_name p_are_signs p_check_parts p_check_many p_letters_of p_read_letters kp_law kf_strangers_so kf_texts_so tp_law tf_strangers_so tf_texts_so CLetters Letters_m_init Letters_m_listed Letters_m_is_letter Letters_m_place Letters_m_signs_of Letters_m_seen Letters_m_str Letters_m_repr Letters_m_eq Letters_m_len Letters_m_contains : Addr} {t_MOST_IN_NAME t_LOWERCASE t_MOST_SIGNS t_SIGNS t_MOST_PARTS t_MOST_LETTERS : Tok} (X : K.In h) (G : h.Ns mainGlobals mg) (hfa : mg "law" = some (.ref fa)) (g : RawG P K)
    (gBadText : PySem.W.nsIn K mainGlobals "BadText" = some (some (.ref cBadText)))
    (gBadLetters : PySem.W.nsIn K mainGlobals "BadLetters" = some (some (.ref cBadLetters)))
    (gBadNumber : PySem.W.nsIn K mainGlobals "BadNumber" = some (some (.ref cBadNumber)))
    (gTooMany : PySem.W.nsIn K mainGlobals "TooMany" = some (some (.ref cTooMany)))
    (gUnknownPart : PySem.W.nsIn K mainGlobals "UnknownPart" = some (some (.ref cUnknownPart)))
    (gRuleError : PySem.W.nsIn K mainGlobals "RuleError" = some (some (.ref cRuleError)))
    (gMissing : PySem.W.nsIn K mainGlobals "Missing" = some (some (.ref cMissing)))
    (rBadText : RawC P K "BadText.__init__" "line" "why" sBadText "ValueError" "ValueError.__new__" "ValueError.__init__" [.type "ValueError", .type "Exception", .type "BaseException", .type "object"] cBadText)
    (rBadLetters : RawC P K "BadLetters.__init__" "at" "at" sBadLetters "ValueError" "ValueError.__new__" "ValueError.__init__" [.type "ValueError", .type "Exception", .type "BaseException", .type "object"] cBadLetters)
    (rBadNumber : RawC P K "BadNumber.__init__" "value" "value" sBadNumber "ValueError" "ValueError.__new__" "ValueError.__init__" [.type "ValueError", .type "Exception", .type "BaseException", .type "object"] cBadNumber)
    (rTooMany : RawC P K "TooMany.__init__" "what" "found" sTooMany "ValueError" "ValueError.__new__" "ValueError.__init__" [.type "ValueError", .type "Exception", .type "BaseException", .type "object"] cTooMany)
    (rUnknownPart : RawC P K "UnknownPart.__init__" "name" "name" sUnknownPart "LookupError" "LookupError.__new__" "LookupError.__init__" [.type "LookupError", .type "Exception", .type "BaseException", .type "object"] cUnknownPart)
    (gf_bag : PySem.W.nsIn K mainGlobals "_law_bag" = some (some (.ref f_bag))) (rf_bag : RawF K "_law_bag" sBag f_bag)
    (gf_draw : PySem.W.nsIn K mainGlobals "_law_draw" = some (some (.ref f_draw))) (rf_draw : RawF K "_law_draw" sDraw f_draw)
    (gf_of : PySem.W.nsIn K mainGlobals "_law_of" = some (some (.ref f_of))) (rf_of : RawF K "_law_of" sOf f_of)
    (gf_like : PySem.W.nsIn K mainGlobals "_law_like" = some (some (.ref f_like))) (rf_like : RawF K "_law_like" sLike f_like)
    (gf_is_name : PySem.W.nsIn K mainGlobals "_law_is_name" = some (some (.ref f_is_name))) (rf_is_name : RawF K "_law_is_name" sLawIsName f_is_name)
    (gf_name : PySem.W.nsIn K mainGlobals "_law_name" = some (some (.ref f_name))) (rf_name : RawF K "_law_name" sName f_name)
    (gf_fresh : PySem.W.nsIn K mainGlobals "_law_fresh" = some (some (.ref f_fresh))) (rf_fresh : RawF K "_law_fresh" sFresh f_fresh)
    (gf_parts : PySem.W.nsIn K mainGlobals "_law_parts" = some (some (.ref f_parts))) (rf_parts : RawF K "_law_parts" sParts f_parts)
    (gf_letters : PySem.W.nsIn K mainGlobals "_law_letters" = some (some (.ref f_letters))) (rf_letters : RawF K "_law_letters" sLetters f_letters)
    (gf_listed : PySem.W.nsIn K mainGlobals "_law_listed" = some (some (.ref f_listed))) (rf_listed : RawF K "_law_listed" sListed f_listed)
    (gf_parts_text : PySem.W.nsIn K mainGlobals "_law_parts_text" = some (some (.ref f_parts_text))) (rf_parts_text : RawF K "_law_parts_text" sPartsText f_parts_text)
    (gf_fault : PySem.W.nsIn K mainGlobals "_law_fault" = some (some (.ref f_fault))) (rf_fault : RawF K "_law_fault" sFault f_fault)
    (gf_ask_any : PySem.W.nsIn K mainGlobals "_law_ask_any" = some (some (.ref f_ask_any))) (rf_ask_any : RawF K "_law_ask_any" sAsk f_ask_any)
    (gf_odd : PySem.W.nsIn K mainGlobals "_law_odd" = some (some (.ref f_odd))) (rf_odd : RawF K "_law_odd" sOdd f_odd)
    (gf_letters_of : PySem.W.nsIn K mainGlobals "_law_letters_of" = some (some (.ref f_letters_of))) (rf_letters_of : RawF K "_law_letters_of" sLettersOfL f_letters_of)
    (gf_due : PySem.W.nsIn K mainGlobals "_law_due" = some (some (.ref f_due))) (rf_due : RawF K "_law_due" sDue f_due)
    (gf_due_text : PySem.W.nsIn K mainGlobals "_law_due_text" = some (some (.ref f_due_text))) (rf_due_text : RawF K "_law_due_text" sDueT f_due_text)
    (gf_bent_part : PySem.W.nsIn K mainGlobals "_law_bent_part" = some (some (.ref f_bent_part))) (rf_bent_part : RawF K "_law_bent_part" sBent f_bent_part)
    (gf_some_parts : PySem.W.nsIn K mainGlobals "_law_some_parts" = some (some (.ref f_some_parts))) (rf_some_parts : RawF K "_law_some_parts" sSomeParts f_some_parts)
    (gf_seen : PySem.W.nsIn K mainGlobals "_law_seen" = some (some (.ref f_seen))) (rf_seen : RawF K "_law_seen" sSeen f_seen)
    (gf_some_names : PySem.W.nsIn K mainGlobals "_law_some_names" = some (some (.ref f_some_names))) (rf_some_names : RawF K "_law_some_names" sSomeNames f_some_names)
    (gf_told_so : PySem.W.nsIn K mainGlobals "_law_told_so" = some (some (.ref f_told_so))) (rf_told_so : RawF K "_law_told_so" sToldSo f_told_so)
    (gf_strangers_so : PySem.W.nsIn K mainGlobals "_law_strangers_so" = some (some (.ref f_strangers_so))) (rf_strangers_so : RawT K "_law_strangers_so" sStrange f_strangers_so kf_strangers_so tf_strangers_so)
    (gf_other_parts : PySem.W.nsIn K mainGlobals "_law_other_parts" = some (some (.ref f_other_parts))) (rf_other_parts : RawF K "_law_other_parts" sOther f_other_parts)
    (gf_texts_so : PySem.W.nsIn K mainGlobals "_law_texts_so" = some (some (.ref f_texts_so))) (rf_texts_so : RawT K "_law_texts_so" sTexts f_texts_so kf_texts_so tf_texts_so)
    (gf_names_so : PySem.W.nsIn K mainGlobals "_law_names_so" = some (some (.ref f_names_so))) (rf_names_so : RawF K "_law_names_so" sNamesSo f_names_so)
    (gf_seen_twice_so : PySem.W.nsIn K mainGlobals "_law_seen_twice_so" = some (some (.ref f_seen_twice_so))) (rf_seen_twice_so : RawF K "_law_seen_twice_so" sTwice f_seen_twice_so)
    (gp_law : PySem.W.nsIn K mainGlobals "law" = some (some (.ref p_law))) (rp_law : RawT K "law" sLaw p_law kp_law tp_law)
    (gp_is_name : PySem.W.nsIn K mainGlobals "is_name" = some (some (.ref p_is_name))) (rp_is_name : RawF K "is_name" sIsName p_is_name)
    (gp_are_signs : PySem.W.nsIn K mainGlobals "_are_signs" = some (some (.ref p_are_signs))) (rp_are_signs : RawF K "_are_signs" sAreSigns p_are_signs)
    (gp_check_parts : PySem.W.nsIn K mainGlobals "_check_parts" = some (some (.ref p_check_parts))) (rp_check_parts : RawF K "_check_parts" sCheckParts p_check_parts)
    (gp_check_many : PySem.W.nsIn K mainGlobals "_check_many" = some (some (.ref p_check_many))) (rp_check_many : RawF K "_check_many" sMany p_check_many)
    (gp_letters_of : PySem.W.nsIn K mainGlobals "_letters_of" = some (some (.ref p_letters_of))) (rp_letters_of : RawF K "_letters_of" sLettersOf p_letters_of)
    (gp_read_letters : PySem.W.nsIn K mainGlobals "read_letters" = some (some (.ref p_read_letters))) (rp_read_letters : RawF K "read_letters" sRead p_read_letters)
    (gLetters : PySem.W.nsIn K mainGlobals "Letters" = some (some (.ref CLetters))) (rLetters : RawL K CLetters)
    (nLetters_names : PySem.W.findIn K (.ref CLetters) "names" = some none)
    (nLetters_signs : PySem.W.findIn K (.ref CLetters) "signs" = some none)
    (nLetters__all : PySem.W.findIn K (.ref CLetters) "_all" = some none)
    (nLetters__places : PySem.W.findIn K (.ref CLetters) "_places" = some none)
    (rLetters_m_init : RawM K CLetters "__init__" "Letters.__init__" sInit Letters_m_init)
    (rLetters_m_listed : RawM K CLetters "listed" "Letters.listed" (sM 1) Letters_m_listed)
    (rLetters_m_is_letter : RawM K CLetters "is_letter" "Letters.is_letter" (sM 2) Letters_m_is_letter)
    (rLetters_m_place : RawM K CLetters "place" "Letters.place" (sM 3) Letters_m_place)
    (rLetters_m_signs_of : RawM K CLetters "signs_of" "Letters.signs_of" (sM 4) Letters_m_signs_of)
    (rLetters_m_seen : RawM K CLetters "seen" "Letters.seen" (sM 5) Letters_m_seen)
    (rLetters_m_str : RawM K CLetters "__str__" "Letters.__str__" (sM 6) Letters_m_str)
    (rLetters_m_repr : RawM K CLetters "__repr__" "Letters.__repr__" (sM 7) Letters_m_repr)
    (rLetters_m_eq : RawM K CLetters "__eq__" "Letters.__eq__" (sM 8) Letters_m_eq)
    (rLetters_m_len : RawM K CLetters "__len__" "Letters.__len__" (sM 9) Letters_m_len)
    (rLetters_m_contains : RawM K CLetters "__contains__" "Letters.__contains__" (sM 10) Letters_m_contains)
    (g_MOST_IN_NAME : PySem.W.nsIn K mainGlobals "MOST_IN_NAME" = some (some (.int 6 t_MOST_IN_NAME)))
    (g_LOWERCASE : PySem.W.nsIn K mainGlobals "LOWERCASE" = some (some (.str lowers t_LOWERCASE)))
    (g_MOST_SIGNS : PySem.W.nsIn K mainGlobals "MOST_SIGNS" = some (some (.int 16 t_MOST_SIGNS)))
    (g_SIGNS : PySem.W.nsIn K mainGlobals "SIGNS" = some (some (.str signsS t_SIGNS)))
    (g_MOST_PARTS : PySem.W.nsIn K mainGlobals "MOST_PARTS" = some (some (.int 4 t_MOST_PARTS)))
    (g_MOST_LETTERS : PySem.W.nsIn K mainGlobals "MOST_LETTERS" = some (some (.int 16 t_MOST_LETTERS)))
    (nint : PySem.W.nsIn K mainGlobals "int" = some none)
    (nlist : PySem.W.nsIn K mainGlobals "list" = some none)
    (nlen : PySem.W.nsIn K mainGlobals "len" = some none)
    (nrange : PySem.W.nsIn K mainGlobals "range" = some none)
    (ntuple : PySem.W.nsIn K mainGlobals "tuple" = some none)
    (nisinstance : PySem.W.nsIn K mainGlobals "isinstance" = some none)
    (nbool : PySem.W.nsIn K mainGlobals "bool" = some none)
    (nstr : PySem.W.nsIn K mainGlobals "str" = some none)
    (nall : PySem.W.nsIn K mainGlobals "all" = some none)
    (nzip : PySem.W.nsIn K mainGlobals "zip" = some none)
    (nsuper : PySem.W.nsIn K mainGlobals "super" = some none)
    (nset : PySem.W.nsIn K mainGlobals "set" = some none)
    (nenumerate : PySem.W.nsIn K mainGlobals "enumerate" = some none)
    (nmax : PySem.W.nsIn K mainGlobals "max" = some none)
    (nrepr : PySem.W.nsIn K mainGlobals "repr" = some none)
    (kit : kitChk K (addrOf [("BadText", cBadText), ("BadLetters", cBadLetters), ("BadNumber", cBadNumber), ("TooMany", cTooMany), ("UnknownPart", cUnknownPart), ("RuleError", cRuleError), ("Missing", cMissing)]) = true)
    (lc1 : PySem.W.findIn K (.ref CLetters) "__class__" = some (some (.builtin "object.__class__")))
    (lc4 : PySem.W.mroIn K CLetters (.type "object") = some true)
    (kL1 : PySem.W.kitOne K (.ref CLetters) (.ref CLetters) = some true)
    (kL2 : PySem.W.kitOne K (.type "str") (.ref CLetters) = some false)
    (kL3 : PySem.W.kitOne K (.type "list") (.ref CLetters) = some false)
    (kL4 : PySem.W.notFirst K CLetters (.type "str") = true)
    (kL5 : PySem.W.notFirst K CLetters (.type "list") = true)
    (hne : tp_law ≠ tf_strangers_so ∧ tp_law ≠ tf_texts_so ∧ tf_strangers_so ≠ tf_texts_so)
    (hp_law : ((recsOf Q).find? (fun e => e.name == ("law" : Str))).isSome = true)
    (hf_strangers_so : ((recsOf Q).find? (fun e => e.name == ("_law_strangers_so" : Str))).isSome = true)
    (hf_texts_so : ((recsOf Q).find? (fun e => e.name == ("_law_texts_so" : Str))).isSome = true) : EndsOf Q P w K mg fa 10 := by
  have e := hfa.symm.trans (PySem.W.mg_of X G gp_law)
  cases e
  have mint := PySem.W.mg_none_of X G nint
  have mlist := PySem.W.mg_none_of X G nlist
  have mlen := PySem.W.mg_none_of X G nlen
  have mrange := PySem.W.mg_none_of X G nrange
  have mtuple := PySem.W.mg_none_of X G ntuple
  have misinstance := PySem.W.mg_none_of X G nisinstance
  have mbool := PySem.W.mg_none_of X G nbool
  have mstr := PySem.W.mg_none_of X G nstr
  have mall := PySem.W.mg_none_of X G nall
  have mzip := PySem.W.mg_none_of X G nzip
  have msuper := PySem.W.mg_none_of X G nsuper
  have mset := PySem.W.mg_none_of X G nset
  have menumerate := PySem.W.mg_none_of X G nenumerate
  have mmax := PySem.W.mg_none_of X G nmax
  have mrepr := PySem.W.mg_none_of X G nrepr
  have eBadText : addrOf [("BadText", cBadText), ("BadLetters", cBadLetters), ("BadNumber", cBadNumber), ("TooMany", cTooMany), ("UnknownPart", cUnknownPart), ("RuleError", cRuleError), ("Missing", cMissing)] "BadText" = cBadText := by kernel_rfl
  have eBadLetters : addrOf [("BadText", cBadText), ("BadLetters", cBadLetters), ("BadNumber", cBadNumber), ("TooMany", cTooMany), ("UnknownPart", cUnknownPart), ("RuleError", cRuleError), ("Missing", cMissing)] "BadLetters" = cBadLetters := by kernel_rfl
  have eBadNumber : addrOf [("BadText", cBadText), ("BadLetters", cBadLetters), ("BadNumber", cBadNumber), ("TooMany", cTooMany), ("UnknownPart", cUnknownPart), ("RuleError", cRuleError), ("Missing", cMissing)] "BadNumber" = cBadNumber := by kernel_rfl
  have eTooMany : addrOf [("BadText", cBadText), ("BadLetters", cBadLetters), ("BadNumber", cBadNumber), ("TooMany", cTooMany), ("UnknownPart", cUnknownPart), ("RuleError", cRuleError), ("Missing", cMissing)] "TooMany" = cTooMany := by kernel_rfl
  have eUnknownPart : addrOf [("BadText", cBadText), ("BadLetters", cBadLetters), ("BadNumber", cBadNumber), ("TooMany", cTooMany), ("UnknownPart", cUnknownPart), ("RuleError", cRuleError), ("Missing", cMissing)] "UnknownPart" = cUnknownPart := by kernel_rfl
  have eRuleError : addrOf [("BadText", cBadText), ("BadLetters", cBadLetters), ("BadNumber", cBadNumber), ("TooMany", cTooMany), ("UnknownPart", cUnknownPart), ("RuleError", cRuleError), ("Missing", cMissing)] "RuleError" = cRuleError := by kernel_rfl
  have eMissing : addrOf [("BadText", cBadText), ("BadLetters", cBadLetters), ("BadNumber", cBadNumber), ("TooMany", cTooMany), ("UnknownPart", cUnknownPart), ("RuleError", cRuleError), ("Missing", cMissing)] "Missing" = cMissing := by kernel_rfl
  generalize addrOf [("BadText", cBadText), ("BadLetters", cBadLetters), ("BadNumber", cBadNumber), ("TooMany", cTooMany), ("UnknownPart", cUnknownPart), ("RuleError", cRuleError), ("Missing", cMissing)] = C at kit eBadText eBadLetters eBadNumber eTooMany eUnknownPart eRuleError eMissing
  subst eBadText eBadLetters eBadNumber eTooMany eUnknownPart eRuleError eMissing
  have Sf_bag : Sat K mg "_law_bag" sBag ["script"] := rf_bag.sat (PySem.W.mg_of X G gf_bag) fun kV doc pm an cdv ct us hl => match us, hl with | [_], _ => rfl
  have Sf_draw : Sat K mg "_law_draw" sDraw ["bag", "size"] := rf_draw.sat (PySem.W.mg_of X G gf_draw) fun kV doc pm an cdv ct us hl => match us, hl with | [_, _], _ => rfl
  have Sf_of : Sat K mg "_law_of" sOf ["bag", "things"] := rf_of.sat (PySem.W.mg_of X G gf_of) fun kV doc pm an cdv ct us hl => match us, hl with | [_, _], _ => rfl
  have Sf_like : Sat K mg "_law_like" sLike ["told", "due"] := rf_like.sat (PySem.W.mg_of X G gf_like) fun kV doc pm an cdv ct us hl => match us, hl with | [_, _], _ => rfl
  have Sf_is_name : Sat K mg "_law_is_name" sLawIsName ["word"] := rf_is_name.sat (PySem.W.mg_of X G gf_is_name) fun kV doc pm an cdv ct us hl => match us, hl with | [_], _ => rfl
  have Sf_name : Sat K mg "_law_name" sName ["bag"] := rf_name.sat (PySem.W.mg_of X G gf_name) fun kV doc pm an cdv ct us hl => match us, hl with | [_], _ => rfl
  have Sf_fresh : Sat K mg "_law_fresh" sFresh ["bag", "taken"] := rf_fresh.sat (PySem.W.mg_of X G gf_fresh) fun kV doc pm an cdv ct us hl => match us, hl with | [_, _], _ => rfl
  have Sf_parts : Sat K mg "_law_parts" sParts ["bag", "sizes"] := rf_parts.sat (PySem.W.mg_of X G gf_parts) fun kV doc pm an cdv ct us hl => match us, hl with | [_, _], _ => rfl
  have Sf_letters : Sat K mg "_law_letters" sLetters ["parts"] := rf_letters.sat (PySem.W.mg_of X G gf_letters) fun kV doc pm an cdv ct us hl => match us, hl with | [_], _ => rfl
  have Sf_listed : Sat K mg "_law_listed" sListed ["parts"] := rf_listed.sat (PySem.W.mg_of X G gf_listed) fun kV doc pm an cdv ct us hl => match us, hl with | [_], _ => rfl
  have Sf_parts_text : Sat K mg "_law_parts_text" sPartsText ["parts"] := rf_parts_text.sat (PySem.W.mg_of X G gf_parts_text) fun kV doc pm an cdv ct us hl => match us, hl with | [_], _ => rfl
  have Sf_fault : Sat K mg "_law_fault" sFault ["error"] := rf_fault.sat (PySem.W.mg_of X G gf_fault) fun kV doc pm an cdv ct us hl => match us, hl with | [_], _ => rfl
  have Sf_ask_any : Sat K mg "_law_ask_any" sAsk ["deed"] := rf_ask_any.sat (PySem.W.mg_of X G gf_ask_any) fun kV doc pm an cdv ct us hl => match us, hl with | [_], _ => rfl
  have Sf_odd : Sat K mg "_law_odd" sOdd ["bag", "mine"] := rf_odd.sat (PySem.W.mg_of X G gf_odd) fun kV doc pm an cdv ct us hl => match us, hl with | [_, _], _ => rfl
  have Sf_letters_of : Sat K mg "_law_letters_of" sLettersOfL ["parts"] := rf_letters_of.sat (PySem.W.mg_of X G gf_letters_of) fun kV doc pm an cdv ct us hl => match us, hl with | [_], _ => rfl
  have Sf_due : Sat K mg "_law_due" sDue ["parts"] := rf_due.sat (PySem.W.mg_of X G gf_due) fun kV doc pm an cdv ct us hl => match us, hl with | [_], _ => rfl
  have Sf_due_text : Sat K mg "_law_due_text" sDueT ["text"] := rf_due_text.sat (PySem.W.mg_of X G gf_due_text) fun kV doc pm an cdv ct us hl => match us, hl with | [_], _ => rfl
  have Sf_bent_part : Sat K mg "_law_bent_part" sBent ["bag", "part"] := rf_bent_part.sat (PySem.W.mg_of X G gf_bent_part) fun kV doc pm an cdv ct us hl => match us, hl with | [_, _], _ => rfl
  have Sf_some_parts : Sat K mg "_law_some_parts" sSomeParts ["bag"] := rf_some_parts.sat (PySem.W.mg_of X G gf_some_parts) fun kV doc pm an cdv ct us hl => match us, hl with | [_], _ => rfl
  have Sf_seen : Sat K mg "_law_seen" sSeen ["parts", "word", "names"] := rf_seen.sat (PySem.W.mg_of X G gf_seen) fun kV doc pm an cdv ct us hl => match us, hl with | [_, _, _], _ => rfl
  have Sf_some_names : Sat K mg "_law_some_names" sSomeNames ["bag", "parts"] := rf_some_names.sat (PySem.W.mg_of X G gf_some_names) fun kV doc pm an cdv ct us hl => match us, hl with | [_, _], _ => rfl
  have Sf_told_so : Sat K mg "_law_told_so" sToldSo ["bag", "abc", "parts"] := rf_told_so.sat (PySem.W.mg_of X G gf_told_so) fun kV doc pm an cdv ct us hl => match us, hl with | [_, _, _], _ => rfl
  have Sf_other_parts : Sat K mg "_law_other_parts" sOther ["bag", "parts"] := rf_other_parts.sat (PySem.W.mg_of X G gf_other_parts) fun kV doc pm an cdv ct us hl => match us, hl with | [_, _], _ => rfl
  have Sf_names_so : Sat K mg "_law_names_so" sNamesSo ["bag"] := rf_names_so.sat (PySem.W.mg_of X G gf_names_so) fun kV doc pm an cdv ct us hl => match us, hl with | [_], _ => rfl
  have Sf_seen_twice_so : Sat K mg "_law_seen_twice_so" sTwice ["bag", "abc", "parts"] := rf_seen_twice_so.sat (PySem.W.mg_of X G gf_seen_twice_so) fun kV doc pm an cdv ct us hl => match us, hl with | [_, _, _], _ => rfl
  have Sp_is_name : Sat K mg "is_name" sIsName ["text"] := rp_is_name.sat (PySem.W.mg_of X G gp_is_name) fun kV doc pm an cdv ct us hl => match us, hl with | [_], _ => rfl
  have Sp_are_signs : Sat K mg "_are_signs" sAreSigns ["signs"] := rp_are_signs.sat (PySem.W.mg_of X G gp_are_signs) fun kV doc pm an cdv ct us hl => match us, hl with | [_], _ => rfl
  have Sp_check_parts : Sat K mg "_check_parts" sCheckParts ["parts"] := rp_check_parts.sat (PySem.W.mg_of X G gp_check_parts) fun kV doc pm an cdv ct us hl => match us, hl with | [_], _ => rfl
  have Sp_check_many : Sat K mg "_check_many" sMany ["parts"] := rp_check_many.sat (PySem.W.mg_of X G gp_check_many) fun kV doc pm an cdv ct us hl => match us, hl with | [_], _ => rfl
  have Sp_letters_of : Sat K mg "_letters_of" sLettersOf ["signs_in_order"] := rp_letters_of.sat (PySem.W.mg_of X G gp_letters_of) fun kV doc pm an cdv ct us hl => match us, hl with | [_], _ => rfl
  have Sp_read_letters : Sat K mg "read_letters" sRead ["text"] := rp_read_letters.sat (PySem.W.mg_of X G gp_read_letters) fun kV doc pm an cdv ct us hl => match us, hl with | [_], _ => rfl
  obtain ⟨oc, od, kV, dc, pm, an, ct, sl, l⟩ := rp_law.ex
  refine ⟨PySem.W.fnOf "law" "law" (defArgs sLaw) (defBody sLaw) (defScope sLaw) .none kV dc pm an (.ref kp_law) ct, [(kp_law, tp_law), (kf_strangers_so, tf_strangers_so), (kf_texts_so, tf_texts_so)], spLaw K [(tp_law, qLaw), (tf_strangers_so, qStrange), (tf_texts_so, qTexts)], fun p hp => ?_, fun s u => .of_eq rfl, fun H a ns hl hT hS => ⟨a, ns, rfl, hS, hl, fun p hp => ?_, fun _ => rfl⟩, fun base KB GB TBs => ?_⟩
  · simp only [List.mem_cons, List.not_mem_nil, or_false] at hp
    rcases hp with rfl | rfl | rfl
    · exact ⟨rp_law.nl, _, hp_law, rp_law.tab⟩
    · exact ⟨rf_strangers_so.nl, _, hf_strangers_so, rf_strangers_so.tab⟩
    · exact ⟨rf_texts_so.nl, _, hf_texts_so, rf_texts_so.tab⟩
  · simp only [List.mem_cons, List.not_mem_nil, or_false] at hp
    rcases hp with rfl | rfl | rfl
    · exact TabS.nil (hT (kp_law, tp_law) (by simp))
    · exact TabS.nil (hT (kf_strangers_so, tf_strangers_so) (by simp))
    · exact TabS.nil (hT (kf_texts_so, tf_texts_so) (by simp))
  have TBp_law : TabB base mg kp_law tp_law := TBs (kp_law, tp_law) (by simp)
  have TBf_strangers_so : TabB base mg kf_strangers_so tf_strangers_so := TBs (kf_strangers_so, tf_strangers_so) (by simp)
  have TBf_texts_so : TabB base mg kf_texts_so tf_texts_so := TBs (kf_texts_so, tf_texts_so) (by simp)
  have kt := kitChk_of kit
  have MKd : Kinds mg := ⟨misinstance, mlist, mtuple, mbool, mstr, mint, mlen, mall, mzip⟩
  have T : Tab P w K mg base C := {
    cBadText := cl_BadText rBadText g (PySem.W.mg_of X G gBadText) msuper,
    cBadLetters := cl_BadLetters rBadLetters g (PySem.W.mg_of X G gBadLetters) msuper,
    cBadNumber := cl_BadNumber rBadNumber g (PySem.W.mg_of X G gBadNumber) msuper,
    cTooMany := cl_TooMany rTooMany g (PySem.W.mg_of X G gTooMany) msuper,
    cUnknownPart := cl_UnknownPart rUnknownPart g (PySem.W.mg_of X G gUnknownPart) msuper,
    kit := kt.1 }
  have MX : Ex K mg C := ⟨PySem.W.mg_of X G gRuleError, PySem.W.mg_of X G gMissing, kt.2⟩
  have L : LC K mg CLetters := ⟨PySem.W.mg_of X G gLetters, rLetters.cls, nLetters_names, nLetters_signs, nLetters__all, nLetters__places⟩
  have LI_ : LI K CLetters := ⟨lc1, g.hn, g.ht, lc4, kL1, kL2, kL3⟩
  have R1 : RD P w K mg base 1 "_law_bag" ["script"] (spBag K) := Sf_bag.rd fun F => ok_bag F mint mlist
  have RDraw : RD P w K mg base 1 "_law_draw" ["bag", "size"] spDraw := Sf_draw.rd fun F => ok_draw F mint mlen
  have ROf : RD P w K mg base 2 "_law_of" ["bag", "things"] (spOf K) := Sf_of.rd fun F => ok_of F mlen RDraw
  have Rl0 : RD P w K mg base 1 "_law_like" ["told", "due"] (spLike K 0) := Sf_like.rd fun F => ok_like F (Sf_like.none 0) (fun m e => by cases e) MKd
  have Rl1 : RD P w K mg base 2 "_law_like" ["told", "due"] (spLike K 1) := Sf_like.rd fun F => ok_like F Rl0 (fun m e => by cases e; rfl) MKd
  have Rl2 : RD P w K mg base 3 "_law_like" ["told", "due"] (spLike K 2) := Sf_like.rd fun F => ok_like F Rl1 (fun m e => by cases e; rfl) MKd
  have RL : RD P w K mg base 4 "_law_like" ["told", "due"] (spLike K 3) := Sf_like.rd fun F => ok_like F Rl2 (fun m e => by cases e; rfl) MKd
  have RIs : RD P w K mg base 1 "is_name" ["text"] (spTold isName) := Sp_is_name.rd fun F => ok_is_name F mlen mall (PySem.W.mg_of X G g_MOST_IN_NAME) (PySem.W.mg_of X G g_LOWERCASE)
  have RLis : RD P w K mg base 1 "_law_is_name" ["word"] (spTold isName) := Sf_is_name.rd fun F => ok_law_is_name F mlen mall
  have RName : RD P w K mg base 3 "_law_name" ["bag"] spName := Sf_name.rd fun F => ok_name F RDraw ROf mrange
  have RSig : RD P w K mg base 1 "_are_signs" ["signs"] (spTold areSigns) := Sp_are_signs.rd fun F => ok_are_signs F mlen mset mall (PySem.W.mg_of X G g_MOST_SIGNS) (PySem.W.mg_of X G g_SIGNS)
  have RChk : Rd P w K mg base (L2.CX P w) 3 "_check_parts" ["parts"] (spCheck K C) := Sp_check_parts.rd fun F => ok_check_parts F T RIs RSig mlen menumerate (PySem.W.mg_of X G g_MOST_PARTS)
  have RMany : Rd P w K mg base (L2.CX P w) 3 "_check_many" ["parts"] (spMany K (C "TooMany")) := Sp_check_many.rd fun F => ok_many F T.cTooMany mlen (PySem.W.mg_of X G g_MOST_LETTERS)
  have RLo : RD P w K mg base 1 "_letters_of" ["signs_in_order"] (spLettersOf K) := Sp_letters_of.rd fun F => ok_letters_of F
  have RFresh : RD P w K mg base 4 "_law_fresh" ["bag", "taken"] (spFresh K) := Sf_fresh.rd fun F => ok_fresh F RDraw RName mrange mint
  have RParts : RD P w K mg base 5 "_law_parts" ["bag", "sizes"] (spParts K) := Sf_parts.rd fun F => ok_parts F RDraw ROf RFresh mrange mlist mmax mlen
  have RPt : RD P w K mg base 1 "_law_parts_text" ["parts"] (spPartsText K) := Sf_parts_text.rd fun F => ok_parts_text F
  have RListed : RD P w K mg base 1 "_law_listed" ["parts"] (spListed K) := Sf_listed.rd fun F => ok_listed F
  have RFault : RdW P w K mg base CX0 1 "_law_fault" ["error"] (spFault C) := Sf_fault.rdW fun F => ok_fault F T misinstance
  have RAsk : AskC K mg := ⟨Sf_ask_any.ex⟩
  have ROdd : RD P w K mg base 3 "_law_odd" ["bag", "mine"] (spOdd K) := Sf_odd.rd fun F => ok_odd F RDraw ROf mlen
  have RSeen : RD P w K mg base 1 "_law_seen" ["parts", "word", "names"] (spSeen K) := Sf_seen.rd fun F => ok_seen F mrange mlen
  have MkL : Mk K CLetters Letters_m_init := ⟨rLetters.mks, rLetters_m_init.at_, rLetters_m_init.fn, rLetters.kp⟩
  obtain ⟨fdI, FI⟩ := rLetters_m_init.fun_
  have RI : FnR P w K mg base (L2.CX P w) 4 Letters_m_init (spMkL K C CLetters) := ok_init FI L RChk RMany RLo mtuple menumerate
  have RLet : Rd P w K mg base (L2.CX P w) 6 "_law_letters" ["parts"] (spLetters K C CLetters 1 4) := Sf_letters.rd fun F => ok_letters F L MkL RI mlen
  have RLetL : Rd P w K mg base (L2.CX P w) 7 "_law_letters_of" ["parts"] (spLetters K C CLetters 0 6) := Sf_letters_of.rd fun F => ok_lettersL F L MkL RI RLet mlen
  have RDue : RD P w K mg base 2 "_law_due" ["parts"] (spDue K) := Sf_due.rd fun F => ok_due F RLis mlen mrange
  have RDueT : RD P w K mg base 3 "_law_due_text" ["text"] (spDueT K) := Sf_due_text.rd fun F => ok_dueT F RDue mlen mall
  have RBent : RD P w K mg base 3 "_law_bent_part" ["bag", "part"] (spBent K) := Sf_bent_part.rd fun F => ok_bent F RDraw ROf mlen
  have RSp : RD P w K mg base 6 "_law_some_parts" ["bag"] (spSomeParts K) := Sf_some_parts.rd fun F => ok_some_parts F RDraw ROf RParts RBent mlen mrange
  have RSn : RD P w K mg base 2 "_law_some_names" ["bag", "parts"] (spSomeNames K) := Sf_some_names.rd fun F => ok_some_names F RDraw mrange mlen
  have ROther : RD P w K mg base 5 "_law_other_parts" ["bag", "parts"] (spOther K) := Sf_other_parts.rd fun F => ok_other F RDraw RFresh mlist mlen
  have RRead : Rd P w K mg base (L2.CX P w) 6 "read_letters" ["text"] (spRead K C CLetters) := Sp_read_letters.rd fun F => ok_read F L T MkL RI mtuple
  have MStr : Mt P w K mg base CX0 1 CLetters "__str__" ["self"] (spStr K CLetters) := rLetters_m_str.mt (fun F => ok_m_str F L mzip) (fun kV doc pm an cdv ct us hl => match us, hl with | [_], _ => rfl)
  have M : Ms P w K mg base C CLetters := {
    listed := rLetters_m_listed.mt (fun F => ok_m_listed F L mlist) (fun kV doc pm an cdv ct us hl => match us, hl with | [_], _ => rfl),
    is_ := rLetters_m_is_letter.mt (fun F => ok_m_is F L) (fun kV doc pm an cdv ct us hl => match us, hl with | [_, _], _ => rfl),
    cont := rLetters_m_contains.mt (fun F => ok_m_in F L) (fun kV doc pm an cdv ct us hl => match us, hl with | [_, _], _ => rfl),
    len := rLetters_m_len.mt (fun F => ok_m_len F L mlen) (fun kV doc pm an cdv ct us hl => match us, hl with | [_], _ => rfl),
    place := rLetters_m_place.mt (fun F => ok_m_place F L T) (fun kV doc pm an cdv ct us hl => match us, hl with | [_, _], _ => rfl),
    signs := rLetters_m_signs_of.mt (fun F => ok_m_signs F L T) (fun kV doc pm an cdv ct us hl => match us, hl with | [_, _], _ => rfl),
    str := MStr,
    repr := rLetters_m_repr.mt (fun F => ok_m_repr F L MStr mstr) (fun kV doc pm an cdv ct us hl => match us, hl with | [_], _ => rfl),
    eq := rLetters_m_eq.mt (fun F => ok_m_eq F L LI_ misinstance) (fun kV doc pm an cdv ct us hl => match us, hl with | [_, _], _ => rfl),
    nS := kL4, nL := kL5 }
  have MSeen : Mt P w K mg base (L2.CX P w) 3 CLetters "seen" ["self", "letter", "names"] (spSeenM K C CLetters) := rLetters_m_seen.mt (fun F => ok_m_seen F L T) (fun kV doc pm an cdv ct us hl => match us, hl with | [_, _, _], _ => rfl)
  have MSeenK : MtK P w K mg base (L2.CX P w) 3 CLetters "seen" ["self", "letter", "names"] (spSeenM K C CLetters) ["names", "letter"] gSeen gSeenV := rLetters_m_seen.mtK (fun F => ok_m_seen F L T) (fun kV doc pm an cdv ct us ws hl => match us, ws, hl with | [_], [_, _], _ => rfl) rel_seen
  have MPlaceK : MtK P w K mg base (L2.CX P w) 3 CLetters "place" ["self", "letter"] (spPlace K C CLetters) ["letter"] gOne gOneV := rLetters_m_place.mtK (fun F => ok_m_place F L T) (fun kV doc pm an cdv ct us ws hl => match us, ws, hl with | [_], [_], _ => rfl) rel_one
  have MSignsK : MtK P w K mg base (L2.CX P w) 3 CLetters "signs_of" ["self", "name"] (spSignsOf K C CLetters) ["name"] gOne gOneV := rLetters_m_signs_of.mtK (fun F => ok_m_signs F L T) (fun kV doc pm an cdv ct us ws hl => match us, ws, hl with | [_], [_], _ => rfl) rel_one
  have RTold : RD P w K mg base 7 "_law_told_so" ["bag", "abc", "parts"] (spToldSo K CLetters) := Sf_told_so.rd fun F => ok_told_so F L M RL RListed RPt RRead mlen mtuple mstr mrepr mrange
  have RNs : RD P w K mg base 5 "_law_names_so" ["bag"] spNamesSo := Sf_names_so.rd fun F => ok_names_so F RDraw ROf RName RL RIs RLis mlen mrange
  have RTw : RD P w K mg base 5 "_law_seen_twice_so" ["bag", "abc", "parts"] (spTwice K CLetters) := Sf_seen_twice_so.rd fun F => ok_twice F L MSeen MSeenK RDraw ROf RL RListed mlen mrange mtuple
  have RSt : RD P w K mg base 9 "_law_strangers_so" ["bag", "abc", "parts"] (spStrange K CLetters [(tp_law, qLaw), (tf_strangers_so, qStrange), (tf_texts_so, qTexts)]) := rf_strangers_so.rd (PySem.W.mg_of X G gf_strangers_so) (fun F => ok_strange F RAsk MX RFault TBf_strangers_so (by simp) (fun p hp e => by
    simp only [List.mem_cons, List.not_mem_nil, or_false] at hp
    rcases hp with rfl | rfl | rfl
    · exact absurd e (by first | exact hne.1 | exact hne.2.1 | exact hne.2.2 | exact Ne.symm hne.1 | exact Ne.symm hne.2.1 | exact Ne.symm hne.2.2)
    · rfl
    · exact absurd e (by first | exact hne.1 | exact hne.2.1 | exact hne.2.2 | exact Ne.symm hne.1 | exact Ne.symm hne.2.1 | exact Ne.symm hne.2.2)) L M MPlaceK MSignsK MSeen RDraw ROf RName ROdd RSn RL RListed RSeen (fun _ _ => rfl) (fun _ _ => rfl) mlen mrange mtuple mset) (fun kV doc pm an cdv ct us hl => match us, hl with | [_, _, _], _ => rfl)
  have RTx : RD P w K mg base 9 "_law_texts_so" ["bag", "parts"] (spTexts K [(tp_law, qLaw), (tf_strangers_so, qStrange), (tf_texts_so, qTexts)]) := rf_texts_so.rd (PySem.W.mg_of X G gf_texts_so) (fun F => ok_texts F RAsk MX RFault TBf_texts_so (by simp) (fun p hp e => by
    simp only [List.mem_cons, List.not_mem_nil, or_false] at hp
    rcases hp with rfl | rfl | rfl
    · exact absurd e (by first | exact hne.1 | exact hne.2.1 | exact hne.2.2 | exact Ne.symm hne.1 | exact Ne.symm hne.2.1 | exact Ne.symm hne.2.2)
    · exact absurd e (by first | exact hne.1 | exact hne.2.1 | exact hne.2.2 | exact Ne.symm hne.1 | exact Ne.symm hne.2.1 | exact Ne.symm hne.2.2)
    · rfl) RDraw ROf RL RPt RDueT RRead RTold mlen mrange) (fun kV doc pm an cdv ct us hl => match us, hl with | [_, _], _ => rfl)
  exact ok_law ⟨oc, od, kV, dc, pm, an, ct, sl, rfl, l, rp_law.cd⟩ RAsk MX RFault TBp_law (by simp) (fun p hp e => by
    simp only [List.mem_cons, List.not_mem_nil, or_false] at hp
    rcases hp with rfl | rfl | rfl
    · rfl
    · exact absurd e (by first | exact hne.1 | exact hne.2.1 | exact hne.2.2 | exact Ne.symm hne.1 | exact Ne.symm hne.2.1 | exact Ne.symm hne.2.2)
    · exact absurd e (by first | exact hne.1 | exact hne.2.1 | exact hne.2.2 | exact Ne.symm hne.1 | exact Ne.symm hne.2.1 | exact Ne.symm hne.2.2)) L M R1 ROf RParts RLet RLetL RTw RTold RSt ROther RL RTx RNs RSp RDue mrange
end
end K1

set_option Elab.async false
set_option linter.all false
open PySem PySem.W PyProof.Rows
set_option maxRecDepth 100000 in
set_option maxHeartbeats 0 in
theorem PySem.Challenge.cw_fewbreak_k01_letters_told_and_refused_holds : PySem.Challenge.rw_fewbreak_k01_letters_told_and_refused.Holds := by
  w_on; o_law; k_head; (case hw => w_witness2)
  k_fill
  refine Fb.walk_ofAll (l := PySem.Challenge.rw_fewbreak_k01_letters_told_and_refused) (n := 63) (k := 10) (x := "script") (CX := fun _ => L2.CX0) rfl (by decide) rfl ⟨rfl, by decide, by decide⟩ (fun w h Y => by first | exact PySem.W.km_in_of Y | exact PySem.W.kIn_of Y) ?F (fun _ _ _ _ _ h => h)
  case F =>
    intro w mg fa h Y KX G hmg TT
    refine Fb.fin TT ?ee
    refine' K1.ends KX G hmg ⟨?gth, ?ghn, ?ght, ?gtp⟩ ?gBadText ?gBadLetters ?gBadNumber ?gTooMany ?gUnknownPart ?gRuleError ?gMissing ?rBadText ?rBadLetters ?rBadNumber ?rTooMany ?rUnknownPart ?gf_bag ?rf_bag ?gf_draw ?rf_draw ?gf_of ?rf_of ?gf_like ?rf_like ?gf_is_name ?rf_is_name ?gf_name ?rf_name ?gf_fresh ?rf_fresh ?gf_parts ?rf_parts ?gf_letters ?rf_letters ?gf_listed ?rf_listed ?gf_parts_text ?rf_parts_text ?gf_fault ?rf_fault ?gf_ask_any ?rf_ask_any ?gf_odd ?rf_odd ?gf_letters_of ?rf_letters_of ?gf_due ?rf_due ?gf_due_text ?rf_due_text ?gf_bent_part ?rf_bent_part ?gf_some_parts ?rf_some_parts ?gf_seen ?rf_seen ?gf_some_names ?rf_some_names ?gf_told_so ?rf_told_so ?gf_strangers_so ?rf_strangers_so ?gf_other_parts ?rf_other_parts ?gf_texts_so ?rf_texts_so ?gf_names_so ?rf_names_so ?gf_seen_twice_so ?rf_seen_twice_so ?gp_law ?rp_law ?gp_is_name ?rp_is_name ?gp_are_signs ?rp_are_signs ?gp_check_parts ?rp_check_parts ?gp_check_many ?rp_check_many ?gp_letters_of ?rp_letters_of ?gp_read_letters ?rp_read_letters ?gLetters ?rLetters ?nLetters_names ?nLetters_signs ?nLetters__all ?nLetters__places ?rLetters_m_init ?rLetters_m_listed ?rLetters_m_is_letter ?rLetters_m_place ?rLetters_m_signs_of ?rLetters_m_seen ?rLetters_m_str ?rLetters_m_repr ?rLetters_m_eq ?rLetters_m_len ?rLetters_m_contains ?g_MOST_IN_NAME ?g_LOWERCASE ?g_MOST_SIGNS ?g_SIGNS ?g_MOST_PARTS ?g_MOST_LETTERS ?nint ?nlist ?nlen ?nrange ?ntuple ?nisinstance ?nbool ?nstr ?nall ?nzip ?nsuper ?nset ?nenumerate ?nmax ?nrepr ?kit ?lc1 ?lc4 ?kL1 ?kL2 ?kL3 ?kL4 ?kL5 ?hne ?hp_law ?hf_strangers_so ?hf_texts_so
    (case gth => k_is); (case ghn => k_is); (case ght => k_is); (case gtp => decide +kernel)
    (case gBadText => k_is)
    (case gBadLetters => k_is)
    (case gBadNumber => k_is)
    (case gTooMany => k_is)
    (case gUnknownPart => k_is)
    (case gRuleError => k_is)
    (case gMissing => k_is)
    (case gf_bag => k_is)
    (case gf_draw => k_is)
    (case gf_of => k_is)
    (case gf_like => k_is)
    (case gf_is_name => k_is)
    (case gf_name => k_is)
    (case gf_fresh => k_is)
    (case gf_parts => k_is)
    (case gf_letters => k_is)
    (case gf_listed => k_is)
    (case gf_parts_text => k_is)
    (case gf_fault => k_is)
    (case gf_ask_any => k_is)
    (case gf_odd => k_is)
    (case gf_letters_of => k_is)
    (case gf_due => k_is)
    (case gf_due_text => k_is)
    (case gf_bent_part => k_is)
    (case gf_some_parts => k_is)
    (case gf_seen => k_is)
    (case gf_some_names => k_is)
    (case gf_told_so => k_is)
    (case gf_strangers_so => k_is)
    (case gf_other_parts => k_is)
    (case gf_texts_so => k_is)
    (case gf_names_so => k_is)
    (case gf_seen_twice_so => k_is)
    (case gp_law => k_is)
    (case gp_is_name => k_is)
    (case gp_are_signs => k_is)
    (case gp_check_parts => k_is)
    (case gp_check_many => k_is)
    (case gp_letters_of => k_is)
    (case gp_read_letters => k_is)
    (case gLetters => k_is)
    (case g_MOST_IN_NAME => k_is)
    (case g_LOWERCASE => k_is)
    (case g_MOST_SIGNS => k_is)
    (case g_SIGNS => k_is)
    (case g_MOST_PARTS => k_is)
    (case g_MOST_LETTERS => k_is)
    (case nint => k_is)
    (case nlist => k_is)
    (case nlen => k_is)
    (case nrange => k_is)
    (case ntuple => k_is)
    (case nisinstance => k_is)
    (case nbool => k_is)
    (case nstr => k_is)
    (case nall => k_is)
    (case nzip => k_is)
    (case nsuper => k_is)
    (case nset => k_is)
    (case nenumerate => k_is)
    (case nmax => k_is)
    (case nrepr => k_is)
    (case rBadText => (refine' Fb.RawC.of ?q1 ?q2 ?sB ?ks ?cl ?hd ?sa ?ga ?gg ?ex ?ty ?kp ?ha ?hm ?se ?no ?n1 ?n2 ?a1 ?a2 ?a3 ?a4 ?a5 ?a6 ?a7 ?a8; (case q1 => kx_is); (case q2 => kx_is); (case sB => k_is); (case ks => ks_is); (case cl => k_is); (case hd => k_is); (case sa => k_is); (case ga => k_is); (case gg => k_is); (case ex => k_is); (case ty => k_is); (case kp => k_is); (case ha => k_is); (case hm => k_is); (case se => k_is); (case no => k_is); (case n1 => k_is); (case n2 => k_is); (case a1 => k_is); (case a2 => k_is); (case a3 => k_is); (case a4 => k_is); (case a5 => k_is); (case a6 => rfl); (case a7 => first | rfl | decide +kernel | kernel_rfl); (case a8 => k_is)))
    (case rBadLetters => (refine' Fb.RawC.of ?q1 ?q2 ?sB ?ks ?cl ?hd ?sa ?ga ?gg ?ex ?ty ?kp ?ha ?hm ?se ?no ?n1 ?n2 ?a1 ?a2 ?a3 ?a4 ?a5 ?a6 ?a7 ?a8; (case q1 => kx_is); (case q2 => kx_is); (case sB => k_is); (case ks => ks_is); (case cl => k_is); (case hd => k_is); (case sa => k_is); (case ga => k_is); (case gg => k_is); (case ex => k_is); (case ty => k_is); (case kp => k_is); (case ha => k_is); (case hm => k_is); (case se => k_is); (case no => k_is); (case n1 => k_is); (case n2 => k_is); (case a1 => k_is); (case a2 => k_is); (case a3 => k_is); (case a4 => k_is); (case a5 => k_is); (case a6 => rfl); (case a7 => first | rfl | decide +kernel | kernel_rfl); (case a8 => k_is)))
    (case rBadNumber => (refine' Fb.RawC.of ?q1 ?q2 ?sB ?ks ?cl ?hd ?sa ?ga ?gg ?ex ?ty ?kp ?ha ?hm ?se ?no ?n1 ?n2 ?a1 ?a2 ?a3 ?a4 ?a5 ?a6 ?a7 ?a8; (case q1 => kx_is); (case q2 => kx_is); (case sB => k_is); (case ks => ks_is); (case cl => k_is); (case hd => k_is); (case sa => k_is); (case ga => k_is); (case gg => k_is); (case ex => k_is); (case ty => k_is); (case kp => k_is); (case ha => k_is); (case hm => k_is); (case se => k_is); (case no => k_is); (case n1 => k_is); (case n2 => k_is); (case a1 => k_is); (case a2 => k_is); (case a3 => k_is); (case a4 => k_is); (case a5 => k_is); (case a6 => rfl); (case a7 => first | rfl | decide +kernel | kernel_rfl); (case a8 => k_is)))
    (case rTooMany => (refine' Fb.RawC.of ?q1 ?q2 ?sB ?ks ?cl ?hd ?sa ?ga ?gg ?ex ?ty ?kp ?ha ?hm ?se ?no ?n1 ?n2 ?a1 ?a2 ?a3 ?a4 ?a5 ?a6 ?a7 ?a8; (case q1 => kx_is); (case q2 => kx_is); (case sB => k_is); (case ks => ks_is); (case cl => k_is); (case hd => k_is); (case sa => k_is); (case ga => k_is); (case gg => k_is); (case ex => k_is); (case ty => k_is); (case kp => k_is); (case ha => k_is); (case hm => k_is); (case se => k_is); (case no => k_is); (case n1 => k_is); (case n2 => k_is); (case a1 => k_is); (case a2 => k_is); (case a3 => k_is); (case a4 => k_is); (case a5 => k_is); (case a6 => rfl); (case a7 => first | rfl | decide +kernel | kernel_rfl); (case a8 => k_is)))
    (case rUnknownPart => (refine' Fb.RawC.of ?q1 ?q2 ?sB ?ks ?cl ?hd ?sa ?ga ?gg ?ex ?ty ?kp ?ha ?hm ?se ?no ?n1 ?n2 ?a1 ?a2 ?a3 ?a4 ?a5 ?a6 ?a7 ?a8; (case q1 => kx_is); (case q2 => kx_is); (case sB => k_is); (case ks => ks_is); (case cl => k_is); (case hd => k_is); (case sa => k_is); (case ga => k_is); (case gg => k_is); (case ex => k_is); (case ty => k_is); (case kp => k_is); (case ha => k_is); (case hm => k_is); (case se => k_is); (case no => k_is); (case n1 => k_is); (case n2 => k_is); (case a1 => k_is); (case a2 => k_is); (case a3 => k_is); (case a4 => k_is); (case a5 => k_is); (case a6 => rfl); (case a7 => first | rfl | decide +kernel | kernel_rfl); (case a8 => k_is)))
    (case rf_bag => (refine' Fb.RawF.of ?l ?c ?k; (case l => k_is); (case c => k_is); (case k => k_is)))
    (case rf_draw => (refine' Fb.RawF.of ?l ?c ?k; (case l => k_is); (case c => k_is); (case k => k_is)))
    (case rf_of => (refine' Fb.RawF.of ?l ?c ?k; (case l => k_is); (case c => k_is); (case k => k_is)))
    (case rf_like => (refine' Fb.RawF.of ?l ?c ?k; (case l => k_is); (case c => k_is); (case k => k_is)))
    (case rf_is_name => (refine' Fb.RawF.of ?l ?c ?k; (case l => k_is); (case c => k_is); (case k => k_is)))
    (case rf_name => (refine' Fb.RawF.of ?l ?c ?k; (case l => k_is); (case c => k_is); (case k => k_is)))
    (case rf_fresh => (refine' Fb.RawF.of ?l ?c ?k; (case l => k_is); (case c => k_is); (case k => k_is)))
    (case rf_parts => (refine' Fb.RawF.of ?l ?c ?k; (case l => k_is); (case c => k_is); (case k => k_is)))
    (case rf_letters => (refine' Fb.RawF.of ?l ?c ?k; (case l => k_is); (case c => k_is); (case k => k_is)))
    (case rf_listed => (refine' Fb.RawF.of ?l ?c ?k; (case l => k_is); (case c => k_is); (case k => k_is)))
    (case rf_parts_text => (refine' Fb.RawF.of ?l ?c ?k; (case l => k_is); (case c => k_is); (case k => k_is)))
    (case rf_fault => (refine' Fb.RawF.of ?l ?c ?k; (case l => k_is); (case c => k_is); (case k => k_is)))
    (case rf_ask_any => (refine' Fb.RawF.of ?l ?c ?k; (case l => k_is); (case c => k_is); (case k => k_is)))
    (case rf_odd => (refine' Fb.RawF.of ?l ?c ?k; (case l => k_is); (case c => k_is); (case k => k_is)))
    (case rf_letters_of => (refine' Fb.RawF.of ?l ?c ?k; (case l => k_is); (case c => k_is); (case k => k_is)))
    (case rf_due => (refine' Fb.RawF.of ?l ?c ?k; (case l => k_is); (case c => k_is); (case k => k_is)))
    (case rf_due_text => (refine' Fb.RawF.of ?l ?c ?k; (case l => k_is); (case c => k_is); (case k => k_is)))
    (case rf_bent_part => (refine' Fb.RawF.of ?l ?c ?k; (case l => k_is); (case c => k_is); (case k => k_is)))
    (case rf_some_parts => (refine' Fb.RawF.of ?l ?c ?k; (case l => k_is); (case c => k_is); (case k => k_is)))
    (case rf_seen => (refine' Fb.RawF.of ?l ?c ?k; (case l => k_is); (case c => k_is); (case k => k_is)))
    (case rf_some_names => (refine' Fb.RawF.of ?l ?c ?k; (case l => k_is); (case c => k_is); (case k => k_is)))
    (case rf_told_so => (refine' Fb.RawF.of ?l ?c ?k; (case l => k_is); (case c => k_is); (case k => k_is)))
    (case rf_strangers_so => (refine' Fb.RawT.of ?g ?l ?cd ?kp ?lc ?hv ?nl; (case g => k_is); (case l => k_is); (case cd => k_is); (case kp => k_is); (case lc => k_is); (case hv => rfl); (case nl => kernel_rfl)))
    (case rf_other_parts => (refine' Fb.RawF.of ?l ?c ?k; (case l => k_is); (case c => k_is); (case k => k_is)))
    (case rf_texts_so => (refine' Fb.RawT.of ?g ?l ?cd ?kp ?lc ?hv ?nl; (case g => k_is); (case l => k_is); (case cd => k_is); (case kp => k_is); (case lc => k_is); (case hv => rfl); (case nl => kernel_rfl)))
    (case rf_names_so => (refine' Fb.RawF.of ?l ?c ?k; (case l => k_is); (case c => k_is); (case k => k_is)))
    (case rf_seen_twice_so => (refine' Fb.RawF.of ?l ?c ?k; (case l => k_is); (case c => k_is); (case k => k_is)))
    (case rp_law => (refine' Fb.RawT.of ?g ?l ?cd ?kp ?lc ?hv ?nl; (case g => k_is); (case l => k_is); (case cd => k_is); (case kp => k_is); (case lc => k_is); (case hv => rfl); (case nl => kernel_rfl)))
    (case rp_is_name => (refine' Fb.RawF.of ?l ?c ?k; (case l => k_is); (case c => k_is); (case k => k_is)))
    (case rp_are_signs => (refine' Fb.RawF.of ?l ?c ?k; (case l => k_is); (case c => k_is); (case k => k_is)))
    (case rp_check_parts => (refine' Fb.RawF.of ?l ?c ?k; (case l => k_is); (case c => k_is); (case k => k_is)))
    (case rp_check_many => (refine' Fb.RawF.of ?l ?c ?k; (case l => k_is); (case c => k_is); (case k => k_is)))
    (case rp_letters_of => (refine' Fb.RawF.of ?l ?c ?k; (case l => k_is); (case c => k_is); (case k => k_is)))
    (case rp_read_letters => (refine' Fb.RawF.of ?l ?c ?k; (case l => k_is); (case c => k_is); (case k => k_is)))
    (case rLetters => (refine' ⟨?pg, ?hd, ?po, ?sa, ?mk, ?kc⟩; (case pg => k_is); (case hd => k_is); (case po => k_is); (case sa => k_is); (case mk => k_is); (case kc => k_is)))
    (case nLetters_names => k_is)
    (case nLetters_signs => k_is)
    (case nLetters__all => k_is)
    (case nLetters__places => k_is)
    (case rLetters_m_init => (refine' Fb.RawM.of ?a ?i ?k ?l ?c; (case a => k_is); (case i => k_is); (case k => k_is); (case l => k_is); (case c => k_is)))
    (case rLetters_m_listed => (refine' Fb.RawM.of ?a ?i ?k ?l ?c; (case a => k_is); (case i => k_is); (case k => k_is); (case l => k_is); (case c => k_is)))
    (case rLetters_m_is_letter => (refine' Fb.RawM.of ?a ?i ?k ?l ?c; (case a => k_is); (case i => k_is); (case k => k_is); (case l => k_is); (case c => k_is)))
    (case rLetters_m_place => (refine' Fb.RawM.of ?a ?i ?k ?l ?c; (case a => k_is); (case i => k_is); (case k => k_is); (case l => k_is); (case c => k_is)))
    (case rLetters_m_signs_of => (refine' Fb.RawM.of ?a ?i ?k ?l ?c; (case a => k_is); (case i => k_is); (case k => k_is); (case l => k_is); (case c => k_is)))
    (case rLetters_m_seen => (refine' Fb.RawM.of ?a ?i ?k ?l ?c; (case a => k_is); (case i => k_is); (case k => k_is); (case l => k_is); (case c => k_is)))
    (case rLetters_m_str => (refine' Fb.RawM.of ?a ?i ?k ?l ?c; (case a => k_is); (case i => k_is); (case k => k_is); (case l => k_is); (case c => k_is)))
    (case rLetters_m_repr => (refine' Fb.RawM.of ?a ?i ?k ?l ?c; (case a => k_is); (case i => k_is); (case k => k_is); (case l => k_is); (case c => k_is)))
    (case rLetters_m_eq => (refine' Fb.RawM.of ?a ?i ?k ?l ?c; (case a => k_is); (case i => k_is); (case k => k_is); (case l => k_is); (case c => k_is)))
    (case rLetters_m_len => (refine' Fb.RawM.of ?a ?i ?k ?l ?c; (case a => k_is); (case i => k_is); (case k => k_is); (case l => k_is); (case c => k_is)))
    (case rLetters_m_contains => (refine' Fb.RawM.of ?a ?i ?k ?l ?c; (case a => k_is); (case i => k_is); (case k => k_is); (case l => k_is); (case c => k_is)))
    (case kit => kernel_rfl)
    (case lc1 => k_is)
    (case lc4 => k_is)
    (case kL1 => kernel_rfl)
    (case kL2 => kernel_rfl)
    (case kL3 => kernel_rfl)
    (case kL4 => k_is)
    (case kL5 => k_is)
    (case hne => decide)
    (case hp_law => kernel_rfl)
    (case hf_strangers_so => kernel_rfl)
    (case hf_texts_so => kernel_rfl)
