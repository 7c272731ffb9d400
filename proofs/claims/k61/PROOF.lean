import PyProof.Rows.All
import Wide.All
import OpenK.AllK
import Wide.FinOn
import HandS.ForMost
import HandS.Exc
import HandS.ExcInit
import HandS.ExcField
import HandS.Defaults
import KE.KExcIs
import HandS.EndBits
import HandS.Flow
import HandS.Wide
import PyProof.RowDictHeap
import PyProof.ReprRoads
import HandS.List
import HandS.Dict
import HandS.WideBits
import HandS.IsInst
import HandS.Evl
import PySem.Challenge.RW_butthese_k61_errors_by_hand
set_option Elab.async false
set_option linter.all false
set_option maxRecDepth 100000
set_option maxHeartbeats 4000000
namespace PySem
namespace HandSPX
open Builtin Builtin.ObjectAttr
section
variable {M : Model} {A : Around} {E : Value → Shared → Prop} {h : Heap} {g : Array GenState} {d : Drawn} {t : Nat} {os : OsState}
variable {nm q : Str} {C N : Addr} {bs bm bmB : List Value} {hdct : Bool} {sn : List Str} {sub : List Value} {ab : Bool} {col : Option Bool} {dd : Option Addr} {k0 k1 k2 k3 k5 : Option Value} {B newId initId : String}
theorem my_tcallK {kn : Str} {kv : Value} {Q : Unit → Shared → Prop} (hC : h.get? C = some (excClassObj nm q C N bs bm hdct sn sub ab col dd k0 k1 k2 k3 k5 newId))
    (hq : Q () ⟨h, g, d, t, os⟩) : wpAny M A (checkBuiltinCall "type.__call__" ⟨[.ref C], [(kn, kv)]⟩) Q E ⟨h, g, d, t, os⟩ := by
  have f3 := tc_sub
  have hT : (⟨h, g, d, t, os⟩ : Shared).TypeIs (.ref C) "type" := ⟨_, hC, rfl⟩
  simp only [checkBuiltinCall, tc_kind, tc_split]
  repeat (any_goals (first | assumption | with_reducible refine wpAny_loadPart_at hC ?_ | with_reducible refine wpAny_onRaise ?_ | with_reducible refine wpAny_map ?_ | wp_step))
theorem check_new_ownK (F : ExcBaseFacts B newId initId bmB) (hT : ∀ X : String, bm.contains (.type X) = bmB.contains (.type X)) {kn : Str} {kv : Value} {Q : Unit → Shared → Prop}
    (hC : h.get? C = some (excClassObj nm q C N bs bm hdct sn sub ab col dd k0 k1 k2 k3 k5 newId)) (hq : Q () ⟨h, g, d, t, os⟩) : wpAny M A (checkBuiltinCall newId ⟨[.ref C], [(kn, kv)]⟩) Q E ⟨h, g, d, t, os⟩ := by
  have hcont : (Value.ref C :: bm).contains (.type B) = true := by rw [List.contains_cons, hT, F.hasB, Bool.or_true]
  have hstar := F.noStar
  simp only [checkBuiltinCall, F.newKind, F.newSplit, F.newRow]
  repeat (first | refine wpAny_loadPart_at hC ?_ | (refine wpAny_isSubtype_exc hC ?_; rw [hcont]) | refine wpAny_staticBase_exc hC ?_ | refine wpAny_madeBy_exc hC ?_ | simp only [bne_self_eq_false, Bool.false_eq_true, if_false] | wp_step)
  exact hq
end
section
variable {prog : Program} {w : World} {A : Around} {E : Value → Shared → Prop} {R : Result → Shared → Prop} {h : Heap} {g : Array GenState} {d : Drawn} {t : Nat} {os : OsState}
variable {nm q : Str} {C N : Addr} {bs bm bmB : List Value} {hdct : Bool} {sn : List Str} {sub : List Value} {ab : Bool} {col : Option Bool} {dd : Option Addr} {k0 k1 k2 k3 k5 : Option Value} {B newId initId : String}

theorem new_ownK (F : ExcBaseFacts B newId initId bmB) (hT : ∀ X : String, bm.contains (.type X) = bmB.contains (.type X)) {kn : Str} {kv : Value}
    (hC : h.get? C = some (excClassObj nm q C N bs bm hdct sn sub ab col dd k0 k1 k2 k3 k5 newId))
    (hq : R (.ok (.ret (.ref (h.objs.size + 1)))) ⟨(h.push { cls := .type "tuple", data := .seq #[] }).push
      { cls := .ref C, data := .fields #[.ref h.objs.size, .none, .none, .none, .bool false, .none] }, g, d, t, os⟩) :
    codeAny (model prog w) A (.builtin newId ⟨[.ref C], [(kn, kv)]⟩) R ⟨h, g, d, t, os⟩ := by
  have hrest : ([] : List Value).length ≤ sizeLine := Nat.zero_le _
  have hends := F.ends
  have hcB : (Value.ref C :: bm).contains (.type B) = true := by rw [List.contains_cons, hT, F.hasB, Bool.or_true]
  have hcA : (Value.ref C :: bm).contains (.type "AttributeError") = false := by rw [List.contains_cons, hT, F.noAttr]; rfl
  have hcN : (Value.ref C :: bm).contains (.type "NameError") = false := by rw [List.contains_cons, hT, F.noName]; rfl
  refine codeAny_builtinAt F.entry ?_
  unfold Builtin.«BaseException.__new__»
  refine wpAt_bind ?_
  show wpAt _ _ _ (stack >>= _) _ _ _
  refine wpAt_bind (wpAt_stack fun p below => wpAt_of_wpAny ?_)
  wp_walk
  refine wpAt_of_wpAny ?_
  rw [F.owner]
  repeat (first | with_reducible refine wpAny_madeHere_exc F.canon hC ?_ | with_reducible refine wpAny_loadPart_at hC ?_ | (with_reducible refine wpAny_isSubtype_exc hC ?_; first | rw [hcB] | rw [hcA] | rw [hcN]) | wp_step)
  show R _ _
  rw [Heap.size_push]
  exact hq

theorem type_call_ownK (F : ExcBaseFacts B newId initId bmB) (hT : ∀ X : String, bm.contains (.type X) = bmB.contains (.type X)) {kn : Str} {kv : Value} {fI : Addr} {Q : Fin → Shared → Prop}
    (hC : h.get? C = some (excClassObj nm q C N bs bm hdct sn sub ab col dd k0 k1 k2 k3 k5 newId))
    (hi : W.Looks (model prog w) h (typeLookup (.ref C) "__init__") (some (.ref fI))) (hb : ∀ self, W.Looks (model prog w) h (bindSpecial (.ref fI) self) (.ref fI, [self]))
    (hq : codeAny (model prog w) A (.call (.ref fI) ⟨[.ref (h.objs.size + 1)], [(kn, kv)]⟩)
      (fun r s' => match r with | .ok (.ret v) => v = .none ∧ Q (.done (.ret (.ref (h.objs.size + 1)))) s' | .ok _ => False | .error e => E e s')
      ⟨(h.push (W.kdv_tup [])).push (excO C h.objs.size), g, d, t, os⟩) :
    wpAny (model prog w) A (Builtin.«type.__call__» ⟨[.ref C], [(kn, kv)]⟩) Q E ⟨h, g, d, t, os⟩ := by
  repeat (first | with_reducible refine wpAny_loadPart_at hC ?_ | with_reducible refine wpAny_madeBy_exc hC ?_ | wp_step)
  refine codeAny_call_builtin_code (Code.quiet_builtin _ F.quiet) (check_new_ownK F hT hC ?_)
  refine new_ownK F hT hC ?_
  show wpAny _ _ _ _ _ _
  have k : ∀ b o, h.get? b = some o → ((h.push (W.kdv_tup [])).push (excO C h.objs.size)).get? b = some o := fun b o e => Heap.get?_push_of_some _ (Heap.get?_push_of_some _ e)
  have hC₁ := k _ _ hC
  have hget : ((h.push (W.kdv_tup [])).push (excO C h.objs.size)).get? (h.objs.size + 1) = some (excO C h.objs.size) := by heap_get
  have hcC : (Value.ref C :: bm).contains (.ref C) = true := by simp
  have i1 := hi.keeps k
  have b1 := (hb (.ref (h.objs.size + 1))).keeps k
  unfold isInstance
  repeat (first | with_reducible refine wpAny_loadPart_at hget ?_ | (with_reducible refine wpAny_isSubtype_exc hC₁ ?_; rw [hcC]) | wp_step)
  show wpAny _ _ (typeLookup (.ref C) _) _ _ _
  refine i1.at ?_
  refine wpAny_holding (wpAny_bind (b1.at ?_))
  refine wpAny_bind (wpAny_call (codeAny_mono hq fun r s' z => ?_))
  rcases r with e | (v | _ | _ | _) <;> first | exact z | exact z.elim | skip
  obtain ⟨rfl, z⟩ := z
  first
    | exact wpAny_pure (wpAny_pure z)
    | (wp_walk; exact z)

theorem call_ownK (F : ExcBaseFacts B newId initId bmB) (hT : ∀ X : String, bm.contains (.type X) = bmB.contains (.type X)) {kn : Str} {kv : Value} {fI : Addr}
    (hC : h.get? C = some (excClassObj nm q C N bs bm hdct sn sub ab col dd k0 k1 k2 k3 k5 newId))
    (hi : W.Looks (model prog w) h (typeLookup (.ref C) "__init__") (some (.ref fI))) (hb : ∀ self, W.Looks (model prog w) h (bindSpecial (.ref fI) self) (.ref fI, [self]))
    (hq : codeAny (model prog w) (A.under (.builtin "type.__call__" ⟨[.ref C], [(kn, kv)]⟩)) (.call (.ref fI) ⟨[.ref (h.objs.size + 1)], [(kn, kv)]⟩) (W.InitBack (h.objs.size + 1) R)
      ⟨(h.push (W.kdv_tup [])).push (excO C h.objs.size), g, d, t, os⟩) :
    codeAny (model prog w) A (.call (.ref C) ⟨[], [(kn, kv)]⟩) R ⟨h, g, d, t, os⟩ := by
  have f1 := tc_lookup
  have f2 := tc_bind (.ref C)
  have hTy : (⟨h, g, d, t, os⟩ : Shared).TypeIs (.ref C) "type" := ⟨_, hC, rfl⟩
  refine codeAny_of_tree ?_
  show wpAny _ _ (callAny (.ref C) _) _ _ _
  repeat (any_goals (first | assumption | with_reducible refine wpAny_loadPart_at hC ?_ | wp_step))
  refine ⟨rfl, ?_⟩
  refine codeAny_call_builtin_at (Code.quiet_builtin _ (by decide +kernel)) entry_typeCall (my_tcallK hC (type_call_ownK F hT hC hi hb ?_))
  refine codeAny_mono hq fun r s' z => ?_
  rcases r with e | (v | _ | _ | _) <;> exact z
end
end HandSPX
end PySem
namespace L2
open PySem PySem.Spec PyProof.Rows
section
variable {X : Cx} {e : Expr} {es : List Expr} {kws : List Keyword} {ta tk : TA} {te : TE} {p p1 p2 pos : Pos}
/-- C(e, ..), an exception of an own class with its own __init__, as a value -/
def tMkV (C : Addr) (sp : Sp) (ta : TA) : TE := fun σ H Q => ta σ H fun vs H1 => vs.length ≤ 1000 ∧ ∀ a, H1 a = none → sp (.ref a :: vs) (upd H1 a (exo a C none)) (fun v H2 => v = .non ∧ Q (.ref a) H2) (fun _ _ _ => False)
/-- C(f = e) -/
def tMkVK (C : Addr) (sp : Sp) (tk : TA) : TE := fun σ H Q => tk σ H fun zs H1 => ∃ z, zs = [z] ∧ ∀ a, H1 a = none → sp [.ref a, z] (upd H1 a (exo a C none)) (fun v H2 => v = .non ∧ Q (.ref a) H2) (fun _ _ _ => False)
theorem pe_mkV {CX : CXT} {x : Str} {C fI : Addr} {k : Nat} {fd : FuncData} {ps : List Str} {sp : Sp} (T : OexC X.K C) (iC : PySem.W.findIn X.K (.ref C) "__init__" = some (some (.ref fI))) (tI : PySem.W.typeIn X.K (.ref fI) = some (.type "function"))
    (F1 : FnOk X.prog X.w X.K X.mg X.base CX k fI fd ps sp) (hr : Room (k + 1) X.A) (hb : Binds X.K fd ps []) (hx : Passes CX X (fun _ _ _ => False)) (hg : Gl X x) (hm : X.mg x = some (.ref C)) (ha : PA X (e :: es) ta)
    (hdb : (x == ("__debug__" : Str)) = false := by decide) (he : starEach (e :: es) X.env = (false, eval e X.env) :: starEach es X.env := by rfl) (hpl : (backTo pos (starEach es X.env)).any (·.1) = false := by rfl) :
    PE X (.Call (.Name x p) (e :: es) [] pos) (tMkV C sp ta) := by
  refine ⟨fun pins s σ H Q I h => ?_⟩
  obtain ⟨nm, q, N, bs, bm, sn, sub, ab, col, dd, k0, k1, k2, k3, k5, hC, hbm⟩ := T.cls
  refine wpAny_Call_Name_kw (ld_glob I hg hm ?_ hdb)
  refine PySem.W.callWith_K (h₀ := X.base) I.ok.mod.kin T.kC (thn (ha.run pos pins s σ H _ I h) fun us s1 ⟨vs, H1, I1, r1, hz, q1⟩ => ⟨I1.kIn, ?_⟩) he hpl
  show wpAny _ _ (call (.ref C) us) _ _ _
  obtain ⟨hp, g, dr, tk, os⟩ := s1
  have hsz : hp.objs.size ≤ hp.objs.size + 1 := Nat.le_succ _
  have hn : H1 (hp.objs.size + 1) = none := I1.hok.fresh hsz
  have hq := q1 (hp.objs.size + 1) hn
  have kk : ∀ b o, hp.get? b = some o → ((hp.push (PySem.W.kdv_tup us)).push (PySem.HandSPX.excO C hp.objs.size)).get? b = some o := fun b o e => Heap.get?_push_of_some _ (Heap.get?_push_of_some _ e)
  have hget : ((hp.push (PySem.W.kdv_tup us)).push (PySem.HandSPX.excO C hp.objs.size)).get? (hp.objs.size + 1) = some (PySem.HandSPX.excO C hp.objs.size) := by heap_get
  have I2 : Inv X pins σ (upd H1 (hp.objs.size + 1) (exo (hp.objs.size + 1) C none)) ⟨(hp.push (PySem.W.kdv_tup us)).push (PySem.HandSPX.excO C hp.objs.size), g, dr, tk, os⟩ :=
    I1.laid (t' := tk) (a := hp.objs.size + 1) (o := exo (hp.objs.size + 1) C none) (h' := (hp.push (PySem.W.kdv_tup us)).push (PySem.HandSPX.excO C hp.objs.size)) kk hsz (exo_ok hget)
  have r2 : Vals (V.ref (hp.objs.size + 1) :: vs) (Value.ref (hp.objs.size + 1) :: us) := .cons rfl r1
  have hl : (Value.ref (hp.objs.size + 1) :: us ++ []).length = ps.length := by
    rw [List.append_nil]
    have e := r2.length
    rw [F1.len _ _ _ _ hq] at e
    exact e.symm
  have hus : us.length ≤ sizeLine := by
    rw [← Paired.length r1, sizeLine_eq]
    omega
  have hb' := hb _ (Value.ref (hp.objs.size + 1) :: us) I2.kIn hl
  rw [List.append_nil] at hb'
  refine wpAny_call (PySem.HandSPX.call_own F.excBase_ValueError (fun Y => PySem.HandSPX.refsVE_contains Y bm hbm) (I1.kIn _ _ hC) (PySem.W.looks_findIn I1.kIn iC) (fun self => PySem.W.bind_fn I1.kIn self tI) hus
    (codeAny_mono (F1.run _ X.stack _ _ ⟨Value.ref (hp.objs.size + 1) :: us, []⟩ (Value.ref (hp.objs.size + 1) :: us) _ _ (fun _ _ _ => False) (hr.make C us []) (I2.env0.make C us []) hb' r2 hq) fun r s' hq' => ?_))
  cases r with
  | error er => exact hx pins σ _ _ er s' I2 hq'
  | ok fl =>
    cases fl with
    | ret u =>
      obtain ⟨v, H', I3, rv, ev, q3⟩ := I2.after hq'
      subst ev
      exact ⟨rv, ⟨V.ref (hp.objs.size + 1), H', I3, rfl, q3⟩⟩
    | next => exact False.elim hq'
    | brk => exact False.elim hq'
    | cont => exact False.elim hq'
theorem pe_mkVK {CX : CXT} {x kn : Str} {C fI : Addr} {k : Nat} {fd : FuncData} {ps : List Str} {sp : Sp} (T : OexC X.K C) (iC : PySem.W.findIn X.K (.ref C) "__init__" = some (some (.ref fI))) (tI : PySem.W.typeIn X.K (.ref fI) = some (.type "function"))
    (F1 : FnOk X.prog X.w X.K X.mg X.base CX k fI fd ps sp) (hr : Room (k + 1) X.A) (hb : ∀ (s : Shared) (u v : Value), BindsTo s fd ⟨[u], [(kn, v)]⟩ (ps.zip [u, v])) (hx : Passes CX X (fun _ _ _ => False)) (hg : Gl X x) (hm : X.mg x = some (.ref C)) (hkw : PK X kws tk)
    (hall : (backToKw pos (keywordEach kws X.env)).all (·.1.isSome) = true := by rfl) (hks : (backToKw pos (keywordEach kws X.env)).filterMap (·.1) = [kn] := by rfl) (hdb : (x == ("__debug__" : Str)) = false := by decide)
    (hpl : ((backTo pos (starEach [] X.env)).any (·.1) || (backToKw pos (keywordEach kws X.env)).any (·.1.isNone)) = false := by rfl) :
    PE X (.Call (.Name x p) [] kws pos) (tMkVK C sp tk) := by
  refine ⟨fun pins s σ H Q I h => ?_⟩
  obtain ⟨nm, q, N, bs, bm, sn, sub, ab, col, dd, k0, k1, k2, k3, k5, hC, hbm⟩ := T.cls
  refine wpAny_Call_Name_kw (ld_glob I hg hm ?_ hdb)
  refine PySem.W.callWith_KW0 (h₀ := X.base) I.ok.mod.kin T.kC hall ?_ hpl
  refine thn (hkw.run pos pins s σ H _ I h) fun ws s1 ⟨zs, H1, I1, rz, z, ez, q1⟩ => ⟨I1.kIn, ?_⟩
  subst ez
  rw [hks]
  cases rz with
  | @cons _ u _ ur rv rn =>
  cases rn
  show wpAny _ _ (call (.ref C) [] [(kn, u)]) _ _ _
  obtain ⟨hp, g, dr, tk, os⟩ := s1
  have hsz : hp.objs.size ≤ hp.objs.size + 1 := Nat.le_succ _
  have hn : H1 (hp.objs.size + 1) = none := I1.hok.fresh hsz
  have hq := q1 (hp.objs.size + 1) hn
  have kk : ∀ b o, hp.get? b = some o → ((hp.push (PySem.W.kdv_tup [])).push (PySem.HandSPX.excO C hp.objs.size)).get? b = some o := fun b o e => Heap.get?_push_of_some _ (Heap.get?_push_of_some _ e)
  have hget : ((hp.push (PySem.W.kdv_tup [])).push (PySem.HandSPX.excO C hp.objs.size)).get? (hp.objs.size + 1) = some (PySem.HandSPX.excO C hp.objs.size) := by heap_get
  have I2 : Inv X pins σ (upd H1 (hp.objs.size + 1) (exo (hp.objs.size + 1) C none)) ⟨(hp.push (PySem.W.kdv_tup [])).push (PySem.HandSPX.excO C hp.objs.size), g, dr, tk, os⟩ :=
    I1.laid (t' := tk) (a := hp.objs.size + 1) (o := exo (hp.objs.size + 1) C none) (h' := (hp.push (PySem.W.kdv_tup [])).push (PySem.HandSPX.excO C hp.objs.size)) kk hsz (exo_ok hget)
  have r2 : Vals [V.ref (hp.objs.size + 1), z] [Value.ref (hp.objs.size + 1), u] := .cons rfl (.cons rv .nil)
  refine wpAny_call (PySem.HandSPX.call_ownK F.excBase_ValueError (fun Y => PySem.HandSPX.refsVE_contains Y bm hbm) (I1.kIn _ _ hC) (PySem.W.looks_findIn I1.kIn iC) (fun self => PySem.W.bind_fn I1.kIn self tI)
    (codeAny_mono (F1.run _ X.stack _ _ ⟨[Value.ref (hp.objs.size + 1)], [(kn, u)]⟩ [Value.ref (hp.objs.size + 1), u] _ _ (fun _ _ _ => False) (hr.make C [] [(kn, u)]) (I2.env0.make C [] [(kn, u)]) (hb _ _ _) r2 hq) fun r s' hq' => ?_))
  cases r with
  | error er => exact hx pins σ _ _ er s' I2 hq'
  | ok fl =>
    cases fl with
    | ret u =>
      obtain ⟨v, H', I3, rv, ev, q3⟩ := I2.after hq'
      subst ev
      exact ⟨rv, ⟨V.ref (hp.objs.size + 1), H', I3, rfl, q3⟩⟩
    | next => exact False.elim hq'
    | brk => exact False.elim hq'
    | cont => exact False.elim hq'
/-- e.f, e such an exception -/
def tXv (K : PySem.W.Frag) (f : Str) (te : TE) : TE := fun σ H Q => te σ H fun x H1 => ∃ (a C d : Addr) (fs : List (Str × V)) (v : V), x = .ref a ∧ H1 a = some (exo a C (some d)) ∧ H1 d = some (exd d fs) ∧ XfC K C ∧ PySem.W.findIn K (.ref C) f = some none ∧ fs.lookup f = some v ∧ Q v H1
theorem pe_xv {n : Str} (he : PE X e te) (hb : attributeBase e n X.env (eval e X.env) = eval e X.env := by rfl) : PE X (.Attribute e n pos) (tXv X.K n te) := by
  refine ⟨fun pins s σ H Q I h => ?_⟩
  refine attr_of hb (thn (he.run pins s σ H _ I h) fun u s1 hh => ?_)
  obtain ⟨x, H1, I1, rx, a, C, d, fs, v, ex, ea, ed, T, hno, l, q⟩ := hh
  subst ex
  obtain rfl : u = Value.ref a := rx
  obtain ⟨t1, ho⟩ := exo_at I1.hok ea
  obtain ⟨mA, hns, hr⟩ := exd_at I1.hok ed
  obtain ⟨od, hod, hl⟩ := lookIn_ns hns
  obtain ⟨u, hu, ru⟩ := RelO.some_of (v := v) (o := mA n) (by rw [← l]; exact hr n)
  have J : PySem.W.InstAt s1.heap a { cls := .ref C, dict := some d, data := .fields #[.ref t1, .none, .none, .none, .bool false, .none] } C (some od) := ⟨ho, rfl, rfl, hod⟩
  exact HandSPX.exc_get I1.kIn J T.ga T.gg T.exC (PySem.W.findObj_own T.hdC hno rfl (by rw [hl, hu])) (handed_of ru) ⟨v, H1, I1.tok _, ru, q⟩
/-- what the class says of isinstance -/
structure ExcI (K : PySem.W.Frag) (D : Addr) : Prop where
  hc : (PySem.W.clsIn K D).isSome = true
  hg : PySem.W.findIn K (.ref D) "__getattribute__" = some (some (.builtin "BaseException.__getattribute__"))
  hk : PySem.W.findIn K (.ref D) "__getattr__" = some none
  hs : PySem.W.subIn K (.ref D) (.type "BaseException") = some true
  ha : PySem.W.findIn K (.ref D) "__class__" = some (some (.builtin "object.__class__"))
  hn : PySem.W.specialIn K (.builtin "object.__class__") "__get__" = some (some (.builtin "getset_descriptor.__get__"))
  ht : PySem.W.takesIn K (.builtin "object.__class__") = some true
  hm : PySem.W.mroIn K D (.type "object") = some true
/-- isinstance(e, c), e such an exception -/
def rIsO (K : PySem.W.Frag) : List V → Hp → VK → Prop := fun xs H Q => ∃ (a C d : Addr) (fs : List (Str × V)) (c : V) (cv : Value) (b : Bool), xs = [.ref a, c] ∧ H a = some (exo a C (some d)) ∧ H d = some (exd d fs) ∧ ExcI K C ∧ (∀ u, RelV c u → u = cv) ∧ PySem.W.kitOne K (.ref C) cv = some b ∧ Q (.bl b) H
theorem call_isO : CallR X (.builtin "isinstance") (rIsO X.K) := by
  intro pins s σ H xs us Q I r h
  obtain ⟨a, D, d, fs, c, cv, b, rfl, ea, ed, C, hcv, e, q⟩ := h
  cases r with
  | cons rx rr =>
    cases rr with
    | cons rt rr =>
      cases rr
      cases rx
      have ec := hcv _ rt
      subst ec
      obtain ⟨t1, ho⟩ := exo_at I.hok ea
      obtain ⟨mA, hns, hr⟩ := exd_at I.hok ed
      obtain ⟨od, hod, hl⟩ := lookIn_ns hns
      have J : PySem.W.InstAt s.heap a { cls := .ref D, dict := some d, data := .fields #[.ref t1, .none, .none, .none, .bool false, .none] } D (some od) := ⟨ho, rfl, rfl, hod⟩
      exact PySem.W.kia_one (PySem.W.kitx_exc C.hc C.hg C.hk C.hs C.ha C.hn C.ht C.hm) I.kIn J e (fun z => nomatch z) fun tk => ⟨.bl b, H, I.kept (t' := tk) fun _ _ z => z, rfl, q⟩
end
end L2
namespace L2
open PySem PySem.Spec PyProof.Rows
/-! ### promises whose def is entered with no repr under way -/
structure FnOkG (P : Program) (w : World) (K : PySem.W.Frag) (mg : Str → Option Value) (base : Heap) (CX : CXT) (k : Nat) (f : Addr) (fd : FuncData) (ps : List Str) (sp : Sp) : Prop where
  len : ∀ vs H Q E, sp vs H Q E → vs.length = ps.length
  run : ∀ (A : Around) (outer : List Env) (s : Shared) (H : Hp) (args : Args) (us : List Value) (vs : List V) (Q : VK) (E : XK), Room k A → A.guards = some [] → Env0 P w K mg base A outer s H → BindsTo s fd args (ps.zip us) → Vals vs us → sp vs H Q E →
    codeAny (model P w) A (.call (.ref f) args) (CR CX outer P w H s Q E) s
/-- one entry: at a fixed around, the def keeps a promise that is met there alone -/
theorem FnOkG.of {P : Program} {w : World} {K : PySem.W.Frag} {mg : Str → Option Value} {base : Heap} {CX : CXT} {k : Nat} {f : Addr} {fd : FuncData} {ps : List Str} {sp : Sp} (F : FnOk P w K mg base CX k f fd ps sp) : FnOkG P w K mg base CX k f fd ps sp :=
  ⟨F.len, fun A outer s H args us vs Q E hr _ => F.run A outer s H args us vs Q E hr⟩
theorem fn_ofG {CX : CXT} {P : Program} {w : World} {K : PySem.W.Frag} {mg : Str → Option Value} {base : Heap} {k : Nat} {f : Addr} {name qual : Str} {params : Arguments} {body : List Stmt} {scope : Scope} {dV kV doc pm cdv ct oc : Value} {an od : Option Addr}
    {osl : Array (Option Value)} {N ps : List Str} {sp : Sp} (lk : K.lookup f = some ⟨oc, od, .func (PySem.W.fnOf name qual params body scope dV kV doc pm an cdv ct), osl⟩) (hcd : PySem.W.codeIn K cdv qual = true) (S : FnScope N ps scope)
    (len : ∀ vs H Q E, sp vs H Q E → vs.length = ps.length)
    (hbody : ∀ (A : Around) (outer : List Env) (s : Shared) (H : Hp) (vs : List V) (Q : VK) (E : XK), Room k (A.deeper (envOfC qual scope s.heap.objs.size f cdv)) → A.guards = some [] → sp vs H Q E →
      ∃ t, PSs (cxOf CX P w K mg base N qual scope f cdv A outer s H E) body t ∧ t { nx := fun _ H' => Q .non H', rt := Q } (start N vs) H) :
    FnOkG P w K mg base CX (k + 1) f (PySem.W.fnOf name qual params body scope dV kV doc pm an cdv ct) ps sp := by
  refine ⟨len, fun A outer s H args us vs Q E hr hG e0 hb r hsp => ?_⟩
  -- the promise, narrowed to this around's guards, and met at any around by leaving out the others
  have hl := len _ _ _ _ hsp
  have KX : K.In s.heap := e0.mod.kin.keeps fun b o e => (e0.bs b o e).1
  have hkind : ∀ y ∈ ps.zip us, scope.names.lookup y.1 = some .local ∨ (scope.names.lookup y.1 = some .cell ∧ ((cellsFrom (s.heap.objs.size + 1) scope.names []).lookup y.1).isSome = true) := by
    rintro ⟨n, v⟩ hy
    rcases S.par n (List.of_mem_zip hy).1 with q | q
    · exact .inl q
    · exact .inr ⟨q, PySem.W.cellsFrom_some _ _ _ (.inl q)⟩
  refine codeAny_call_function hr.depth (KX _ _ lk) rfl S.co S.gen rfl (PySem.W.codeRec_of KX hcd) (hb _ _ _ _ (wpAny_newFunctionEnv_cells S.kind hkind ?_))
  rintro env rfl s1 x
  refine ⟨(e0.mod.nolimit.keeps fun b o e => (e0.bs b o e).1).keeps x.toInCall.keep, codeAny_func ?_⟩
  obtain ⟨t, ht, hq⟩ := hbody A outer s H vs Q E (hr.deeper _) hG hsp
  have I := inv_start (CX := CX) (P := P) (w := w) (qual := qual) (f := f) (cd := cdv) (E := E) S hr.hd e0 hl r x
  refine wpAny_mono (ht.run [] s1 _ H _ I hq) ?_ fun _ _ z => z
  intro fl s' hs
  cases fl with
  | ret u => exact let ⟨v, _, H', J, rv, q⟩ := hs; ⟨v, H', J.os, J.bare, J.base, J.hok, rv, q⟩
  | next => exact let ⟨_, H', J, q⟩ := hs; ⟨V.non, H', J.os, J.bare, J.base, J.hok, rfl, q⟩
  | brk => exact let ⟨_, _, _, q⟩ := hs; q.elim
  | cont => exact let ⟨_, _, _, q⟩ := hs; q.elim
theorem Fun.okG {P : Program} {w : World} {K : PySem.W.Frag} {mg : Str → Option Value} {base : Heap} {x qual : Str} {st : Stmt} {f : Addr} {fd : FuncData} {N ps : List Str} {k : Nat} {sp : Sp} (F : Fun K x qual st f fd) (S : FnScope N ps (defScope st)) (len : ∀ vs H Q E, sp vs H Q E → vs.length = ps.length)
    (hbody : ∀ (cdv : Value) (A : Around) (outer : List Env) (s : Shared) (H : Hp) (vs : List V) (Q : VK) (E : XK), Room k (A.deeper (envOfC qual (defScope st) s.heap.objs.size f cdv)) → A.guards = some [] → sp vs H Q E →
      ∃ t, PSs (cxOf CX0 P w K mg base N qual (defScope st) f cdv A outer s H E).nox (defBody st) t ∧ t { nx := fun _ H' => Q .non H', rt := Q } (start N vs) H) : FnOkG P w K mg base CX0 (k + 1) f fd ps sp := by
  obtain ⟨oc, od, kV, doc, pm, an, cdv, ct, osl, rfl, lk, hcd⟩ := F.ex
  refine fn_ofG lk hcd S len fun A outer s H vs Q E hr hG hsp => ?_
  obtain ⟨t, h, q⟩ := hbody cdv A outer s H vs Q E hr hG hsp
  exact ⟨t, h.nox, q⟩
/-- a call of a def that wants to know that no repr is under way -/
theorem run_fnG {X : Cx} {CX : CXT} {k : Nat} {f : Addr} {fd : FuncData} {ps : List Str} {sp : Sp} {dvs : List V} {ds : List Value} {E : XK} {pins : List (Addr × Obj)} {σ : St} {H : Hp} {s : Shared} {Q : VK} {us : List Value} {vs : List V} (F : FnOkG X.prog X.w X.K X.mg X.base CX k f fd ps sp) (hr : Room k X.A) (hG : X.A.guards = some []) (hb : Binds X.K fd ps ds) (hd : Vals dvs ds) (hx : Passes CX X E)
    (I : Inv X pins σ H s) (r : Vals vs us) (h : sp (vs ++ dvs) H Q E) : wpAny (model X.prog X.w) X.A (call (.ref f) us) (EP X pins σ Q) X.xe s := by
  have r2 : Vals (vs ++ dvs) (us ++ ds) := r.append hd
  have hl : (us ++ ds).length = ps.length := r2.length.symm.trans (F.len _ _ _ _ h)
  refine wpAny_call (codeAny_mono (F.run X.A X.stack s H ⟨us, []⟩ (us ++ ds) (vs ++ dvs) Q E hr hG I.env0 (hb s us I.kIn hl) r2 h) ?_)
  rintro (e | (_ | _ | _ | u)) s' hq
  · exact hx pins σ H s e s' I hq
  all_goals first | exact I.after hq | exact False.elim hq
theorem pe_callG {X : Cx} {CX : CXT} {k : Nat} {f : Addr} {fd : FuncData} {ps : List Str} {sp : Sp} {dvs : List V} {ds : List Value} {E : XK} {x : Str} {p pos : Pos} {e : Expr} {es : List Expr} {t : TA} (F : FnOkG X.prog X.w X.K X.mg X.base CX k f fd ps sp) (hr : Room k X.A) (hG : X.A.guards = some []) (hg : Gl X x) (hm : X.mg x = some (.ref f)) (hk : PySem.W.keepIn X.K (.ref f) = true) (hb : Binds X.K fd ps ds) (hd : Vals dvs ds) (hx : Passes CX X E)
    (ha : PA X (e :: es) t) (hdb : (x == ("__debug__" : Str)) = false := by decide) (he : starEach (e :: es) X.env = (false, eval e X.env) :: starEach es X.env := by rfl) (hpl : (backTo pos (starEach es X.env)).any (·.1) = false := by rfl) :
    PE X (.Call (.Name x p) (e :: es) [] pos) (tCall sp dvs E t) :=
  ⟨fun pins s σ H Q I h => wpAny_Call_Name_kw (ld_glob I hg hm (PySem.W.callWith_K (h₀ := X.base) I.ok.mod.kin hk (thn (ha.run pos pins s σ H _ I h) fun us s1 ⟨vs, H1, I1, r, q⟩ => ⟨I1.kIn, run_fnG F hr hG hb hd hx I1 r q⟩) he hpl) hdb)⟩
/-! ### the law's end -/
section
variable {P : Program} {w : World} {K : PySem.W.Frag} {mg mb : Str → Option Value} {k : Nat} {fa a : Addr} {fd : FuncData} {x : Str} {sp : Sp} {s₁ : Shared} {vs : List Value} {ns : List Int}
/-- from an abstract heap that knows the script at most -/
theorem law_coreG (KX : K.In s₁.heap) (hns : s₁.heap.Ns mainGlobals mg) (hb : s₁.heap.Ns builtinsNs mb) (hbb : ∀ x : Str, x ≠ "__name__" → mb x = bootBuiltins x) (hlim : s₁.heap.NoLimit) (hg : s₁.gens = #[])
    (ha : s₁.heap.get? a = some { cls := .type "list", data := .seq vs.toArray }) (hr : Room k callerA) (F : ∀ base : Heap, K.In base → base.Ns mainGlobals mg → FnOkG P w K mg base CX0 k fa fd [x] sp)
    (hbind : ∀ (s : Shared) (u : Value), BindsTo s fd ⟨[u], []⟩ [(x, u)]) (H : Hp) (hO : Only H) (hsp : sp [.ref a] H (fun v _ => v = .bl true) fun _ _ _ => False) (hok : HOk P w H s₁.heap) (hA : ∀ b, H b ≠ none → b = a) (hK : H a ≠ none → K.lookup a = none) :
    codeAny (model P w) callerA (.call (.ref fa) ⟨[.ref a], []⟩) (fun r s' => r = .ok (.ret (.bool true)) ∧ OldK s₁.heap s'.heap ∧ s'.os = s₁.os ∧ AllBare s'.gens) s₁ := by
  -- an object that is no list lies outside of H, and so in the base
  have low : ∀ {b : Addr} {o : Obj}, s₁.heap.get? b = some o → (∀ es n, o.data ≠ .seq es n) → (hidT s₁.heap H).get? b = some o := by
    intro b o e nd
    refine hidT_get e ?_
    cases q : H b with
    | none => rfl
    | some u =>
      obtain rfl := hA b (by rw [q]; exact fun z => nomatch z)
      rw [ha] at e
      cases e
      exact absurd rfl (nd _ _)
  have ns : ∀ {b : Addr} {m : Str → Option Value}, s₁.heap.Ns b m → (hidT s₁.heap H).Ns b m := by
    rintro b m ⟨o, es, ep, e, d, r⟩
    exact ⟨o, es, ep, low e (fun _ _ z => by rw [d] at z; cases z), d, r⟩
  have kb : K.In (hidT s₁.heap H) := by
    intro b o e
    refine hidT_get (KX b o e) ?_
    cases q : H b with
    | none => rfl
    | some u =>
      obtain rfl := hA b (by rw [q]; exact fun z => nomatch z)
      rw [hK (by rw [q]; exact fun z => nomatch z)] at e
      cases e
  have nl : (hidT s₁.heap H).NoLimit := by
    obtain ⟨mc, h1, h2⟩ := hlim
    exact ⟨mc, ns h1, h2⟩
  have e0 : Env0 P w K mg (hidT s₁.heap H) callerA [] s₁ H := ⟨rfl, ⟨kb, ns hns, ⟨mb, ns hb, hbb⟩, nl⟩, fun b o e => of_hidT e, Nat.le_of_eq (hidT_size _ _), trivial, (fun b z => nomatch z), hok, .of_eq hg⟩
  refine codeAny_mono ((F _ kb (ns hns)).run callerA [] s₁ H ⟨[.ref a], []⟩ [.ref a] [.ref a] _ _ hr rfl e0 (hbind s₁ (.ref a)) (.cons rfl .nil) hsp) ?_
  rintro (e | (_ | _ | _ | u)) s' h
  · exact h.elim
  · exact h.elim
  · exact h.elim
  · exact h.elim
  · obtain ⟨v, H', os, bare, un, hok', r', q⟩ := h
    have q' : v = .bl true := q
    subst q'
    obtain rfl : u = Value.bool true := r'
    refine ⟨rfl, OldK.of_keep ?_, os, bare⟩
    intro b o e
    rcases hO b with z | ⟨ob, xs, z⟩
    · exact un.keep b o e z (fun z => nomatch z) (fun z => nomatch z)
    · obtain ⟨e1, _⟩ := hok b _ z
      obtain ⟨e2, _⟩ := hok' b _ (un.frzs b ob _ z)
      rw [e] at e1
      cases e1
      exact e2
theorem law_callG (KX : K.In s₁.heap) (hns : s₁.heap.Ns mainGlobals mg) (hb : s₁.heap.Ns builtinsNs mb) (hbb : ∀ x : Str, x ≠ "__name__" → mb x = bootBuiltins x) (hlim : s₁.heap.NoLimit) (hg : s₁.gens = #[])
    (ha : s₁.heap.get? a = some { cls := .type "list", data := .seq vs.toArray }) (hi : IntsAre vs ns) (hl : ns.length ≤ sizeLine) (hr : Room k callerA)
    (F : ∀ base : Heap, K.In base → base.Ns mainGlobals mg → FnOkG P w K mg base CX0 k fa fd [x] sp) (hbind : ∀ (s : Shared) (u : Value), BindsTo s fd ⟨[u], []⟩ [(x, u)])
    (hsp : ∀ H : Hp, Only H → SqL K H a (ns.map V.int) → sp [.ref a] H (fun v _ => v = .bl true) fun _ _ _ => False) :
    codeAny (model P w) callerA (.call (.ref fa) ⟨[.ref a], []⟩) (fun r s' => r = .ok (.ret (.bool true)) ∧ OldK s₁.heap s'.heap ∧ s'.os = s₁.os ∧ AllBare s'.gens) s₁ := by
  have rv := vals_ints hi
  have lenV := hi.length
  cases hk : K.lookup a with
  | some o =>
    have e := KX a o hk
    rw [ha] at e
    cases e
    have hO : Only fun _ => none := fun _ => .inl rfl
    exact law_coreG KX hns hb hbb hlim hg ha hr F hbind _ hO (hsp _ hO (.inr ⟨_, vs.toArray, _, hk, rfl, rfl, rfl, by rw [List.size_toArray, lenV]; exact hl, by simpa using rv⟩)) (fun b u z => nomatch z) (fun b z => absurd rfl z) fun z => absurd rfl z
  | none =>
    let H : Hp := fun b => if b = a then some (.frz { cls := .type "list", data := .seq vs.toArray } (.lst (ns.map V.int))) else none
    have Ha : H a = some (.frz { cls := .type "list", data := .seq vs.toArray } (.lst (ns.map V.int))) := if_pos rfl
    have Hn : ∀ {b}, b ≠ a → H b = none := fun h => if_neg h
    have hO : Only H := fun b => by
      by_cases e : b = a
      · rw [e]; exact .inr ⟨_, _, Ha⟩
      · exact .inl (Hn e)
    refine law_coreG KX hns hb hbb hlim hg ha hr F hbind H hO (hsp H hO (.inl (.inr ⟨_, Ha⟩))) (fun b u z => ?_) (fun b z => ?_) fun _ => hk
    · by_cases e : b = a
      · subst e
        rw [Ha] at z
        cases z
        exact ⟨ha, by rw [List.length_map]; exact hl, vs, _, rv, ha⟩
      · rw [Hn e] at z
        cases z
    · by_cases e : b = a
      · exact e
      · exact absurd (Hn e) z
end
theorem walk_ofBG {l : PySem.W.OpenLaw} {n k : Nat} {q : Program} {loose : List Str} {XP : (Str → Option Value) → Heap → Prop} {YP : World → Heap → Prop} {d : DefRec} {K : Params → PySem.W.Frag} {sp : World → Sp} {x : Str}
    (hn : l.most = some n) (hn2 : n ≤ sizeLine) (hdf : d.params.defaults = []) (hr : Room k callerA)
    (hY : ∀ (w : World) (h : Heap), YP w h → (K w.params).In h)
    (F : ∀ (w : World) (mg : Str → Option Value) (fa : Addr) (h : Heap), (K w.params).In h → h.Ns mainGlobals mg → mg d.name = some (.ref fa) →
      ∃ fd : FuncData, (∀ (s : Shared) (u : Value), BindsTo s fd ⟨[u], []⟩ [(x, u)]) ∧
        ∀ base : Heap, (K w.params).In base → base.Ns mainGlobals mg → FnOkG l.prog w (K w.params) mg base CX0 k fa fd [x] (sp w))
    (hsp : ∀ (w : World) (H : Hp) (a : Addr) (ns : List Int), ns.length ≤ n → (∀ z ∈ ns, Builtin.Int.intBits z ≤ 1048576) → Only H → SqL (K w.params) H a (ns.map V.int) → sp w [.ref a] H (fun v _ => v = .bl true) fun _ _ _ => False) :
    PySem.W.WalkO q loose XP YP l.row.toRowW d [] (fun f vs => PySem.call f vs) := by
  refine Att.attach_callB hn hdf fun w s₀ s₁ mg mb fa o pm cd doc a vs ns G Y ho hd hcd hmg hobj hints hlen hbits hg => ?_
  obtain ⟨fd, hb, hF⟩ := F w mg fa _ (hY w _ Y) G.T.g hmg
  exact law_callG (hY w _ Y) G.T.g G.T.b G.T.builtins G.T.nolimit hg hobj hints (Nat.le_trans hlen hn2) hr hF hb fun H hO hS => hsp w H a ns hlen hbits hO hS
end L2
namespace PySem
/-- none of the dicts at these places is the table of modules -/
def NoMods (h : Heap) (as : List Addr) : Prop := ∀ b ∈ as, (∃ o es n, h.get? b = some o ∧ o.data = .dict es n) → b ≠ sysModules
theorem NoMods.sub {h : Heap} {as bs : List Addr} (x : NoMods h as) (s : ∀ b ∈ bs, b ∈ as) : NoMods h bs := fun b m => x b (s b m)
section
variable {prog : Program} {w : World} {h₀ : Heap}
mutual
theorem reprQ : ∀ {v : Value} {d : PyData} {as : List Addr}, Reads h₀ v d as → d.showable = true → NoMods h₀ as → d.shown.length ≤ sizeLine → ∃ bs, ReadAtMost h₀ d.depth bs ∧ ReprK prog w bs h₀ d.depth v d.shown
  | _, _, _, .none, _, _, _ => ⟨[], (fun _ z => nomatch z), by simp only [PyData.shown]; exact .of_is ReprIs.none _ _ _⟩
  | _, _, _, .bool b, _, _, _ => ⟨[], (fun _ z => nomatch z), by simp only [PyData.shown]; exact .of_is (ReprIs.bool b) _ _ _⟩
  | _, _, _, .int i t, hs, _, _ => ⟨[], (fun _ z => nomatch z), by simp only [PyData.shown]; exact .of_is (ReprIs.int t (by simpa [PyData.showable] using hs)) _ _ _⟩
  | _, _, _, .str x t, _, _, hz => ⟨[], (fun _ z => nomatch z), by simp only [PyData.shown]; exact .of_is (ReprIs.str x t (by simpa only [PyData.shown] using hz)) _ _ _⟩
  | _, _, _, .list (a := a) (vs := vs) (xs := xs) (as := as) q1 q2 q3 q4, hs, hsm, hz => by
    have zz : (listText (PyData.shownAll xs)).length ≤ sizeLine := by simpa only [PyData.shown] using hz
    obtain ⟨bs, hb, hk⟩ := reprQs q4 (by simpa [PyData.showable] using hs) (hsm.sub fun b m => List.mem_cons_of_mem _ m) (fun t ht => Nat.le_trans (listText_mem_le ht) zz)
    have rr : Reads h₀ (.ref a) (.list xs) (a :: as) := .list q1 q2 q3 q4
    have na : a ∉ bs := not_mem_of_deeper rr (Nat.lt_of_lt_of_le (Nat.lt_succ_self _) (by simp only [PyData.depth]; exact Nat.le_refl _)) hb
    refine ⟨a :: bs, hb.cons rr (by simp only [PyData.depth]; omega), ?_⟩
    simp only [PyData.depth, PyData.shown]
    obtain ⟨l⟩ := vs
    match l, q4, hk, q3 with
    | [], q4, hk, q3 =>
      cases (show ReadsAll h₀ [] xs _ from q4)
      simp only [PyData.shownAll, listText_nil]
      exact ReprK.listEmpty q1 q2 q3
    | x :: l, q4, hk, q3 => exact ReprK.list q1 q2 q3 na (by simpa using hk.length_eq) (fun i y e => hk.item i y (by simpa using e))
  | _, _, _, .tuple (a := a) (xs := xs) (as := as) q1 q2 q3 q4, hs, hsm, hz => by
    have zz : (tupleText (PyData.shownAll xs)).length ≤ sizeLine := by simpa only [PyData.shown] using hz
    obtain ⟨bs, hb, hk⟩ := reprQs q4 (by simpa [PyData.showable] using hs) hsm (fun t ht => Nat.le_trans (tupleText_mem_le ht) zz)
    have rr : Reads h₀ (.ref a) (.tuple xs) as := .tuple q1 q2 q3 q4
    have na : a ∉ bs := not_mem_of_deeper rr (Nat.lt_of_lt_of_le (Nat.lt_succ_self _) (by simp only [PyData.depth]; exact Nat.le_refl _)) hb
    refine ⟨a :: bs, hb.cons rr (by simp only [PyData.depth]; omega), ?_⟩
    simp only [PyData.depth, PyData.shown]
    exact ReprK.tuple q1 q2 q3 na hk
  | _, _, _, .dict (a := a) (es := es) (kvs := kvs) (as := as) (bs := cs) q1 q2 q3 q4 q5, hs, hsm, hz => by
    have zz : (dictText (PyData.shownKv kvs)).length ≤ sizeLine := by simpa only [PyData.shown] using hz
    have no : a ≠ sysModules := hsm a (List.mem_cons_self ..) ⟨_, _, _, q1, q3⟩
    obtain ⟨s1, s2⟩ := PyData.showableKv_split kvs (by simpa [PyData.showable] using hs)
    obtain ⟨b1, m1, k1⟩ := reprQs q4 s1 (hsm.sub fun b m => List.mem_append_left _ (List.mem_cons_of_mem _ m)) (fun t ht => let ⟨p, hp, hl⟩ := PyData.shownKv_key_le kvs t ht; Nat.le_trans hl (Nat.le_trans (dictText_mem_le hp) zz))
    obtain ⟨b2, m2, k2⟩ := reprQs q5 s2 (hsm.sub fun b m => List.mem_append_right _ m) (fun t ht => let ⟨p, hp, hl⟩ := PyData.shownKv_val_le kvs t ht; Nat.le_trans hl (Nat.le_trans (dictText_mem_le hp) zz))
    have rr : Reads h₀ (.ref a) (.dict kvs) _ := .dict q1 q2 q3 q4 q5
    have hb : ReadAtMost h₀ (PyData.depthKv kvs) (b1 ++ b2) := (m1.mono (PyData.depthAll_keys_le kvs)).append (m2.mono (PyData.depthAll_vals_le kvs))
    have na : a ∉ b1 ++ b2 := not_mem_of_deeper rr (Nat.lt_of_lt_of_le (Nat.lt_succ_self _) (by simp only [PyData.depth]; exact Nat.le_refl _)) hb
    refine ⟨a :: (b1 ++ b2), hb.cons rr (by simp only [PyData.depth]; omega), ?_⟩
    simp only [PyData.depth, PyData.shown, PyData.shownKv_eq]
    exact ReprK.dict q1 q2 q3 (beq_eq_false_iff_ne.mpr no) na (ReprEntriesK.of_two es.toList _ _
      (k1.more_le (fun b hb => List.mem_append_left _ hb) (PyData.depthAll_keys_le kvs)) (k2.more_le (fun b hb => List.mem_append_right _ hb) (PyData.depthAll_vals_le kvs)))
theorem reprQs : ∀ {vs : List Value} {ds : List PyData} {as : List Addr}, ReadsAll h₀ vs ds as → PyData.showableAll ds = true → NoMods h₀ as → (∀ t ∈ PyData.shownAll ds, t.length ≤ sizeLine) →
    ∃ bs, ReadAtMost h₀ (PyData.depthAll ds) bs ∧ ReprAllK prog w bs h₀ (PyData.depthAll ds) vs (PyData.shownAll ds)
  | _, _, _, .nil, _, _, _ => ⟨[], (fun _ z => nomatch z), by simp only [PyData.shownAll]; exact .nil⟩
  | _, _, _, .cons (d := d) (ds := ds) r rs, hs, hsm, hz => by
    have ss : d.showable = true ∧ PyData.showableAll ds = true := by simpa [PyData.showableAll] using hs
    obtain ⟨b1, m1, k1⟩ := reprQ r ss.1 (hsm.sub fun b m => List.mem_append_left _ m) (hz _ (by simp only [PyData.shownAll]; exact List.mem_cons_self ..))
    obtain ⟨b2, m2, k2⟩ := reprQs rs ss.2 (hsm.sub fun b m => List.mem_append_right _ m) (fun t ht => hz t (by simp only [PyData.shownAll]; exact List.mem_cons_of_mem _ ht))
    have e : PyData.depthAll (d :: ds) = max d.depth (PyData.depthAll ds) := by simp only [PyData.depthAll]
    refine ⟨b1 ++ b2, ?_, ?_⟩
    · rw [e]; exact (m1.mono (Nat.le_max_left _ _)).append (m2.mono (Nat.le_max_right _ _))
    · rw [e]; simp only [PyData.shownAll]
      exact .cons ((k1.more fun b hb => List.mem_append_left _ hb).level_le (Nat.le_max_left _ _)) (k2.more_le (fun b hb => List.mem_append_right _ hb) (Nat.le_max_right _ _))
end
theorem showsQ {a : Addr} {d : PyData} {as : List Addr} (r : Reads h₀ (.ref a) d as) (hs : d.showable = true) (hsm : NoMods h₀ as) (hsz : d.shown.length ≤ sizeLine) : ∃ T idr, ShowsBy prog w h₀ a d T idr := by
  cases r with
  | list q1 q2 q3 q4 =>
    rename_i o vs n xs as
    have zz : (listText (PyData.shownAll xs)).length ≤ sizeLine := by simpa only [PyData.shown] using hsz
    obtain ⟨bs, hb, hk⟩ := reprQs (prog := prog) (w := w) q4 (by simpa [PyData.showable] using hs) (hsm.sub fun b m => List.mem_cons_of_mem _ m) (fun t ht => Nat.le_trans (listText_mem_le ht) zz)
    have na : a ∉ bs := not_mem_of_deeper (.list q1 q2 q3 q4) (by simp only [PyData.depth]; omega) hb
    refine ⟨"list", "list.__repr__", F.slot_list_repr.toG, F.slot_list_str, F.slot_list_format, fun s k => ⟨o, k _ _ q1, q2⟩, fun A E s Q hg hu k hQ => ?_⟩
    simp only [PyData.depth] at hu
    simp only [PyData.shown] at hQ
    obtain ⟨l⟩ := vs
    match l, q4, hk, q3 with
    | [], q4, hk, q3 =>
      cases (show ReadsAll h₀ [] xs _ from q4)
      simp only [PyData.shownAll, listText_nil] at hQ
      exact call_list_repr_empty ⟨o, k _ _ q1, q2⟩ (k _ _ q1) q3 (hQ s.heap _ _ fun _ _ e => e)
    | x :: l, q4, hk, q3 => exact call_list_reprK q1 q2 q3 na (by simpa using hk.length_eq) (fun i y e => hk.item i y (by simpa using e)) hg (fun b _ => Clear.nil b) hu k hQ zz
  | tuple q1 q2 q3 q4 =>
    rename_i o vs n xs
    have zz : (tupleText (PyData.shownAll xs)).length ≤ sizeLine := by simpa only [PyData.shown] using hsz
    obtain ⟨bs, hb, hk⟩ := reprQs (prog := prog) (w := w) q4 (by simpa [PyData.showable] using hs) hsm (fun t ht => Nat.le_trans (tupleText_mem_le ht) zz)
    have na : a ∉ bs := not_mem_of_deeper (.tuple q1 q2 q3 q4) (by simp only [PyData.depth]; omega) hb
    refine ⟨"tuple", "tuple.__repr__", F.slot_tuple_repr, F.slot_tuple_str, F.slot_tuple_format, fun s k => ⟨o, k _ _ q1, q2⟩, fun A E s Q hg hu k hQ => ?_⟩
    simp only [PyData.depth] at hu
    simp only [PyData.shown] at hQ
    exact call_tuple_reprK q1 q2 q3 na hk hg (fun b _ => Clear.nil b) hu k hQ zz
  | dict q1 q2 q3 q4 q5 =>
    rename_i o es n kvs as cs
    have zz : (dictText (PyData.shownKv kvs)).length ≤ sizeLine := by simpa only [PyData.shown] using hsz
    have no : a ≠ sysModules := hsm a (List.mem_cons_self ..) ⟨_, _, _, q1, q3⟩
    obtain ⟨s1, s2⟩ := PyData.showableKv_split kvs (by simpa [PyData.showable] using hs)
    obtain ⟨b1, m1, k1⟩ := reprQs (prog := prog) (w := w) q4 s1 (hsm.sub fun b m => List.mem_append_left _ (List.mem_cons_of_mem _ m)) (fun t ht => let ⟨p, hp, hl⟩ := PyData.shownKv_key_le kvs t ht; Nat.le_trans hl (Nat.le_trans (dictText_mem_le hp) zz))
    obtain ⟨b2, m2, k2⟩ := reprQs (prog := prog) (w := w) q5 s2 (hsm.sub fun b m => List.mem_append_right _ m) (fun t ht => let ⟨p, hp, hl⟩ := PyData.shownKv_val_le kvs t ht; Nat.le_trans hl (Nat.le_trans (dictText_mem_le hp) zz))
    have hb : ReadAtMost h₀ (PyData.depthKv kvs) (b1 ++ b2) := (m1.mono (PyData.depthAll_keys_le kvs)).append (m2.mono (PyData.depthAll_vals_le kvs))
    have na : a ∉ b1 ++ b2 := not_mem_of_deeper (.dict q1 q2 q3 q4 q5) (by simp only [PyData.depth]; omega) hb
    refine ⟨"dict", "dict.__repr__", F.slot_dict_repr, F.slot_dict_str, F.slot_dict_format, fun s k => ⟨o, k _ _ q1, q2⟩, fun A E s Q hg hu k hQ => ?_⟩
    simp only [PyData.depth] at hu
    simp only [PyData.shown, PyData.shownKv_eq] at hQ
    exact call_dict_reprK q1 q2 q3 (beq_eq_false_iff_ne.mpr no) na (ReprEntriesK.of_two es.toList _ _
      (k1.more_le (fun b hb => List.mem_append_left _ hb) (PyData.depthAll_keys_le kvs)) (k2.more_le (fun b hb => List.mem_append_right _ hb) (PyData.depthAll_vals_le kvs))) hg (fun b _ => Clear.nil b) hu k hQ (by rw [← PyData.shownKv_eq]; exact zz)
end
end PySem

namespace L2
open PySem PySem.Spec PyProof.Rows
/-- a key as data -/
def kD : Key → PyData
  | .inl i => .int i
  | .inr x => .str x
mutual
/-- v reads as d, dicts among it -/
inductive Dq (K : PySem.W.Frag) (H : Hp) : V → PyData → Prop
  | non : Dq K H .non .none
  | bl (b : Bool) : Dq K H (.bl b) (.bool b)
  | int (i : Int) : Dq K H (.int i) (.int i)
  | str (x : Str) : Dq K H (.str x) (.str x)
  | lst {a : Addr} {xs : List V} {ds : List PyData} : SqL K H a xs → Dqs K H xs ds → Dq K H (.ref a) (.list ds)
  | tup {a : Addr} {xs : List V} {ds : List PyData} : SqT K H a xs → Dqs K H xs ds → Dq K H (.ref a) (.tuple ds)
  | dct {a : Addr} {kvs : List (Key × V)} {ds : List (PyData × PyData)} : H a = some (.dK kvs) → Dkv K H kvs ds → Dq K H (.ref a) (.dict ds)
inductive Dqs (K : PySem.W.Frag) (H : Hp) : List V → List PyData → Prop
  | nil : Dqs K H [] []
  | cons {v : V} {vs : List V} {d : PyData} {ds : List PyData} : Dq K H v d → Dqs K H vs ds → Dqs K H (v :: vs) (d :: ds)
inductive Dkv (K : PySem.W.Frag) (H : Hp) : List (Key × V) → List (PyData × PyData) → Prop
  | nil : Dkv K H [] []
  | cons {k : Key} {v : V} {kvs : List (Key × V)} {d : PyData} {ds : List (PyData × PyData)} : Dq K H v d → Dkv K H kvs ds → Dkv K H ((k, v) :: kvs) ((kD k, d) :: ds)
end
theorem _root_.PySem.NoMods.nil {h : Heap} : NoMods h [] := fun _ z => nomatch z
theorem _root_.PySem.NoMods.app {h : Heap} {as bs : List Addr} (x : NoMods h as) (y : NoMods h bs) : NoMods h (as ++ bs) := fun b m => (List.mem_append.mp m).elim (x b) (y b)
theorem key_reads {h : Heap} {k : Key} {u : Value} (e : keyIs k u = true) : Reads h u (kD k) [] := by
  rcases keyIs_shape e with ⟨i, t, rfl, rfl⟩ | ⟨x, t, rfl, rfl⟩
  · exact .int i t
  · exact .str x t
section
variable {X : Cx} {pins : List (Addr × Obj)} {σ : St} {H : Hp} {s : Shared}
mutual
theorem Dq.reads (I : Inv X pins σ H s) : ∀ {v : V} {d : PyData} {u : Value}, Dq X.K H v d → RelV v u → ∃ as, Reads s.heap u d as ∧ NoMods s.heap as
  | _, _, _, .non, r => by cases r; exact ⟨_, .none, .nil⟩
  | _, _, _, .bl b, r => by cases r; exact ⟨_, .bool b, .nil⟩
  | _, _, _, .int i, r => by obtain ⟨t, rfl⟩ := r; exact ⟨_, .int i t, .nil⟩
  | _, _, _, .str x, r => by obtain ⟨t, rfl⟩ := r; exact ⟨_, .str x t, .nil⟩
  | _, _, u, .lst (a := a) q ds, r => by
    obtain rfl : u = Value.ref a := r
    obtain ⟨its, rv, p, hz⟩ := I.list q
    obtain ⟨as, rs, nm⟩ := Dqs.reads I ds rv
    obtain ⟨o, e1, e2, n, e3⟩ := p.isList
    refine ⟨a :: as, .list e1 e2 e3 (by simpa using rs), fun b m => ?_⟩
    rcases List.mem_cons.mp m with rfl | m
    · rintro ⟨o', es, n', e4, e5⟩
      rw [e1] at e4
      cases e4
      rw [e3] at e5
      cases e5
    · exact nm b m
  | _, _, u, .tup (a := a) q ds, r => by
    obtain rfl : u = Value.ref a := r
    obtain ⟨its, rv, p, hz⟩ := I.tuple q
    obtain ⟨as, rs, nm⟩ := Dqs.reads I ds rv
    obtain ⟨o, e1, e2, n, e3⟩ := (show s.heap.IsTuple a its.toArray from p)
    exact ⟨as, .tuple e1 e2 e3 (by simpa using rs), nm⟩
  | _, _, u, .dct (a := a) q ds, r => by
    obtain rfl : u = Value.ref a := r
    obtain ⟨_, hm, vs, kv, o, es, ep, e1, e2, e3, e4, e5, e6⟩ := (show ObjOk X.prog X.w H s.heap a (.dK _) from I.hok a _ q)
    obtain ⟨bs, rk, rv, nm⟩ := Dkv.reads I ds kv e5
    refine ⟨a :: [] ++ bs, .dict e1 e2.1 e3 rk rv, ?_⟩
    intro b m
    rcases List.mem_cons.mp m with rfl | m
    · intro _
      exact beq_eq_false_iff_ne.mp hm
    · exact nm b m
theorem Dqs.reads (I : Inv X pins σ H s) : ∀ {vs : List V} {ds : List PyData} {us : List Value}, Dqs X.K H vs ds → Vals vs us → ∃ as, ReadsAll s.heap us ds as ∧ NoMods s.heap as
  | _, _, _, .nil, .nil => ⟨_, .nil, .nil⟩
  | _, _, _, .cons q qs, .cons r rs => by
    obtain ⟨as, r1, n1⟩ := Dq.reads I q r
    obtain ⟨bs, r2, n2⟩ := Dqs.reads I qs rs
    exact ⟨as ++ bs, .cons r1 r2, n1.app n2⟩
theorem Dkv.reads (I : Inv X pins σ H s) : ∀ {kvs : List (Key × V)} {ds : List (PyData × PyData)} {us : List (Key × Value)} {es : List DictEntry}, Dkv X.K H kvs ds → KV kvs us → Pairs (mixKind X.prog X.w) es us →
    ∃ bs, ReadsAll s.heap (es.map (·.key)) (ds.map (·.1)) [] ∧ ReadsAll s.heap (es.map (·.val)) (ds.map (·.2)) bs ∧ NoMods s.heap bs
  | _, _, _, _, .nil, .nil, .nil => ⟨_, .nil, .nil, .nil⟩
  | _, _, _, _, .cons (k := k) q qs, .cons r rs, .cons hk hv hp => by
    obtain ⟨as, r1, n1⟩ := Dq.reads I q r.2
    obtain ⟨bs, rk, rv, n2⟩ := Dkv.reads I qs rs hp
    have kr := key_reads (h := s.heap) (k := k) (by rw [show k = _ from r.1]; exact hk)
    exact ⟨as ++ bs, ReadsAll.cons kr rk, by rw [List.map_cons, hv]; exact ReadsAll.cons r1 rv, n1.app n2⟩
end
end
/-- repr(x), x data: its text -/
def rRepr (K : PySem.W.Frag) : List V → Hp → VK → Prop := fun xs H Q => ∃ x d, xs = [x] ∧ Dq K H x d ∧ d.showable = true ∧ d.depth ≤ 60 ∧ d.shown.length ≤ sizeLine ∧ Q (.str d.shown) H
theorem call_repr {X : Cx} (hG : X.A.guards = some []) (hu : X.A.units + 64 < cLine) : CallR X (.builtin "repr") (rRepr X.K) := by
  intro pins s σ H xs us Q I r h
  obtain ⟨x, d, rfl, dq, hs, hd, hz, q⟩ := h
  cases r with
  | cons rx rr =>
  cases rr
  obtain ⟨as, rd, nm⟩ := dq.reads I rx
  have fin : ∀ (h' : Heap) (u : Tok) (tk : Nat), (∀ b o, s.heap.get? b = some o → h'.get? b = some o) → EP X pins σ Q (.str d.shown u) { s with heap := h', toks := tk } := fun h' u tk k => ⟨.str d.shown, H, I.kept k, ⟨u, rfl⟩, q⟩
  cases rd with
  | none => exact PySem.P.repr_of_none (fin s.heap _ _ fun _ _ e => e)
  | bool b => exact PySem.P.repr_of_bool (fin s.heap _ _ fun _ _ e => e)
  | int i t => exact PySem.P.repr_of_int (by simpa [PyData.showable] using hs) (fin s.heap _ _ fun _ _ e => e)
  | str y t => exact PySem.P.repr_of_str (fin s.heap _ _ fun _ _ e => e) (by simpa only [PyData.shown] using hz)
  | list q1 q2 q3 q4 =>
    obtain ⟨T, idr, S⟩ := showsQ (prog := X.prog) (w := X.w) (.list q1 q2 q3 q4) hs nm hz
    exact call_repr_slot (by omega) (S.typeIs s fun _ _ e => e) S.slotRepr (S.call X.A.in1 _ s _ hG (by show X.A.units + 1 + _ < cLine; omega) (fun _ _ e => e) fun h' u tk k => ⟨_, _, rfl, fin h' u tk k⟩)
  | tuple q1 q2 q3 q4 =>
    obtain ⟨T, idr, S⟩ := showsQ (prog := X.prog) (w := X.w) (.tuple q1 q2 q3 q4) hs nm hz
    exact call_repr_slot (by omega) (S.typeIs s fun _ _ e => e) S.slotRepr (S.call X.A.in1 _ s _ hG (by show X.A.units + 1 + _ < cLine; omega) (fun _ _ e => e) fun h' u tk k => ⟨_, _, rfl, fin h' u tk k⟩)
  | dict q1 q2 q3 q4 q5 =>
    obtain ⟨T, idr, S⟩ := showsQ (prog := X.prog) (w := X.w) (.dict q1 q2 q3 q4 q5) hs nm hz
    exact call_repr_slot (by omega) (S.typeIs s fun _ _ e => e) S.slotRepr (S.call X.A.in1 _ s _ hG (by show X.A.units + 1 + _ < cLine; omega) (fun _ _ e => e) fun h' u tk k => ⟨_, _, rfl, fin h' u tk k⟩)
end L2
/-! ### ints of the script: their bits -/
namespace L2
open PySem PySem.Spec PyProof.Rows
theorem lt_of_bits {z : Int} {b : Nat} (h : Builtin.Int.intBits z ≤ b) : z.natAbs < 2 ^ b := by
  unfold Builtin.Int.intBits at h
  split at h
  · rename_i e
    have e0 : z = 0 := by simpa using e
    rw [e0]
    exact Nat.two_pow_pos b
  · exact Nat.lt_of_lt_of_le Nat.lt_log2_self (Nat.pow_le_pow_right (by decide) (by omega))
theorem bits_of_lt {z : Int} {b : Nat} (h : z.natAbs < 2 ^ b) : Builtin.Int.intBits z ≤ b := by
  unfold Builtin.Int.intBits
  split
  · exact Nat.zero_le _
  · rename_i e
    have e0 : z.natAbs ≠ 0 := fun q => e (by have : z = 0 := by omega
                                             simp [this])
    have := (Nat.log2_lt e0).mpr h
    omega
/-- a ** n of any base whose power has less than 2 ^ 27 bits -/
def CPowW (i j : Int) : Prop := 0 ≤ j ∧ (Builtin.Int.intBits i : Int) * j ≤ 2 ^ 27
theorem op_powW {X : Cx} : OpR X (binaryOp .Pow) (rI CPowW fun i j => .int (i ^ j.toNat)) := opI fun _ _ _ _ _ _ _ hc q => pow_int hc.1 hc.2 q
/-- m * c + z, m and c small, z of at most b bits -/
theorem bits_mix {m c z : Int} {b : Nat} (hm : m.natAbs < 2 ^ 32) (hc : c.natAbs < 2 ^ 32) (hz : Builtin.Int.intBits z ≤ b) : Builtin.Int.intBits (m * c + z) ≤ b + 65 := by
  have h1 := lt_of_bits hz
  refine bits_of_lt ?_
  have h2 : (m * c).natAbs < 2 ^ 64 := by
    rw [Int.natAbs_mul]
    exact Nat.lt_of_lt_of_le (Nat.mul_lt_mul'' hm hc) (by decide)
  have h3 : (m * c + z).natAbs ≤ (m * c).natAbs + z.natAbs := Int.natAbs_add_le _ _
  have h4 : 2 ^ (b + 65) = 2 ^ b * 2 ^ 65 := Nat.pow_add ..
  have h5 : 1 ≤ 2 ^ b := Nat.one_le_two_pow
  generalize 2 ^ b = B at *
  have h6 : B * 2 ^ 65 = B * 2 ^ 64 + B * 2 ^ 64 := by omega
  have h7 : 2 ^ 64 ≤ B * 2 ^ 64 := Nat.le_mul_of_pos_left _ h5
  have h8 : B ≤ B * 2 ^ 64 := Nat.le_mul_of_pos_right _ (by decide)
  omega
end L2
namespace K61
open PySem PySem.Spec PyProof.Rows L2
def top (i : Nat) : Stmt := PySem.Challenge.pw_butthese_k61_errors_by_hand.main.body.getD i (.Pass ⟨0, 0, 0, 0⟩)
/-! ### the errors' __init__ -/
/-- self.f = the one argument -/
def spInit (K : PySem.W.Frag) (fld : Str) : Sp := fun vs H Q _ => ∃ (a C : Addr) (v : V), vs = [.ref a, v] ∧ OexC K C ∧ PySem.W.findIn K (.ref C) fld = some none ∧ H a = some (exo a C none) ∧ ∀ d, H d = none → d ≠ a → Q .non (upd (upd H d (exd d [(fld, v)])) a (exo a C (some d)))
section
variable {P : Program} {w : World} {K : PySem.W.Frag} {mg : Str → Option Value} {base : Heap}
abbrev sIBadSigns : Stmt := inClass (top 2) 0
theorem scIBadSigns : FnScope ["self", "value"] ["self", "value"] (defScope sIBadSigns) := ⟨rfl, rfl, rfl, by decide +kernel, rfl, by decide +kernel, by decide +kernel⟩
theorem okIBadSigns {f : Addr} {fd : FuncData} (F : Fun K "__init__" "BadSigns.__init__" sIBadSigns f fd) : FnOk P w K mg base CX0 1 f fd ["self", "value"] (spInit K "value") := by
  refine F.ok scIBadSigns (fun vs H Q E h => ?_) (fun cdv A outer s H vs Q E hr h => ?_)
  · obtain ⟨a, C, v, rfl, _⟩ := h
    rfl
  · obtain ⟨a, C, v, rfl, T, hno, ha, k⟩ := h
    refine ⟨_, pss_one (ps_ost (pv 0) (pv 1)), ?_⟩
    exact ⟨_, rfl, _, rfl, a, C, rfl, T, hno, .inl ⟨ha, k⟩⟩
abbrev sIBadTree : Stmt := inClass (top 3) 0
theorem scIBadTree : FnScope ["self", "value"] ["self", "value"] (defScope sIBadTree) := ⟨rfl, rfl, rfl, by decide +kernel, rfl, by decide +kernel, by decide +kernel⟩
theorem okIBadTree {f : Addr} {fd : FuncData} (F : Fun K "__init__" "BadTree.__init__" sIBadTree f fd) : FnOk P w K mg base CX0 1 f fd ["self", "value"] (spInit K "value") := by
  refine F.ok scIBadTree (fun vs H Q E h => ?_) (fun cdv A outer s H vs Q E hr h => ?_)
  · obtain ⟨a, C, v, rfl, _⟩ := h
    rfl
  · obtain ⟨a, C, v, rfl, T, hno, ha, k⟩ := h
    refine ⟨_, pss_one (ps_ost (pv 0) (pv 1)), ?_⟩
    exact ⟨_, rfl, _, rfl, a, C, rfl, T, hno, .inl ⟨ha, k⟩⟩
abbrev sIBadForm : Stmt := inClass (top 4) 0
theorem scIBadForm : FnScope ["self", "value"] ["self", "value"] (defScope sIBadForm) := ⟨rfl, rfl, rfl, by decide +kernel, rfl, by decide +kernel, by decide +kernel⟩
theorem okIBadForm {f : Addr} {fd : FuncData} (F : Fun K "__init__" "BadForm.__init__" sIBadForm f fd) : FnOk P w K mg base CX0 1 f fd ["self", "value"] (spInit K "value") := by
  refine F.ok scIBadForm (fun vs H Q E h => ?_) (fun cdv A outer s H vs Q E hr h => ?_)
  · obtain ⟨a, C, v, rfl, _⟩ := h
    rfl
  · obtain ⟨a, C, v, rfl, T, hno, ha, k⟩ := h
    refine ⟨_, pss_one (ps_ost (pv 0) (pv 1)), ?_⟩
    exact ⟨_, rfl, _, rfl, a, C, rfl, T, hno, .inl ⟨ha, k⟩⟩
abbrev sIBadValues : Stmt := inClass (top 6) 0
theorem scIBadValues : FnScope ["self", "value"] ["self", "value"] (defScope sIBadValues) := ⟨rfl, rfl, rfl, by decide +kernel, rfl, by decide +kernel, by decide +kernel⟩
theorem okIBadValues {f : Addr} {fd : FuncData} (F : Fun K "__init__" "BadValues.__init__" sIBadValues f fd) : FnOk P w K mg base CX0 1 f fd ["self", "value"] (spInit K "value") := by
  refine F.ok scIBadValues (fun vs H Q E h => ?_) (fun cdv A outer s H vs Q E hr h => ?_)
  · obtain ⟨a, C, v, rfl, _⟩ := h
    rfl
  · obtain ⟨a, C, v, rfl, T, hno, ha, k⟩ := h
    refine ⟨_, pss_one (ps_ost (pv 0) (pv 1)), ?_⟩
    exact ⟨_, rfl, _, rfl, a, C, rfl, T, hno, .inl ⟨ha, k⟩⟩
abbrev sIHasMore : Stmt := inClass (top 8) 0
theorem scIHasMore : FnScope ["self", "value"] ["self", "value"] (defScope sIHasMore) := ⟨rfl, rfl, rfl, by decide +kernel, rfl, by decide +kernel, by decide +kernel⟩
theorem okIHasMore {f : Addr} {fd : FuncData} (F : Fun K "__init__" "HasMore.__init__" sIHasMore f fd) : FnOk P w K mg base CX0 1 f fd ["self", "value"] (spInit K "value") := by
  refine F.ok scIHasMore (fun vs H Q E h => ?_) (fun cdv A outer s H vs Q E hr h => ?_)
  · obtain ⟨a, C, v, rfl, _⟩ := h
    rfl
  · obtain ⟨a, C, v, rfl, T, hno, ha, k⟩ := h
    refine ⟨_, pss_one (ps_ost (pv 0) (pv 1)), ?_⟩
    exact ⟨_, rfl, _, rfl, a, C, rfl, T, hno, .inl ⟨ha, k⟩⟩
abbrev sINotThere : Stmt := inClass (top 10) 0
theorem scINotThere : FnScope ["self", "value"] ["self", "value"] (defScope sINotThere) := ⟨rfl, rfl, rfl, by decide +kernel, rfl, by decide +kernel, by decide +kernel⟩
theorem okINotThere {f : Addr} {fd : FuncData} (F : Fun K "__init__" "NotThere.__init__" sINotThere f fd) : FnOk P w K mg base CX0 1 f fd ["self", "value"] (spInit K "value") := by
  refine F.ok scINotThere (fun vs H Q E h => ?_) (fun cdv A outer s H vs Q E hr h => ?_)
  · obtain ⟨a, C, v, rfl, _⟩ := h
    rfl
  · obtain ⟨a, C, v, rfl, T, hno, ha, k⟩ := h
    refine ⟨_, pss_one (ps_ost (pv 0) (pv 1)), ?_⟩
    exact ⟨_, rfl, _, rfl, a, C, rfl, T, hno, .inl ⟨ha, k⟩⟩
abbrev sIBadText : Stmt := inClass (top 12) 0
theorem scIBadText : FnScope ["self", "value"] ["self", "value"] (defScope sIBadText) := ⟨rfl, rfl, rfl, by decide +kernel, rfl, by decide +kernel, by decide +kernel⟩
theorem okIBadText {f : Addr} {fd : FuncData} (F : Fun K "__init__" "BadText.__init__" sIBadText f fd) : FnOk P w K mg base CX0 1 f fd ["self", "value"] (spInit K "value") := by
  refine F.ok scIBadText (fun vs H Q E h => ?_) (fun cdv A outer s H vs Q E hr h => ?_)
  · obtain ⟨a, C, v, rfl, _⟩ := h
    rfl
  · obtain ⟨a, C, v, rfl, T, hno, ha, k⟩ := h
    refine ⟨_, pss_one (ps_ost (pv 0) (pv 1)), ?_⟩
    exact ⟨_, rfl, _, rfl, a, C, rfl, T, hno, .inl ⟨ha, k⟩⟩
abbrev sIBadForms : Stmt := inClass (top 5) 0
theorem scIBadForms : FnScope ["self", "position"] ["self", "position"] (defScope sIBadForms) := ⟨rfl, rfl, rfl, by decide +kernel, rfl, by decide +kernel, by decide +kernel⟩
theorem okIBadForms {f : Addr} {fd : FuncData} (F : Fun K "__init__" "BadForms.__init__" sIBadForms f fd) : FnOk P w K mg base CX0 1 f fd ["self", "position"] (spInit K "position") := by
  refine F.ok scIBadForms (fun vs H Q E h => ?_) (fun cdv A outer s H vs Q E hr h => ?_)
  · obtain ⟨a, C, v, rfl, _⟩ := h
    rfl
  · obtain ⟨a, C, v, rfl, T, hno, ha, k⟩ := h
    refine ⟨_, pss_one (ps_ost (pv 0) (pv 1)), ?_⟩
    exact ⟨_, rfl, _, rfl, a, C, rfl, T, hno, .inl ⟨ha, k⟩⟩
abbrev sINotPlain : Stmt := inClass (top 7) 0
theorem scINotPlain : FnScope ["self", "position"] ["self", "position"] (defScope sINotPlain) := ⟨rfl, rfl, rfl, by decide +kernel, rfl, by decide +kernel, by decide +kernel⟩
theorem okINotPlain {f : Addr} {fd : FuncData} (F : Fun K "__init__" "NotPlain.__init__" sINotPlain f fd) : FnOk P w K mg base CX0 1 f fd ["self", "position"] (spInit K "position") := by
  refine F.ok scINotPlain (fun vs H Q E h => ?_) (fun cdv A outer s H vs Q E hr h => ?_)
  · obtain ⟨a, C, v, rfl, _⟩ := h
    rfl
  · obtain ⟨a, C, v, rfl, T, hno, ha, k⟩ := h
    refine ⟨_, pss_one (ps_ost (pv 0) (pv 1)), ?_⟩
    exact ⟨_, rfl, _, rfl, a, C, rfl, T, hno, .inl ⟨ha, k⟩⟩
abbrev sIBadCondition : Stmt := inClass (top 9) 0
theorem scIBadCondition : FnScope ["self", "position"] ["self", "position"] (defScope sIBadCondition) := ⟨rfl, rfl, rfl, by decide +kernel, rfl, by decide +kernel, by decide +kernel⟩
theorem okIBadCondition {f : Addr} {fd : FuncData} (F : Fun K "__init__" "BadCondition.__init__" sIBadCondition f fd) : FnOk P w K mg base CX0 1 f fd ["self", "position"] (spInit K "position") := by
  refine F.ok scIBadCondition (fun vs H Q E h => ?_) (fun cdv A outer s H vs Q E hr h => ?_)
  · obtain ⟨a, C, v, rfl, _⟩ := h
    rfl
  · obtain ⟨a, C, v, rfl, T, hno, ha, k⟩ := h
    refine ⟨_, pss_one (ps_ost (pv 0) (pv 1)), ?_⟩
    exact ⟨_, rfl, _, rfl, a, C, rfl, T, hno, .inl ⟨ha, k⟩⟩
abbrev sITooFar : Stmt := inClass (top 11) 0
theorem scITooFar : FnScope ["self", "count"] ["self", "count"] (defScope sITooFar) := ⟨rfl, rfl, rfl, by decide +kernel, rfl, by decide +kernel, by decide +kernel⟩
theorem okITooFar {f : Addr} {fd : FuncData} (F : Fun K "__init__" "TooFar.__init__" sITooFar f fd) : FnOk P w K mg base CX0 1 f fd ["self", "count"] (spInit K "count") := by
  refine F.ok scITooFar (fun vs H Q E h => ?_) (fun cdv A outer s H vs Q E hr h => ?_)
  · obtain ⟨a, C, v, rfl, _⟩ := h
    rfl
  · obtain ⟨a, C, v, rfl, T, hno, ha, k⟩ := h
    refine ⟨_, pss_one (ps_ost (pv 0) (pv 1)), ?_⟩
    exact ⟨_, rfl, _, rfl, a, C, rfl, T, hno, .inl ⟨ha, k⟩⟩
end
end K61
namespace K61
open PySem PySem.Spec PyProof.Rows L2
/-! ### where draws come from -/
/-- at p: what is left of the own number, the mixed one -/
def Src (H : Hp) (p : Addr) : Prop := ∃ o m : Int, H p = some (.lst [.int o, .int m]) ∧ 0 ≤ o ∧ 0 ≤ m ∧ m ≤ 2147483647
/-- all stands but p -/
def But (p : Addr) (H H' : Hp) : Prop := ∀ b o, H b = some o → b ≠ p → H' b = some o
theorem But.trans {p : Addr} {H H1 H2 : Hp} (a : But p H H1) (b : But p H1 H2) : But p H H2 := fun x o e n => b x o (a x o e n) n
theorem But.upd {p : Addr} {H : Hp} {o : HO} : But p H (upd H p o) := fun b u e n => by
  rw [upd_ne n]
  exact e
theorem But.refl {p : Addr} {H : Hp} : But p H H := fun _ _ e _ => e
def spSource (K : PySem.W.Frag) : Sp := fun vs H Q _ => ∃ (a : Addr) (ns : List Int) (st : Int), vs = [.ref a, .int st] ∧ SqL K H a (ns.map V.int) ∧ ns.length ≤ 63 ∧ (∀ z ∈ ns, Builtin.Int.intBits z ≤ 1048576) ∧ 0 ≤ st ∧ st ≤ 63 ∧
  ∀ (p : Addr) (H' : Hp), H p = none → Src H' p → Same H H' → Q (.ref p) H'
def spDraw : Sp := fun vs H Q _ => ∃ (p : Addr) (n : Int), vs = [.ref p, .int n] ∧ Src H p ∧ 0 < n ∧ n < 1073741824 ∧ ∀ (r : Int) (H' : Hp), 0 ≤ r → r < n → Src H' p → But p H H' → Q (.int r) H'
def spPick : Sp := fun vs H Q _ => ∃ (p t : Addr) (xs : List V), vs = [.ref p, .ref t] ∧ Src H p ∧ H t = some (.lst xs) ∧ t ≠ p ∧ xs ≠ [] ∧ xs.length < 1000 ∧ ∀ (i : Nat) (v : V) (H' : Hp), xs[i]? = some v → Src H' p → But p H H' → Q v H'
abbrev sSource : Stmt := top 14
abbrev sDraw : Stmt := top 15
abbrev sPick : Stmt := top 16
structure TxB (mg : Str → Option Value) : Prop where
  int : mg "int" = none
  len : mg "len" = none
section
variable {P : Program} {w : World} {K : PySem.W.Frag} {mg : Str → Option Value} {base : Heap}
theorem scSource : FnScope ["script", "start", "mixed", "cell", "own"] ["script", "start"] (defScope sSource) := ⟨rfl, rfl, rfl, by decide +kernel, rfl, by decide +kernel, by decide +kernel⟩
theorem mod_le {i j : Int} (h : 0 < j) : 0 ≤ i.fmod j ∧ i.fmod j < j := by
  rw [Int.fmod_eq_emod_of_nonneg i (Int.le_of_lt h)]
  exact ⟨Int.emod_nonneg _ (by omega), Int.emod_lt_of_pos _ h⟩
theorem ok_source {f : Addr} {fd : FuncData} (F : Fun K "_law_source" "_law_source" sSource f fd) (T : TxB mg) : FnOk P w K mg base CX0 1 f fd ["script", "start"] (spSource K) := by
  refine F.ok scSource (fun vs H Q E h => ?_) (fun cdv A outer s H vs Q E hr h => ?_)
  · obtain ⟨a, ns, st, rfl, _⟩ := h
    rfl
  · obtain ⟨a, ns, st, rfl, hS, hlen, hbits, h0, h63, k⟩ := h
    refine ⟨_, pss_cons (ps_set (i := 2) scSource.nd rfl (Or.inl rfl) (pe_op op_add pe_int (pv 1)))
      (pss_cons (ps_for PassesOwn.never rfl (pi_list (pv 0)) (pg_name (i := 3) scSource.nd rfl (Or.inl rfl))
        (pss_one (ps_set (i := 2) scSource.nd rfl (Or.inl rfl) (pe_op op_add (pe_op op_modN (pe_callTy call_int1 (by rfl) T.int (by decide +kernel) (pa_cons (pe_op op_powW (pe_callTy call_int1 (by rfl) T.int (by decide +kernel) (pa_cons (pe_op op_add (pe_op op_mulW (pv 2) pe_int) (pe_callTy call_int1 (by rfl) T.int (by decide +kernel) (pa_cons (pv 3) pa_nil))) pa_nil)) pe_int) pa_nil)) pe_int) pe_int))))
      (pss_cons (ps_set (i := 4) scSource.nd rfl (Or.inl rfl) pe_int)
      (pss_cons (ps_if (PW.pt (pw_and (pt_cmpR op_lt (pv 1) (pe_callB call_len_seq (by rfl) T.len PySem.boot_len (pa_cons (pv 0) pa_nil)) (nomark _)) (pw_and1 (pt_cmpR op_ge (pe_ix ix_list (pv 0) (pv 1) (fun _ _ => rfl)) (pe_op op_pow pe_int pe_int) (nomark _)))))
        (pss_one (ps_set (i := 4) scSource.nd rfl (Or.inl rfl) (pe_op op_sub (pe_ix ix_list (pv 0) (pv 1) (fun _ _ => rfl)) (pe_op op_pow pe_int pe_int)))) pss_nil)
      (pss_one (ps_ret (pe_lst (pa_cons (pv 4) (pa_cons (pv 2) pa_nil)))))))), ?_⟩
    refine ⟨_, rfl, _, _, rfl, rfl, ?_⟩
    refine ⟨_, rfl, a, rfl, ⟨_, hS⟩, for_list (K := K) (a := a) (xs := ns.map V.int) (fun i σ H2 => ∃ (m : Int) (v : Option V), σ = [some (.ref a), some (.int st), some (.int m), v, none] ∧ H2 = H ∧ 0 ≤ m ∧ m ≤ 2147483563)
      ⟨_, none, rfl, rfl, by omega, by omega⟩ (fun i σ H2 _ ⟨_, _, _, e, _⟩ => by rw [e]; exact hS) ?_ ?_⟩
    · rintro i y σ H2 hi ⟨m, v, rfl, rfl, m0, m1⟩
      obtain ⟨z, hz, rfl⟩ : ∃ z, ns[i]? = some z ∧ V.int z = y := by
        rw [List.getElem?_map] at hi
        exact Option.map_eq_some_iff.mp hi
      have hb := hbits z (List.mem_of_getElem? hz)
      refine ⟨_, rfl, _, _, rfl, rfl, ?mul, _, rfl, .inl ⟨_, rfl, _, _, rfl, rfl, .inl ⟨_, rfl, _, _, rfl, rfl, ?pow, .inl ⟨_, rfl, _, _, rfl, rfl, ?md, _, _, rfl, rfl, ?_⟩⟩⟩⟩
      case mul =>
        show CMulW m 60013
        exact wide_mul (a := 32) (b := 16) (by omega) (by decide) (by decide) (by decide) (by decide)
      case pow =>
        show CPowW _ 3
        have q := bits_mix (m := m) (c := 60013) (z := z) (b := 1048576) (by omega) (by decide) hb
        exact ⟨by decide, by omega⟩
      case md => exact (by decide : (2147483563 : Int) ≠ 0)
      have q := mod_le (i := (m * 60013 + z) ^ (3 : Int).toNat) (j := 2147483563) (by decide)
      exact ⟨_, _, rfl, rfl, by omega, by omega⟩
    · rintro σ H2 ⟨m, v, rfl, rfl, m0, m1⟩
      -- own = 0; the test's first half
      have kk : ∀ (o : Int) (p : Addr), 0 ≤ o → H2 p = none → Q (.ref p) (upd H2 p (.lst [.int o, .int m])) := fun o p ho hp => k p _ hp ⟨o, m, upd_same, ho, m0, by omega⟩ (Evl.Ex.new hp)
      refine ⟨_, rfl, _, rfl, a, _, rfl, .inl hS, _, _, rfl, rfl, _, rfl, ?_⟩
      refine ite2 (fun c => ?_) (fun c => ?_)
      · have c' : st < (ns.map V.int).length := of_decide_eq_true c
        have hst : st = ((st.toNat : Nat) : Int) := by omega
        have hl : st.toNat < ns.length := by rw [List.length_map] at c'; omega
        obtain ⟨z, hz⟩ : ∃ z, ns[st.toNat]? = some z := ⟨_, List.getElem?_eq_getElem hl⟩
        have at' : atI (ns.map V.int) st = some (V.int z) := by
          rw [hst]
          exact atI_nat (by rw [List.getElem?_map, hz]; rfl)
        refine ⟨_, rfl, _, rfl, a, _, st, _, rfl, rfl, hS, at', _, _, rfl, rfl, ⟨by decide, by decide, by decide⟩, _, _, rfl, rfl, _, rfl, ?_⟩
        refine ite2 (fun g => ?_) (fun g => ?_)
        · refine ⟨_, rfl, _, rfl, a, _, st, _, rfl, rfl, hS, at', _, _, rfl, rfl, ⟨by decide, by decide, by decide⟩, _, _, rfl, rfl, ?_⟩
          have g' := of_decide_eq_true g
          exact ⟨_, rfl, _, rfl, (by show 2 ≤ sizeLine; decide), fun p hp => kk _ p (by omega) hp⟩
        · exact ⟨_, rfl, _, rfl, (by show 2 ≤ sizeLine; decide), fun p hp => kk 0 p (by decide) hp⟩
      · exact ⟨_, rfl, _, rfl, (by show 2 ≤ sizeLine; decide), fun p hp => kk 0 p (by decide) hp⟩
theorem scDraw : FnScope ["source", "span", "found"] ["source", "span"] (defScope sDraw) := ⟨rfl, rfl, rfl, by decide +kernel, rfl, by decide +kernel, by decide +kernel⟩
theorem ok_draw {f : Addr} {fd : FuncData} (F : Fun K "_law_draw" "_law_draw" sDraw f fd) (T : TxB mg) : FnOk P w K mg base CX0 1 f fd ["source", "span"] spDraw := by
  refine F.ok scDraw (fun vs H Q E h => ?_) (fun cdv A outer s H vs Q E hr h => ?_)
  · obtain ⟨p, n, rfl, _⟩ := h
    rfl
  · obtain ⟨p, n, rfl, ⟨o, m, hp, o0, m0, m1⟩, n0, n1, k⟩ := h
    refine ⟨_, pss_cons (ps_if (pt_cmpR op_ge (pe_ix ix_list (pv 0) pe_int (fun _ _ => rfl)) (pv 1) (nomark _))
        (pss_cons (ps_set (i := 2) scDraw.nd rfl (Or.inl rfl) (pe_op op_modN (pe_callTy call_int1 (by rfl) T.int (by decide +kernel) (pa_cons (pe_ix ix_list (pv 0) pe_int (fun _ _ => rfl)) pa_nil)) (pv 1)))
        (pss_cons (ps_asg (pe_op op_fdivN (pe_ix ix_list (pv 0) pe_int (fun _ _ => rfl)) (pv 1)) (pg_sub (pv 0) pe_int set_list))
        (pss_one (ps_ret (pv 2))))) pss_nil)
      (pss_cons (ps_asg (pe_op op_modN (pe_callTy call_int1 (by rfl) T.int (by decide +kernel) (pa_cons (pe_op op_add (pe_op op_mul (pe_ix ix_list (pv 0) pe_int (fun _ _ => rfl)) pe_int) pe_int) pa_nil)) pe_int) (pg_sub (pv 0) pe_int set_list))
      (pss_one (ps_ret (pe_op op_modN (pe_callTy call_int1 (by rfl) T.int (by decide +kernel) (pa_cons (pe_op op_fdivN (pe_op op_modN (pe_callTy call_int1 (by rfl) T.int (by decide +kernel) (pa_cons (pe_op op_pow (pe_callTy call_int1 (by rfl) T.int (by decide +kernel) (pa_cons (pe_ix ix_list (pv 0) pe_int (fun _ _ => rfl)) pa_nil)) pe_int) pa_nil)) pe_int) pe_int) pa_nil)) (pv 1))))), ?_⟩
    refine ⟨_, rfl, p, _, 0, _, rfl, rfl, SqL.of hp, rfl, _, rfl, _, _, rfl, rfl, _, rfl, ?_⟩
    refine ite2 (fun c => ?_) (fun c => ?_)
    · have q := mod_le (i := o) n0
      refine ⟨_, rfl, p, _, 0, _, rfl, rfl, SqL.of hp, rfl, .inl ⟨_, rfl, _, rfl, _, _, rfl, rfl, (by show n ≠ 0; omega), ?_⟩⟩
      refine ⟨_, rfl, p, _, 0, _, rfl, rfl, SqL.of hp, rfl, _, rfl, _, _, rfl, rfl, ⟨by omega, by omega⟩, ?_⟩
      refine ⟨_, rfl, p, _, 0, 0, rfl, rfl, hp, rfl, ?_⟩
      refine ⟨_, rfl, k _ _ q.1 q.2 ⟨_, m, upd_same, ?_, m0, m1⟩ But.upd⟩
      rw [Int.fdiv_eq_ediv_of_nonneg o (by omega)]
      exact Int.ediv_nonneg o0 (by omega)
    · have q := mod_le (i := m * 48271 + 5087) (j := 2147483647) (by decide)
      have hp2 : ∀ x : Int, upd H p (.lst [.int o, .int x]) p = some (.lst [.int o, .int x]) := fun _ => upd_same
      refine ⟨_, rfl, p, _, 1, _, rfl, rfl, SqL.of hp, rfl, _, _, rfl, rfl, .inl ⟨by omega, by omega⟩, _, _, rfl, rfl, .inl ⟨_, rfl, _, _, rfl, rfl, (by show (2147483647 : Int) ≠ 0; decide), ?_⟩⟩
      refine ⟨_, rfl, p, _, 1, 1, rfl, rfl, hp, rfl, ?_⟩
      refine ⟨_, rfl, p, _, 1, _, rfl, rfl, SqL.of (hp2 _), rfl, .inl ⟨_, rfl, _, _, rfl, rfl, ⟨by decide, by decide, by omega⟩, .inl ⟨_, rfl, _, _, rfl, rfl, (by show (1000000007 : Int) ≠ 0; decide), _, _, rfl, rfl, ⟨by decide, by decide⟩, .inl ⟨_, rfl, _, rfl, _, _, rfl, rfl, (by show n ≠ 0; omega), ?_⟩⟩⟩⟩
      have q2 := mod_le (i := ((((m * 48271 + 5087).fmod 2147483647) ^ (5 : Int).toNat).fmod 1000000007).fdiv 23) n0
      exact k _ _ q2.1 q2.2 ⟨o, _, hp2 _, o0, q.1, by omega⟩ But.upd
theorem scPick : FnScope ["source", "things"] ["source", "things"] (defScope sPick) := ⟨rfl, rfl, rfl, by decide +kernel, rfl, by decide +kernel, by decide +kernel⟩
theorem ok_pick {f fD : Addr} {fd fdD : FuncData} (F : Fun K "_law_pick" "_law_pick" sPick f fd) (T : TxB mg) (FD : Fun K "_law_draw" "_law_draw" sDraw fD fdD) (bD : Binds K fdD ["source", "span"] []) (gD : mg "_law_draw" = some (.ref fD)) : FnOk P w K mg base CX0 2 f fd ["source", "things"] spPick := by
  have GD : FnOk P w K mg base CX0 1 fD fdD ["source", "span"] spDraw := ok_draw FD T
  refine F.ok scPick (fun vs H Q E h => ?_) (fun cdv A outer s H vs Q E hr h => ?_)
  · obtain ⟨p, t, xs, rfl, _⟩ := h
    rfl
  · obtain ⟨p, t, xs, rfl, S, ht, ne, nn, hl, k⟩ := h
    have hr1 : Room 1 _ := hr.mono (by decide)
    refine ⟨_, pss_one (ps_ret (pe_ix ix_list (pv 1) (pe_call GD hr1 (by rfl) gD FD.kp bD .nil pass0 (pa_cons (pv 0) (pa_cons (pe_callB call_len_seq (by rfl) T.len PySem.boot_len (pa_cons (pv 1) pa_nil)) pa_nil))) (fun _ _ => rfl))), ?_⟩
    have hpos : 0 < xs.length := List.length_pos_iff.mpr nn
    refine ⟨_, rfl, _, rfl, _, rfl, t, xs, rfl, .inl (SqL.of ht), p, _, rfl, S, by omega, by omega, fun r H' r0 r1 S' B => ?_⟩
    have hrl : r.toNat < xs.length := by omega
    obtain ⟨v, hv⟩ : ∃ v, xs[r.toNat]? = some v := ⟨_, List.getElem?_eq_getElem hrl⟩
    have at' : atI xs r = some v := by
      rw [show r = ((r.toNat : Nat) : Int) by omega]
      exact atI_nat hv
    exact ⟨t, xs, r, v, rfl, rfl, SqL.of (B t _ ht ne), at', k _ v H' hv S' B⟩
end
end K61
namespace K61
open PySem PySem.Spec PyProof.Rows L2 Evl
/-! ### errors that are made -/
/-- at a: an error of the class at C whose field fld holds v -/
def ErrAt (H : Hp) (a C : Addr) (fld : Str) (v : V) : Prop := ∃ d, H a = some (exo a C (some d)) ∧ H d = some (exd d [(fld, v)])
theorem ErrAt.mono {H H' : Hp} {a C : Addr} {fld : Str} {v : V} (e : Ex H H') (h : ErrAt H a C fld v) : ErrAt H' a C fld v := by
  obtain ⟨d, h1, h2⟩ := h
  exact ⟨d, e _ _ h1, e _ _ h2⟩
/-- what is known of an error's class -/
structure ErrC (K : PySem.W.Frag) (mg : Str → Option Value) (fe : Addr) (nm fld : Str) (C : Addr) : Prop where
  gC : mg nm = some (.ref C)
  ox : OexC K C
  no : PySem.W.findIn K (.ref C) fld = some none
  xf : XfC K C
  ei : ExcI K C
  cd : ∃ cd, PySem.W.clsIn K C = some cd ∧ cd.mro = [.ref C, .ref fe, .type "ValueError", .type "Exception", .type "BaseException", .type "object"]
/-- .. and how it is made -/
structure ErrM (P : Program) (w : World) (K : PySem.W.Frag) (mg : Str → Option Value) (base : Heap) (fe : Addr) (nm fld : Str) (C : Addr) : Prop extends ErrC K mg fe nm fld C where
  mkI : ∃ (fI : Addr) (fd : FuncData), PySem.W.findIn K (.ref C) "__init__" = some (some (.ref fI)) ∧ PySem.W.typeIn K (.ref fI) = some (.type "function") ∧ FnOk P w K mg base CX0 1 fI fd ["self", fld] (spInit K fld) ∧ Binds K fd ["self", fld] [] ∧
    ∀ (s : Shared) (u v : Value), BindsTo s fd ⟨[u], [(fld, v)]⟩ ((["self", fld] : List Str).zip [u, v])
theorem mkV_go {K : PySem.W.Frag} {C : Addr} {fld : Str} {σ : L2.St} {H : Hp} {Q : VK} {i : Nat} {v : V} (ox : OexC K C) (no : PySem.W.findIn K (.ref C) fld = some none) (hv : σ[i]? = some (some v))
    (q : ∀ a H', H a = none → Ex H H' → ErrAt H' a C fld v → Q (.ref a) H') : tMkV C (spInit K fld) (tCons (tVar i) tNil) σ H Q := by
  refine ⟨v, hv, (by show 1 ≤ 1000; decide), fun a ha => ⟨a, C, v, rfl, ox, no, upd_same, fun d hd ne => ⟨rfl, ?_⟩⟩⟩
  have hd' : H d = none := by
    rw [upd_ne ne] at hd
    exact hd
  refine q a _ ha (fun b o e => ?_) ⟨d, upd_same, ?_⟩
  · have n1 := ne_of_none e ha
    rw [upd_ne n1, upd_ne (ne_of_none e hd'), upd_ne n1]
    exact e
  · rw [upd_ne ne]
    exact upd_same
theorem mkVK_go {K : PySem.W.Frag} {C : Addr} {fld : Str} {σ : L2.St} {H : Hp} {Q : VK} {i : Nat} {v : V} (ox : OexC K C) (no : PySem.W.findIn K (.ref C) fld = some none) (hv : σ[i]? = some (some v))
    (q : ∀ a H', H a = none → Ex H H' → ErrAt H' a C fld v → Q (.ref a) H') : tMkVK C (spInit K fld) (tCons (tVar i) tNil) σ H Q := by
  refine ⟨v, hv, v, rfl, fun a ha => ⟨a, C, v, rfl, ox, no, upd_same, fun d hd ne => ⟨rfl, ?_⟩⟩⟩
  have hd' : H d = none := by
    rw [upd_ne ne] at hd
    exact hd
  refine q a _ ha (fun b o e => ?_) ⟨d, upd_same, ?_⟩
  · have n1 := ne_of_none e ha
    rw [upd_ne n1, upd_ne (ne_of_none e hd'), upd_ne n1]
    exact e
  · rw [upd_ne ne]
    exact upd_same
theorem seq_go {t u : TS} {D : Ends} {σ : L2.St} {H : Hp} (h : t { D with nx := u D } σ H) : tSeq t u D σ H := h
theorem asg_go {te : TE} {i : Nat} {D : Ends} {σ : L2.St} {H : Hp} (h : te σ H fun x H1 => D.nx (σ.set i (some x)) H1) : tAsg te (gName i) D σ H := h
theorem ret_go {te : TE} {D : Ends} {σ : L2.St} {H : Hp} (h : te σ H D.rt) : tRet te D σ H := h
theorem lst_go {t : TA} {σ : L2.St} {H : Hp} {Q : VK} (h : t σ H fun xs H1 => xs.length ≤ sizeLine ∧ ∀ p, H1 p = none → Q (.ref p) (upd H1 p (.lst xs))) : tLst t σ H Q := h
theorem op_go {r : R2} {ta tb : TE} {σ : L2.St} {H : Hp} {Q : VK} (h : ta σ H fun x H1 => tb σ H1 fun y H2 => r x y H2 Q) : tOp r ta tb σ H Q := h
theorem var_go {i : Nat} {v : V} {σ : L2.St} {H : Hp} {Q : VK} (e : σ[i]? = some (some v)) (h : Q v H) : tVar i σ H Q := ⟨v, e, h⟩
theorem nil_go {σ : L2.St} {H : Hp} {Q : List V → Hp → Prop} (h : Q [] H) : tNil σ H Q := h
theorem mkV_cons {K : PySem.W.Frag} {C : Addr} {fld : Str} {σ : L2.St} {H : Hp} {tr : TA} {Q : List V → Hp → Prop} {i : Nat} {v : V} (ox : OexC K C) (no : PySem.W.findIn K (.ref C) fld = some none) (hv : σ[i]? = some (some v))
    (q : ∀ a H', H a = none → Ex H H' → ErrAt H' a C fld v → tr σ H' fun xs H2 => Q (.ref a :: xs) H2) : tCons (tMkV C (spInit K fld) (tCons (tVar i) tNil)) tr σ H Q := mkV_go ox no hv q
theorem mkVK_cons {K : PySem.W.Frag} {C : Addr} {fld : Str} {σ : L2.St} {H : Hp} {tr : TA} {Q : List V → Hp → Prop} {i : Nat} {v : V} (ox : OexC K C) (no : PySem.W.findIn K (.ref C) fld = some none) (hv : σ[i]? = some (some v))
    (q : ∀ a H', H a = none → Ex H H' → ErrAt H' a C fld v → tr σ H' fun xs H2 => Q (.ref a :: xs) H2) : tCons (tMkVK C (spInit K fld) (tCons (tVar i) tNil)) tr σ H Q := mkVK_go ox no hv q
theorem is_go {K : PySem.W.Frag} {σ : L2.St} {H : Hp} {Q : VK} {i : Nat} {a C Cj : Addr} {fld : Str} {v : V} {b : Bool} (hv : σ[i]? = some (some (.ref a))) (e : ErrAt H a C fld v) (ei : ExcI K C) (k : PySem.W.kitOne K (.ref C) (.ref Cj) = some b) (q : Q (.bl b) H) :
    tCB (rIsO K) (tCons (tVar i) (tCons (tC (.ref Cj)) tNil)) σ H Q := by
  obtain ⟨d, e1, e2⟩ := e
  exact ⟨_, hv, a, C, d, _, .ref Cj, .ref Cj, b, rfl, e1, e2, ei, fun _ r => r, k, q⟩
theorem is_goT {K : PySem.W.Frag} {σ : L2.St} {H : Hp} {Q : VK} {i : Nat} {a C : Addr} {T : String} {fld : Str} {v : V} {b : Bool} (hv : σ[i]? = some (some (.ref a))) (e : ErrAt H a C fld v) (ei : ExcI K C) (k : PySem.W.kitOne K (.ref C) (.type T) = some b) (q : Q (.bl b) H) :
    tCB (rIsO K) (tCons (tVar i) (tCons (tC (.ty T)) tNil)) σ H Q := by
  obtain ⟨d, e1, e2⟩ := e
  exact ⟨_, hv, a, C, d, _, .ty T, .type T, b, rfl, e1, e2, ei, fun _ r => r, k, q⟩
/-- two error classes -/
theorem kit_two {K : PySem.W.Frag} {mg : Str → Option Value} {fe C D : Addr} {n1 n2 f1 f2 : Str} (h1 : ErrC K mg fe n1 f1 C) (h2 : ErrC K mg fe n2 f2 D) (hD : D ≠ fe) : PySem.W.kitOne K (.ref C) (.ref D) = some (decide (C = D)) := by
  by_cases e : C = D
  · subst e
    unfold PySem.W.kitOne
    rw [if_pos (by simp), decide_eq_true rfl]
  · obtain ⟨cd, c1, c2⟩ := h1.cd
    obtain ⟨cd2, d1, _⟩ := h2.cd
    have hne : ¬ ((Value.ref C == Value.ref D) = true) := fun z => e (Value.ref.inj (beq_iff_eq.mp z))
    unfold PySem.W.kitOne PySem.W.kitCls
    rw [if_neg hne, decide_eq_false e]
    dsimp only
    rw [d1, h2.ox.tyC]
    rw [if_pos (by rfl)]
    show PySem.W.mroIn K C (.ref D) = _
    unfold PySem.W.mroIn
    rw [c1, Option.bind_some, c2]
    have q : ([Value.ref C, .ref fe, .type "ValueError", .type "Exception", .type "BaseException", .type "object"] : List Value).contains (.ref D) = false := by
      rw [Bool.eq_false_iff]
      intro z
      rw [List.contains_iff_mem] at z
      simp only [List.mem_cons, List.not_mem_nil, or_false] at z
      rcases z with z | z | z | z | z | z <;> first | (cases z; done) | (exact e (Value.ref.inj z).symm) | (exact hD (Value.ref.inj z))
    rw [q]
    rfl
theorem kit_fe {K : PySem.W.Frag} {mg : Str → Option Value} {fe C : Addr} {n1 f1 : Str} (h1 : ErrC K mg fe n1 f1 C) (hf : (PySem.W.clsIn K fe).isSome = true) (tf : PySem.W.typeIn K (.ref fe) = some (.type "type")) : PySem.W.kitOne K (.ref C) (.ref fe) = some true := by
  obtain ⟨cd, c1, c2⟩ := h1.cd
  unfold PySem.W.kitOne PySem.W.kitCls
  by_cases hne : (Value.ref C == Value.ref fe) = true
  · rw [if_pos hne]
  · rw [if_neg hne]
    dsimp only
    rw [hf, tf, if_pos (by rfl)]
    show PySem.W.mroIn K C (.ref fe) = _
    unfold PySem.W.mroIn
    rw [c1, Option.bind_some, c2]
    simp
theorem kit_ve {K : PySem.W.Frag} {mg : Str → Option Value} {fe C : Addr} {n1 f1 : Str} (h1 : ErrC K mg fe n1 f1 C) : PySem.W.kitOne K (.ref C) (.type "ValueError") = some true := by
  obtain ⟨cd, c1, c2⟩ := h1.cd
  unfold PySem.W.kitOne PySem.W.kitCls
  have hne : ¬ ((Value.ref C == Value.type "ValueError") = true) := fun z => by
    have z' := beq_iff_eq.mp z
    cases z'
  rw [if_neg hne]
  dsimp only
  rw [if_pos (by decide +kernel)]
  show PySem.W.mroIn K C (.type "ValueError") = _
  unfold PySem.W.mroIn
  rw [c1, Option.bind_some, c2]
  simp

/-- the classes and fields, in the law's sequence -/
abbrev dsc (C0 C1 C2 C3 C4 C5 C6 C7 C8 C9 C10 : Addr) : List (Addr × Str) := [(C0, "value"), (C1, "value"), (C2, "value"), (C3, "value"), (C4, "value"), (C5, "value"), (C6, "value"), (C7, "position"), (C8, "position"), (C9, "position"), (C10, "count")]
/-- the errors at as are of these classes, with v in the fields -/
def Made (H : Hp) (as : List Addr) (ds : List (Addr × Str)) (v : V) : Prop := Paired (fun a d => ErrAt H a d.1 d.2 v) as ds
theorem Made.mono {H H' : Hp} {as : List Addr} {ds : List (Addr × Str)} {v : V} (e : Ex H H') (h : Made H as ds v) : Made H' as ds v := Paired.mapP h fun _ _ q => q.mono e
def spMade (ds : List (Addr × Str)) : Sp := fun vs H Q _ => ∃ v, vs = [v] ∧ ∀ (l : Addr) (as : List Addr) (H' : Hp), H l = none → Ex H H' → H' l = some (.lst (as.map V.ref)) → Made H' as ds v → Q (.ref l) H'
def spKinds (ds : List (Addr × Str)) : Sp := fun vs H Q _ => ∃ (a C : Addr) (fld : Str) (v : V), vs = [.ref a] ∧ (C, fld) ∈ ds ∧ ErrAt H a C fld v ∧ ∀ (p : Addr) (H' : Hp), Ex H H' → H' p = some (.lst (ds.map fun d => V.bl (decide (C = d.1)))) → Q (.ref p) H'
def spStored (ds : List (Addr × Str)) : Sp := fun vs H Q _ => ∃ (l : Addr) (as : List Addr) (v : V), vs = [.ref l] ∧ H l = some (.lst (as.map V.ref)) ∧ Made H as ds v ∧ ∀ (p : Addr) (H' : Hp), Ex H H' → H' p = some (.lst (List.replicate 11 v)) → Q (.ref p) H'
/-- all eleven -/
structure ErrS (P : Program) (w : World) (K : PySem.W.Frag) (mg : Str → Option Value) (base : Heap) (fe C0 C1 C2 C3 C4 C5 C6 C7 C8 C9 C10 : Addr) : Prop where
  e0 : ErrM P w K mg base fe "BadSigns" "value" C0
  e1 : ErrM P w K mg base fe "BadTree" "value" C1
  e2 : ErrM P w K mg base fe "BadForm" "value" C2
  e3 : ErrM P w K mg base fe "BadValues" "value" C3
  e4 : ErrM P w K mg base fe "HasMore" "value" C4
  e5 : ErrM P w K mg base fe "NotThere" "value" C5
  e6 : ErrM P w K mg base fe "BadText" "value" C6
  e7 : ErrM P w K mg base fe "BadForms" "position" C7
  e8 : ErrM P w K mg base fe "NotPlain" "position" C8
  e9 : ErrM P w K mg base fe "BadCondition" "position" C9
  e10 : ErrM P w K mg base fe "TooFar" "count" C10
  n0 : C0 ≠ fe
  n1 : C1 ≠ fe
  n2 : C2 ≠ fe
  n3 : C3 ≠ fe
  n4 : C4 ≠ fe
  n5 : C5 ≠ fe
  n6 : C6 ≠ fe
  n7 : C7 ≠ fe
  n8 : C8 ≠ fe
  n9 : C9 ≠ fe
  n10 : C10 ≠ fe
  nd : ([C0, C1, C2, C3, C4, C5, C6, C7, C8, C9, C10] : List Addr).Nodup
  fc : (PySem.W.clsIn K fe).isSome = true
  ft : PySem.W.typeIn K (.ref fe) = some (.type "type")
  gF : mg "FormError" = some (.ref fe)
  iB : mg "isinstance" = none
abbrev sKinds : Stmt := top 17
abbrev sPlace : Stmt := top 18
abbrev sName : Stmt := top 19
abbrev sStored : Stmt := top 20
section
variable {P : Program} {w : World} {K : PySem.W.Frag} {mg : Str → Option Value} {base : Heap} {fe C0 C1 C2 C3 C4 C5 C6 C7 C8 C9 C10 : Addr}
abbrev DS (C0 C1 C2 C3 C4 C5 C6 C7 C8 C9 C10 : Addr) := dsc C0 C1 C2 C3 C4 C5 C6 C7 C8 C9 C10
theorem scPlace : FnScope ["thing", "found"] ["thing"] (defScope sPlace) := ⟨rfl, rfl, rfl, by decide +kernel, rfl, by decide +kernel, by decide +kernel⟩
theorem ok_place {f : Addr} {fd : FuncData} (F : Fun K "_law_by_place" "_law_by_place" sPlace f fd) (S : ErrS P w K mg base fe C0 C1 C2 C3 C4 C5 C6 C7 C8 C9 C10) : FnOk P w K mg base CX0 4 f fd ["thing"] (spMade (dsc C0 C1 C2 C3 C4 C5 C6 C7 C8 C9 C10)) := by
  obtain ⟨f0, d0, i0, t0, g0, b0, k0⟩ := S.e0.mkI
  obtain ⟨f1, d1, i1, t1, g1, b1, k1⟩ := S.e1.mkI
  obtain ⟨f2, d2, i2, t2, g2, b2, k2⟩ := S.e2.mkI
  obtain ⟨f3, d3, i3, t3, g3, b3, k3⟩ := S.e3.mkI
  obtain ⟨f4, d4, i4, t4, g4, b4, k4⟩ := S.e4.mkI
  obtain ⟨f5, d5, i5, t5, g5, b5, k5⟩ := S.e5.mkI
  obtain ⟨f6, d6, i6, t6, g6, b6, k6⟩ := S.e6.mkI
  obtain ⟨f7, d7, i7, t7, g7, b7, k7⟩ := S.e7.mkI
  obtain ⟨f8, d8, i8, t8, g8, b8, k8⟩ := S.e8.mkI
  obtain ⟨f9, d9, i9, t9, g9, b9, k9⟩ := S.e9.mkI
  obtain ⟨f10, d10, i10, t10, g10, b10, k10⟩ := S.e10.mkI
  refine F.ok scPlace (fun vs H Q E h => ?_) (fun cdv A outer s H vs Q E hr h => ?_)
  · obtain ⟨v, rfl, _⟩ := h
    rfl
  · obtain ⟨v, rfl, k⟩ := h
    have hr2 : Room 2 _ := hr.mono (by decide)
    refine ⟨_, pss_cons (ps_set (i := 1) scPlace.nd rfl (Or.inl rfl) (pe_lst (pa_cons (pe_mkV S.e0.ox i0 t0 g0 hr2 b0 pass0 (by rfl) S.e0.gC (pa_cons (pv 0) pa_nil)) (pa_cons (pe_mkV S.e1.ox i1 t1 g1 hr2 b1 pass0 (by rfl) S.e1.gC (pa_cons (pv 0) pa_nil)) (pa_cons (pe_mkV S.e2.ox i2 t2 g2 hr2 b2 pass0 (by rfl) S.e2.gC (pa_cons (pv 0) pa_nil)) (pa_cons (pe_mkV S.e3.ox i3 t3 g3 hr2 b3 pass0 (by rfl) S.e3.gC (pa_cons (pv 0) pa_nil)) (pa_cons (pe_mkV S.e4.ox i4 t4 g4 hr2 b4 pass0 (by rfl) S.e4.gC (pa_cons (pv 0) pa_nil)) (pa_cons (pe_mkV S.e5.ox i5 t5 g5 hr2 b5 pass0 (by rfl) S.e5.gC (pa_cons (pv 0) pa_nil)) pa_nil))))))))
      (pss_one (ps_ret (pe_op op_cat (pv 1) (pe_lst (pa_cons (pe_mkV S.e6.ox i6 t6 g6 hr2 b6 pass0 (by rfl) S.e6.gC (pa_cons (pv 0) pa_nil)) (pa_cons (pe_mkV S.e7.ox i7 t7 g7 hr2 b7 pass0 (by rfl) S.e7.gC (pa_cons (pv 0) pa_nil)) (pa_cons (pe_mkV S.e8.ox i8 t8 g8 hr2 b8 pass0 (by rfl) S.e8.gC (pa_cons (pv 0) pa_nil)) (pa_cons (pe_mkV S.e9.ox i9 t9 g9 hr2 b9 pass0 (by rfl) S.e9.gC (pa_cons (pv 0) pa_nil)) (pa_cons (pe_mkV S.e10.ox i10 t10 g10 hr2 b10 pass0 (by rfl) S.e10.gC (pa_cons (pv 0) pa_nil)) pa_nil))))))))), ?_⟩
    refine seq_go (asg_go (lst_go ?_))
    refine mkV_cons S.e0.ox S.e0.no (by rfl) fun a0 H0 n0 x0 r0 => ?_
    refine mkV_cons S.e1.ox S.e1.no (by rfl) fun a1 H1 n1 x1 r1 => ?_
    refine mkV_cons S.e2.ox S.e2.no (by rfl) fun a2 H2 n2 x2 r2 => ?_
    refine mkV_cons S.e3.ox S.e3.no (by rfl) fun a3 H3 n3 x3 r3 => ?_
    refine mkV_cons S.e4.ox S.e4.no (by rfl) fun a4 H4 n4 x4 r4 => ?_
    refine mkV_cons S.e5.ox S.e5.no (by rfl) fun a5 H5 n5 x5 r5 => ?_
    refine nil_go ⟨by show 6 ≤ sizeLine; decide, fun p hp => ?_⟩
    refine ret_go (op_go (var_go (by rfl) (lst_go ?_)))
    refine mkV_cons S.e6.ox S.e6.no (by rfl) fun a6 H6 n6 x6 r6 => ?_
    refine mkV_cons S.e7.ox S.e7.no (by rfl) fun a7 H7 n7 x7 r7 => ?_
    refine mkV_cons S.e8.ox S.e8.no (by rfl) fun a8 H8 n8 x8 r8 => ?_
    refine mkV_cons S.e9.ox S.e9.no (by rfl) fun a9 H9 n9 x9 r9 => ?_
    refine mkV_cons S.e10.ox S.e10.no (by rfl) fun a10 H10 n10 x10 r10 => ?_
    refine nil_go ⟨by show 5 ≤ sizeLine; decide, fun q hq => ?_⟩
    have y1 : Ex (upd H5 p (.lst [.ref a0, .ref a1, .ref a2, .ref a3, .ref a4, .ref a5])) H10 := x6.trans (x7.trans (x8.trans (x9.trans x10)))
    refine ⟨p, q, _, _, rfl, rfl, Ex.new hq _ _ (y1 _ _ upd_same), upd_same, (by show 11 ≤ sizeLine; decide), fun l hl => ?_⟩
    have y0 : Ex H H5 := x0.trans (x1.trans (x2.trans (x3.trans (x4.trans x5))))
    have y2 := (Ex.new (o := .lst [.ref a6, .ref a7, .ref a8, .ref a9, .ref a10]) hq).trans (Ex.new (o := .lst [.ref a0, .ref a1, .ref a2, .ref a3, .ref a4, .ref a5, .ref a6, .ref a7, .ref a8, .ref a9, .ref a10]) hl)
    have y3 := (Ex.new (o := .lst [.ref a0, .ref a1, .ref a2, .ref a3, .ref a4, .ref a5]) hp).trans (y1.trans y2)
    refine k l [a0, a1, a2, a3, a4, a5, a6, a7, a8, a9, a10] _ (fresh_back (y0.trans ((Ex.new hp).trans (y1.trans (Ex.new hq)))) hl) (y0.trans y3) upd_same ?_
    have z5 := x5.trans y3; have z4 := x4.trans z5; have z3 := x3.trans z4; have z2 := x2.trans z3; have z1 := x1.trans z2
    have z9 := x10.trans y2; have z8 := x9.trans z9; have z7 := x8.trans z8; have z6 := x7.trans z7
    exact .cons (r0.mono z1) (.cons (r1.mono z2) (.cons (r2.mono z3) (.cons (r3.mono z4) (.cons (r4.mono z5) (.cons (r5.mono y3) (.cons (r6.mono z6) (.cons (r7.mono z7) (.cons (r8.mono z8) (.cons (r9.mono z9) (.cons (r10.mono y2) .nil))))))))))
theorem scName : FnScope ["thing", "found"] ["thing"] (defScope sName) := ⟨rfl, rfl, rfl, by decide +kernel, rfl, by decide +kernel, by decide +kernel⟩
theorem ok_name {f : Addr} {fd : FuncData} (F : Fun K "_law_by_name" "_law_by_name" sName f fd) (S : ErrS P w K mg base fe C0 C1 C2 C3 C4 C5 C6 C7 C8 C9 C10) : FnOk P w K mg base CX0 4 f fd ["thing"] (spMade (dsc C0 C1 C2 C3 C4 C5 C6 C7 C8 C9 C10)) := by
  obtain ⟨f0, d0, i0, t0, g0, b0, k0⟩ := S.e0.mkI
  obtain ⟨f1, d1, i1, t1, g1, b1, k1⟩ := S.e1.mkI
  obtain ⟨f2, d2, i2, t2, g2, b2, k2⟩ := S.e2.mkI
  obtain ⟨f3, d3, i3, t3, g3, b3, k3⟩ := S.e3.mkI
  obtain ⟨f4, d4, i4, t4, g4, b4, k4⟩ := S.e4.mkI
  obtain ⟨f5, d5, i5, t5, g5, b5, k5⟩ := S.e5.mkI
  obtain ⟨f6, d6, i6, t6, g6, b6, k6⟩ := S.e6.mkI
  obtain ⟨f7, d7, i7, t7, g7, b7, k7⟩ := S.e7.mkI
  obtain ⟨f8, d8, i8, t8, g8, b8, k8⟩ := S.e8.mkI
  obtain ⟨f9, d9, i9, t9, g9, b9, k9⟩ := S.e9.mkI
  obtain ⟨f10, d10, i10, t10, g10, b10, k10⟩ := S.e10.mkI
  refine F.ok scName (fun vs H Q E h => ?_) (fun cdv A outer s H vs Q E hr h => ?_)
  · obtain ⟨v, rfl, _⟩ := h
    rfl
  · obtain ⟨v, rfl, k⟩ := h
    have hr2 : Room 2 _ := hr.mono (by decide)
    refine ⟨_, pss_cons (ps_set (i := 1) scName.nd rfl (Or.inl rfl) (pe_lst (pa_cons (pe_mkVK S.e0.ox i0 t0 g0 hr2 k0 pass0 (by rfl) S.e0.gC (pk_cons (pv 0) pk_nil)) (pa_cons (pe_mkVK S.e1.ox i1 t1 g1 hr2 k1 pass0 (by rfl) S.e1.gC (pk_cons (pv 0) pk_nil)) (pa_cons (pe_mkVK S.e2.ox i2 t2 g2 hr2 k2 pass0 (by rfl) S.e2.gC (pk_cons (pv 0) pk_nil)) (pa_cons (pe_mkVK S.e3.ox i3 t3 g3 hr2 k3 pass0 (by rfl) S.e3.gC (pk_cons (pv 0) pk_nil)) pa_nil))))))
      (pss_cons (ps_set (i := 1) scName.nd rfl (Or.inl rfl) (pe_op op_cat (pv 1) (pe_lst (pa_cons (pe_mkVK S.e4.ox i4 t4 g4 hr2 k4 pass0 (by rfl) S.e4.gC (pk_cons (pv 0) pk_nil)) (pa_cons (pe_mkVK S.e5.ox i5 t5 g5 hr2 k5 pass0 (by rfl) S.e5.gC (pk_cons (pv 0) pk_nil)) (pa_cons (pe_mkVK S.e6.ox i6 t6 g6 hr2 k6 pass0 (by rfl) S.e6.gC (pk_cons (pv 0) pk_nil)) (pa_cons (pe_mkVK S.e7.ox i7 t7 g7 hr2 k7 pass0 (by rfl) S.e7.gC (pk_cons (pv 0) pk_nil)) pa_nil)))))))
      (pss_one (ps_ret (pe_op op_cat (pv 1) (pe_lst (pa_cons (pe_mkVK S.e8.ox i8 t8 g8 hr2 k8 pass0 (by rfl) S.e8.gC (pk_cons (pv 0) pk_nil)) (pa_cons (pe_mkVK S.e9.ox i9 t9 g9 hr2 k9 pass0 (by rfl) S.e9.gC (pk_cons (pv 0) pk_nil)) (pa_cons (pe_mkVK S.e10.ox i10 t10 g10 hr2 k10 pass0 (by rfl) S.e10.gC (pk_cons (pv 0) pk_nil)) pa_nil)))))))), ?_⟩
    refine seq_go (asg_go (lst_go ?_))
    refine mkVK_cons S.e0.ox S.e0.no (by rfl) fun a0 H0 n0 x0 r0 => ?_
    refine mkVK_cons S.e1.ox S.e1.no (by rfl) fun a1 H1 n1 x1 r1 => ?_
    refine mkVK_cons S.e2.ox S.e2.no (by rfl) fun a2 H2 n2 x2 r2 => ?_
    refine mkVK_cons S.e3.ox S.e3.no (by rfl) fun a3 H3 n3 x3 r3 => ?_
    refine nil_go ⟨by show 4 ≤ sizeLine; decide, fun p hp => ?_⟩
    refine seq_go (asg_go (op_go (var_go (by rfl) (lst_go ?_))))
    refine mkVK_cons S.e4.ox S.e4.no (by rfl) fun a4 H4 n4 x4 r4 => ?_
    refine mkVK_cons S.e5.ox S.e5.no (by rfl) fun a5 H5 n5 x5 r5 => ?_
    refine mkVK_cons S.e6.ox S.e6.no (by rfl) fun a6 H6 n6 x6 r6 => ?_
    refine mkVK_cons S.e7.ox S.e7.no (by rfl) fun a7 H7 n7 x7 r7 => ?_
    refine nil_go ⟨by show 4 ≤ sizeLine; decide, fun q hq => ?_⟩
    have y0 : Ex H H3 := x0.trans (x1.trans (x2.trans x3))
    have y1 : Ex (upd H3 p (.lst [.ref a0, .ref a1, .ref a2, .ref a3])) H7 := x4.trans (x5.trans (x6.trans x7))
    refine ⟨p, q, _, _, rfl, rfl, Ex.new hq _ _ (y1 _ _ upd_same), upd_same, (by show 8 ≤ sizeLine; decide), fun p2 hp2 => ?_⟩
    refine ret_go (op_go (var_go (by rfl) (lst_go ?_)))
    refine mkVK_cons S.e8.ox S.e8.no (by rfl) fun a8 H8 n8 x8 r8 => ?_
    refine mkVK_cons S.e9.ox S.e9.no (by rfl) fun a9 H9 n9 x9 r9 => ?_
    refine mkVK_cons S.e10.ox S.e10.no (by rfl) fun a10 H10 n10 x10 r10 => ?_
    refine nil_go ⟨by show 3 ≤ sizeLine; decide, fun q2 hq2 => ?_⟩
    have w1 : Ex (upd (upd H7 q (.lst [.ref a4, .ref a5, .ref a6, .ref a7])) p2 (.lst [.ref a0, .ref a1, .ref a2, .ref a3, .ref a4, .ref a5, .ref a6, .ref a7])) H10 := x8.trans (x9.trans x10)
    refine ⟨p2, q2, _, _, rfl, rfl, Ex.new hq2 _ _ (w1 _ _ upd_same), upd_same, (by show 11 ≤ sizeLine; decide), fun l hl => ?_⟩
    have y2 := (Ex.new (o := .lst [.ref a8, .ref a9, .ref a10]) hq2).trans (Ex.new (o := .lst [.ref a0, .ref a1, .ref a2, .ref a3, .ref a4, .ref a5, .ref a6, .ref a7, .ref a8, .ref a9, .ref a10]) hl)
    have y3 := ((Ex.new (o := .lst [.ref a4, .ref a5, .ref a6, .ref a7]) hq).trans (Ex.new (o := .lst [.ref a0, .ref a1, .ref a2, .ref a3, .ref a4, .ref a5, .ref a6, .ref a7]) hp2)).trans w1
    have y4 := (Ex.new (o := .lst [.ref a0, .ref a1, .ref a2, .ref a3]) hp).trans y1
    refine k l [a0, a1, a2, a3, a4, a5, a6, a7, a8, a9, a10] _ (fresh_back (y0.trans (y4.trans (y3.trans (Ex.new hq2)))) hl) (y0.trans (y4.trans (y3.trans y2))) upd_same ?_
    have z7 := y3.trans y2; have z6 := x7.trans z7; have z5 := x6.trans z6; have z4 := x5.trans z5; have z3 := y4.trans z7; have z2 := x3.trans z3; have z1 := x2.trans z2; have z0 := x1.trans z1
    have z9 := x10.trans y2; have z8 := x9.trans z9
    exact .cons (r0.mono z0) (.cons (r1.mono z1) (.cons (r2.mono z2) (.cons (r3.mono z3) (.cons (r4.mono z4) (.cons (r5.mono z5) (.cons (r6.mono z6) (.cons (r7.mono z7) (.cons (r8.mono z8) (.cons (r9.mono z9) (.cons (r10.mono y2) .nil))))))))))
theorem scKinds : FnScope ["error", "found"] ["error"] (defScope sKinds) := ⟨rfl, rfl, rfl, by decide +kernel, rfl, by decide +kernel, by decide +kernel⟩
theorem ok_kinds {f : Addr} {fd : FuncData} (F : Fun K "_law_kinds" "_law_kinds" sKinds f fd) (S : ErrS P w K mg base fe C0 C1 C2 C3 C4 C5 C6 C7 C8 C9 C10) : FnOk P w K mg base CX0 1 f fd ["error"] (spKinds (dsc C0 C1 C2 C3 C4 C5 C6 C7 C8 C9 C10)) := by
  refine F.ok scKinds (fun vs H Q E h => ?_) (fun cdv A outer s H vs Q E hr h => ?_)
  · obtain ⟨a, C, fld, v, rfl, _⟩ := h
    rfl
  · obtain ⟨a, C, fld, v, rfl, hm, ea, k⟩ := h
    refine ⟨_, pss_cons (ps_set (i := 1) scKinds.nd rfl (Or.inl rfl) (pe_lst (pa_cons (pe_callB call_isO (by rfl) S.iB (by decide +kernel) (pa_cons (pv 0) (pa_cons (pe_glob (v := .ref C0) rfl S.e0.gC rfl) pa_nil))) (pa_cons (pe_callB call_isO (by rfl) S.iB (by decide +kernel) (pa_cons (pv 0) (pa_cons (pe_glob (v := .ref C1) rfl S.e1.gC rfl) pa_nil))) (pa_cons (pe_callB call_isO (by rfl) S.iB (by decide +kernel) (pa_cons (pv 0) (pa_cons (pe_glob (v := .ref C2) rfl S.e2.gC rfl) pa_nil))) pa_nil)))))
      (pss_cons (ps_set (i := 1) scKinds.nd rfl (Or.inl rfl) (pe_op op_cat (pv 1) (pe_lst (pa_cons (pe_callB call_isO (by rfl) S.iB (by decide +kernel) (pa_cons (pv 0) (pa_cons (pe_glob (v := .ref C3) rfl S.e3.gC rfl) pa_nil))) (pa_cons (pe_callB call_isO (by rfl) S.iB (by decide +kernel) (pa_cons (pv 0) (pa_cons (pe_glob (v := .ref C4) rfl S.e4.gC rfl) pa_nil))) (pa_cons (pe_callB call_isO (by rfl) S.iB (by decide +kernel) (pa_cons (pv 0) (pa_cons (pe_glob (v := .ref C5) rfl S.e5.gC rfl) pa_nil))) pa_nil))))))
      (pss_cons (ps_set (i := 1) scKinds.nd rfl (Or.inl rfl) (pe_op op_cat (pv 1) (pe_lst (pa_cons (pe_callB call_isO (by rfl) S.iB (by decide +kernel) (pa_cons (pv 0) (pa_cons (pe_glob (v := .ref C6) rfl S.e6.gC rfl) pa_nil))) (pa_cons (pe_callB call_isO (by rfl) S.iB (by decide +kernel) (pa_cons (pv 0) (pa_cons (pe_glob (v := .ref C7) rfl S.e7.gC rfl) pa_nil))) (pa_cons (pe_callB call_isO (by rfl) S.iB (by decide +kernel) (pa_cons (pv 0) (pa_cons (pe_glob (v := .ref C8) rfl S.e8.gC rfl) pa_nil))) pa_nil))))))
      (pss_one (ps_ret (pe_op op_cat (pv 1) (pe_lst (pa_cons (pe_callB call_isO (by rfl) S.iB (by decide +kernel) (pa_cons (pv 0) (pa_cons (pe_glob (v := .ref C9) rfl S.e9.gC rfl) pa_nil))) (pa_cons (pe_callB call_isO (by rfl) S.iB (by decide +kernel) (pa_cons (pv 0) (pa_cons (pe_glob (v := .ref C10) rfl S.e10.gC rfl) pa_nil))) pa_nil)))))))), ?_⟩
    obtain ⟨nm, EC⟩ : ∃ nm, ErrC K mg fe nm fld C := by
      simp only [List.mem_cons, Prod.mk.injEq, List.not_mem_nil, or_false] at hm
      rcases hm with ⟨rfl, rfl⟩ | ⟨rfl, rfl⟩ | ⟨rfl, rfl⟩ | ⟨rfl, rfl⟩ | ⟨rfl, rfl⟩ | ⟨rfl, rfl⟩ | ⟨rfl, rfl⟩ | ⟨rfl, rfl⟩ | ⟨rfl, rfl⟩ | ⟨rfl, rfl⟩ | ⟨rfl, rfl⟩
      · exact ⟨_, S.e0.toErrC⟩
      · exact ⟨_, S.e1.toErrC⟩
      · exact ⟨_, S.e2.toErrC⟩
      · exact ⟨_, S.e3.toErrC⟩
      · exact ⟨_, S.e4.toErrC⟩
      · exact ⟨_, S.e5.toErrC⟩
      · exact ⟨_, S.e6.toErrC⟩
      · exact ⟨_, S.e7.toErrC⟩
      · exact ⟨_, S.e8.toErrC⟩
      · exact ⟨_, S.e9.toErrC⟩
      · exact ⟨_, S.e10.toErrC⟩
    have q0 := kit_two EC S.e0.toErrC S.n0
    have q1 := kit_two EC S.e1.toErrC S.n1
    have q2 := kit_two EC S.e2.toErrC S.n2
    have q3 := kit_two EC S.e3.toErrC S.n3
    have q4 := kit_two EC S.e4.toErrC S.n4
    have q5 := kit_two EC S.e5.toErrC S.n5
    have q6 := kit_two EC S.e6.toErrC S.n6
    have q7 := kit_two EC S.e7.toErrC S.n7
    have q8 := kit_two EC S.e8.toErrC S.n8
    have q9 := kit_two EC S.e9.toErrC S.n9
    have q10 := kit_two EC S.e10.toErrC S.n10
    change tCB (rIsO K) (tCons (tVar 0) (tCons (tC (.ref C0)) tNil)) _ _ _
    refine is_go (by rfl) ea EC.ei q0 ?_
    change tCB (rIsO K) (tCons (tVar 0) (tCons (tC (.ref C1)) tNil)) _ _ _
    refine is_go (by rfl) ea EC.ei q1 ?_
    change tCB (rIsO K) (tCons (tVar 0) (tCons (tC (.ref C2)) tNil)) _ _ _
    refine is_go (by rfl) ea EC.ei q2 ?_
    refine ⟨by show 3 ≤ sizeLine; decide, fun p hp => ?_⟩
    have x1 := Ex.new (o := .lst [.bl (decide (C = C0)), .bl (decide (C = C1)), .bl (decide (C = C2))]) hp
    refine ⟨_, rfl, ?_⟩
    change tCB (rIsO K) (tCons (tVar 0) (tCons (tC (.ref C3)) tNil)) _ _ _
    refine is_go (by rfl) (ea.mono x1) EC.ei q3 ?_
    change tCB (rIsO K) (tCons (tVar 0) (tCons (tC (.ref C4)) tNil)) _ _ _
    refine is_go (by rfl) (ea.mono x1) EC.ei q4 ?_
    change tCB (rIsO K) (tCons (tVar 0) (tCons (tC (.ref C5)) tNil)) _ _ _
    refine is_go (by rfl) (ea.mono x1) EC.ei q5 ?_
    refine ⟨by show 3 ≤ sizeLine; decide, fun p2 hp2 => ?_⟩
    have x2 := Ex.new (o := .lst [.bl (decide (C = C3)), .bl (decide (C = C4)), .bl (decide (C = C5))]) hp2
    refine ⟨p, p2, _, _, rfl, rfl, x2 _ _ upd_same, upd_same, (by show 6 ≤ sizeLine; decide), fun p3 hp3 => ?_⟩
    have x3 := Ex.new (o := .lst [.bl (decide (C = C0)), .bl (decide (C = C1)), .bl (decide (C = C2)), .bl (decide (C = C3)), .bl (decide (C = C4)), .bl (decide (C = C5))]) hp3
    have x123 := x1.trans (x2.trans x3)
    refine ⟨_, rfl, ?_⟩
    change tCB (rIsO K) (tCons (tVar 0) (tCons (tC (.ref C6)) tNil)) _ _ _
    refine is_go (by rfl) (ea.mono x123) EC.ei q6 ?_
    change tCB (rIsO K) (tCons (tVar 0) (tCons (tC (.ref C7)) tNil)) _ _ _
    refine is_go (by rfl) (ea.mono x123) EC.ei q7 ?_
    change tCB (rIsO K) (tCons (tVar 0) (tCons (tC (.ref C8)) tNil)) _ _ _
    refine is_go (by rfl) (ea.mono x123) EC.ei q8 ?_
    refine ⟨by show 3 ≤ sizeLine; decide, fun p4 hp4 => ?_⟩
    have x4 := Ex.new (o := .lst [.bl (decide (C = C6)), .bl (decide (C = C7)), .bl (decide (C = C8))]) hp4
    refine ⟨p3, p4, _, _, rfl, rfl, x4 _ _ upd_same, upd_same, (by show 9 ≤ sizeLine; decide), fun p5 hp5 => ?_⟩
    have x5 := Ex.new (o := .lst [.bl (decide (C = C0)), .bl (decide (C = C1)), .bl (decide (C = C2)), .bl (decide (C = C3)), .bl (decide (C = C4)), .bl (decide (C = C5)), .bl (decide (C = C6)), .bl (decide (C = C7)), .bl (decide (C = C8))]) hp5
    have x15 := x123.trans (x4.trans x5)
    refine ⟨_, rfl, ?_⟩
    change tCB (rIsO K) (tCons (tVar 0) (tCons (tC (.ref C9)) tNil)) _ _ _
    refine is_go (by rfl) (ea.mono x15) EC.ei q9 ?_
    change tCB (rIsO K) (tCons (tVar 0) (tCons (tC (.ref C10)) tNil)) _ _ _
    refine is_go (by rfl) (ea.mono x15) EC.ei q10 ?_
    refine ⟨by show 2 ≤ sizeLine; decide, fun p6 hp6 => ?_⟩
    have x6 := Ex.new (o := .lst [.bl (decide (C = C9)), .bl (decide (C = C10))]) hp6
    refine ⟨p5, p6, _, _, rfl, rfl, x6 _ _ upd_same, upd_same, (by show 11 ≤ sizeLine; decide), fun p7 hp7 => ?_⟩
    exact k p7 _ (x15.trans (x6.trans (Ex.new hp7))) upd_same
end
end K61
namespace K61
open PySem PySem.Spec PyProof.Rows L2 Evl
/-- [error.f for error in xs], xs errors that all hold v in f -/
theorem comp_fields {K : PySem.W.Frag} {a D : Addr} {xs : List V} {v : V} {fld : Str} {s0 s1 s2 : Option V} {H1 : Hp} {Qd : Hp → Prop} (hD : H1 D = none) (hl : SqL K H1 a xs) (hz : xs.length ≤ 11)
    (he : ∀ (i : Nat) (x : V), xs[i]? = some x → ∃ b C, x = .ref b ∧ ErrAt H1 b C fld v ∧ XfC K C ∧ PySem.W.findIn K (.ref C) fld = some none)
    (hd : ∀ H', Ex H1 H' → H' D = some (.lst (List.replicate xs.length v)) → Qd H') :
    ∃ W : Nat → Nat → Hp → Prop, (∃ m, W 0 m (upd H1 D (.lst []))) ∧ ∀ i m H, W i m H →
      ((Itl K a).stop i H ∧ Qd H) ∨ ((Itl K a).go i H ∧ ∃ Nx : Hp → Prop, (∀ H', Nx H' → ∃ m', m' < m ∧ W (i + 1) m' H') ∧ ∀ x H', (Itl K a).yld i H x H' → gName 2 x (wipe [s0, s1, s2] [2]) H' fun σ2 H2 => wipe σ2 [2] = wipe [s0, s1, s2] [2] ∧ tYes σ2 H2 fun b H3 =>
        if b = true then tXv K fld (tVar 2) σ2 H3 fun y H4 => ∃ acc, H4 D = some (.lst acc) ∧ acc.length < sizeLine ∧ Nx (upd H4 D (.lst (acc ++ [y]))) else Nx H3) := by
  refine lc_list (fun i H => Ex H1 H ∧ i ≤ xs.length ∧ H D = some (.lst (List.replicate i v))) ⟨Ex.new hD, Nat.zero_le _, upd_same⟩ (fun i H _ p => ex_l p.1 hl) ?_ (fun H p => hd H p.1 p.2.2)
  rintro i x H hi ⟨ex, _, hacc⟩
  obtain ⟨b, C, rfl, ⟨d, e1, e2⟩, xf, no⟩ := he i x hi
  have hil := (List.getElem?_eq_some_iff.mp hi).1
  refine ⟨rfl, ?_⟩
  refine ⟨_, rfl, b, C, d, _, v, rfl, ex _ _ e1, ex _ _ e2, xf, no, by simp [List.lookup], _, hacc, ?_, ?_⟩
  · rw [List.length_replicate]
    exact small1000 (by omega)
  · refine ⟨Ex.mut ex hD, hil, ?_⟩
    rw [upd_same, List.replicate_succ']
/-- the i-th error -/
theorem Made.at {H : Hp} {v : V} : ∀ {as : List Addr} {ds : List (Addr × Str)} {i : Nat} {d : Addr × Str}, Made H as ds v → ds[i]? = some d → ∃ a, as[i]? = some a ∧ ErrAt H a d.1 d.2 v
  | _, _, i, d, .nil, e => by simp at e
  | _, _, 0, d, .cons r _, e => by
    simp at e
    subst e
    exact ⟨_, rfl, r⟩
  | _, _, i + 1, d, .cons _ t, e => by
    obtain ⟨a, h1, h2⟩ := Made.at (i := i) t (by simpa using e)
    exact ⟨a, by simpa using h1, h2⟩
section
variable {P : Program} {w : World} {K : PySem.W.Frag} {mg : Str → Option Value} {base : Heap} {fe C0 C1 C2 C3 C4 C5 C6 C7 C8 C9 C10 : Addr}
theorem scStored : FnScope ["errors", "found", "error"] ["errors"] (defScope sStored) := ⟨rfl, rfl, rfl, by decide +kernel, rfl, by decide +kernel, by decide +kernel⟩
theorem made11 {H : Hp} {v : V} {as : List Addr} (M : Made H as (dsc C0 C1 C2 C3 C4 C5 C6 C7 C8 C9 C10) v) : ∃ a0 a1 a2 a3 a4 a5 a6 a7 a8 a9 a10, as = [a0, a1, a2, a3, a4, a5, a6, a7, a8, a9, a10] ∧ ErrAt H a0 C0 "value" v ∧ ErrAt H a1 C1 "value" v ∧ ErrAt H a2 C2 "value" v ∧ ErrAt H a3 C3 "value" v ∧ ErrAt H a4 C4 "value" v ∧ ErrAt H a5 C5 "value" v ∧ ErrAt H a6 C6 "value" v ∧ ErrAt H a7 C7 "position" v ∧ ErrAt H a8 C8 "position" v ∧ ErrAt H a9 C9 "position" v ∧ ErrAt H a10 C10 "count" v := by
  unfold Made dsc at M
  cases M with
  | cons r0 M =>
  cases M with
  | cons r1 M =>
  cases M with
  | cons r2 M =>
  cases M with
  | cons r3 M =>
  cases M with
  | cons r4 M =>
  cases M with
  | cons r5 M =>
  cases M with
  | cons r6 M =>
  cases M with
  | cons r7 M =>
  cases M with
  | cons r8 M =>
  cases M with
  | cons r9 M =>
  cases M with
  | cons r10 M =>
  cases M
  exact ⟨_, _, _, _, _, _, _, _, _, _, _, rfl, r0, r1, r2, r3, r4, r5, r6, r7, r8, r9, r10⟩
theorem ok_stored {f : Addr} {fd : FuncData} (F : Fun K "_law_stored" "_law_stored" sStored f fd) (S : ErrS P w K mg base fe C0 C1 C2 C3 C4 C5 C6 C7 C8 C9 C10) : FnOk P w K mg base CX0 1 f fd ["errors"] (spStored (dsc C0 C1 C2 C3 C4 C5 C6 C7 C8 C9 C10)) := by
  refine F.ok scStored (fun vs H Q E h => ?_) (fun cdv A outer s H vs Q E hr h => ?_)
  · obtain ⟨l, as, v, rfl, _⟩ := h
    rfl
  · obtain ⟨l, as, v, rfl, hl, M, k⟩ := h
    refine ⟨_, pss_cons (ps_set (i := 1) scStored.nd rfl (Or.inl rfl) (pe_op op_cat
        (pe_lc (own := [("error", 2)]) (g := gName 2) (tt := tYes) (te := tXv K "value" (tVar 2)) rfl scStored.nd (pi_list (pe_slice sl_list (pv 0) po_none (po_some pe_int))) (blkOk_by (own := [("error", 2)]) (N := ["errors", "found", "error"]) (sc := defScope sStored) (by decide +kernel)) (fun _ _ _ _ _ => pg_name (i := 2) scStored.nd rfl (Or.inl rfl)) (fun _ _ _ _ _ => pts_nil) (fun _ _ _ _ _ => by exact pe_xv (pv 2)))
        (pe_lc (own := [("error", 2)]) (g := gName 2) (tt := tYes) (te := tXv K "position" (tVar 2)) rfl scStored.nd (pi_list (pe_slice sl_list (pv 0) (po_some pe_int) (po_some pe_int))) (blkOk_by (own := [("error", 2)]) (N := ["errors", "found", "error"]) (sc := defScope sStored) (by decide +kernel)) (fun _ _ _ _ _ => pg_name (i := 2) scStored.nd rfl (Or.inl rfl)) (fun _ _ _ _ _ => pts_nil) (fun _ _ _ _ _ => by exact pe_xv (pv 2)))))
      (pss_one (ps_ret (pe_op op_cat (pv 1) (pe_lst (pa_cons (by exact pe_xv (pe_ix ix_list (pv 0) pe_int (fun _ _ => rfl))) pa_nil))))), ?_⟩
    obtain ⟨a0, a1, a2, a3, a4, a5, a6, a7, a8, a9, a10, rfl, r0, r1, r2, r3, r4, r5, r6, r7, r8, r9, r10⟩ := made11 M
    -- errors[:7]
    refine ⟨_, rfl, _, rfl, l, _, rfl, SqL.of hl, fun p hp => ?_⟩
    have x1 := Ex.new (o := .lst [.ref a0, .ref a1, .ref a2, .ref a3, .ref a4, .ref a5, .ref a6]) hp
    refine ⟨p, rfl, ⟨_, SqL.of upd_same⟩, fun D hD => ?_⟩
    refine comp_fields (xs := [.ref a0, .ref a1, .ref a2, .ref a3, .ref a4, .ref a5, .ref a6]) (v := v) hD (SqL.of upd_same) (by show _ ≤ 11; simp) ?_ ?_
    · intro i x hi
      match i, hi with
      | 0, e => cases e; exact ⟨a0, C0, rfl, r0.mono x1, S.e0.xf, S.e0.no⟩
      | 1, e => cases e; exact ⟨a1, C1, rfl, r1.mono x1, S.e1.xf, S.e1.no⟩
      | 2, e => cases e; exact ⟨a2, C2, rfl, r2.mono x1, S.e2.xf, S.e2.no⟩
      | 3, e => cases e; exact ⟨a3, C3, rfl, r3.mono x1, S.e3.xf, S.e3.no⟩
      | 4, e => cases e; exact ⟨a4, C4, rfl, r4.mono x1, S.e4.xf, S.e4.no⟩
      | 5, e => cases e; exact ⟨a5, C5, rfl, r5.mono x1, S.e5.xf, S.e5.no⟩
      | 6, e => cases e; exact ⟨a6, C6, rfl, r6.mono x1, S.e6.xf, S.e6.no⟩
      | n + 7, e => simp at e
    intro H2 x2 hD2
    -- errors[7:10]
    have x12 := x1.trans x2
    refine ⟨_, rfl, _, rfl, _, rfl, l, _, rfl, SqL.of (x12 _ _ hl), fun p' hp' => ?_⟩
    have x3 := Ex.new (o := .lst [.ref a7, .ref a8, .ref a9]) hp'
    refine ⟨p', rfl, ⟨_, SqL.of upd_same⟩, fun D' hD' => ?_⟩
    have x13 := x12.trans x3
    refine comp_fields (xs := [.ref a7, .ref a8, .ref a9]) (v := v) hD' (SqL.of upd_same) (by show _ ≤ 11; simp) ?_ ?_
    · intro i x hi
      match i, hi with
      | 0, e => cases e; exact ⟨a7, C7, rfl, r7.mono x13, S.e7.xf, S.e7.no⟩
      | 1, e => cases e; exact ⟨a8, C8, rfl, r8.mono x13, S.e8.xf, S.e8.no⟩
      | 2, e => cases e; exact ⟨a9, C9, rfl, r9.mono x13, S.e9.xf, S.e9.no⟩
      | n + 3, e => simp at e
    intro H4 x4 hD4
    have x34 := x3.trans x4
    refine ⟨D, D', _, _, rfl, rfl, x34 _ _ hD2, hD4, (by show 10 ≤ sizeLine; decide), fun q hq => ?_⟩
    have x5 := Ex.new (o := .lst [v, v, v, v, v, v, v, v, v, v]) hq
    have x15 := (x12.trans x34).trans x5
    obtain ⟨d, e1, e2⟩ := r10.mono x15
    refine ⟨_, rfl, _, rfl, l, _, 10, _, rfl, rfl, SqL.of (x15 _ _ hl), rfl, a10, C10, d, _, v, rfl, e1, e2, S.e10.xf, S.e10.no, by simp [List.lookup], by show 1 ≤ sizeLine; decide, fun q2 hq2 => ?_⟩
    have x6 := Ex.new (o := .lst [v]) hq2
    refine ⟨q, q2, _, _, rfl, rfl, x6 _ _ upd_same, upd_same, (by show 11 ≤ sizeLine; decide), fun q3 hq3 => ?_⟩
    exact k q3 _ (x15.trans (x6.trans (Ex.new hq3))) upd_same
end
end K61
namespace K61
open PySem PySem.Spec PyProof.Rows L2 Evl
abbrev sLaw : Stmt := top 21
def forB : Stmt → List Stmt
  | .For _ _ b _ _ => b
  | _ => []
abbrev pass0' : Stmt := .Pass ⟨0, 0, 0, 0⟩
abbrev stS : Stmt := (defBody sLaw).getD 0 pass0'
abbrev stT : Stmt := (forB stS).getD 2 pass0'
abbrev stE : Stmt := (forB stT).getD 0 pass0'
abbrev stN : Stmt := (forB stE).getD 0 pass0'
abbrev NL : List Str := ["script", "start", "source", "some", "thing", "errors", "at", "error", "spot"]
theorem scLaw : FnScope NL ["script"] (defScope sLaw) := ⟨rfl, rfl, rfl, by decide +kernel, rfl, by decide +kernel, by decide +kernel⟩
abbrev XL (P : Program) (w : World) (K : PySem.W.Frag) (mg : Str → Option Value) (base : Heap) (f : Addr) (cdv : Value) (A : Around) (outer : List Env) (s : Shared) (H : Hp) (E : XK) : Cx := (cxOf CX0 P w K mg base NL "law" (defScope sLaw) f cdv A outer s H E).nox
structure TxL (mg : Str → Option Value) : Prop where
  range : mg "range" = none
  max : mg "max" = none
  min : mg "min" = none
  len : mg "len" = none
  enum : mg "enumerate" = none
  isi : mg "isinstance" = none
  repr : mg "repr" = none
  list : mg "list" = none
  dict : mg "dict" = none
  ve : mg "ValueError" = none
/-- for i, x in enumerate(xs), the list standing still -/
theorem for_enum {K : PySem.W.Frag} {a : Addr} {xs : List V} {g : TG} {tb : TS} {D : Ends} {σ : L2.St} {H : Hp} (Pv : Nat → L2.St → Hp → Prop) (h0 : Pv 0 σ H) (hl : ∀ i σ H, i ≤ xs.length → Pv i σ H → SqL K H a xs)
    (hs : ∀ i x T σ H, xs[i]? = some x → Pv i σ H → H T = none → g (.ref T) σ (upd H T (.tup [.int (i : Nat), x])) fun σ2 H2 => tb { D with nx := Pv (i + 1), ct := Pv (i + 1), bk := D.nx } σ2 H2) (hd : ∀ σ H, Pv xs.length σ H → D.nx σ H) :
    ∃ W : Nat → Nat → L2.St → Hp → Prop, (∃ m, W 0 m σ H) ∧ ∀ i m σ H, W i m σ H →
      ((Ite K a).stop i H ∧ D.nx σ H) ∨ ((Ite K a).go i H ∧ ∃ N : L2.St → Hp → Prop, (∀ σ' H', N σ' H' → ∃ m', m' < m ∧ W (i + 1) m' σ' H') ∧ ∀ x H', (Ite K a).yld i H x H' → g x σ H' fun σ2 H2 => tb { D with nx := N, ct := N, bk := D.nx } σ2 H2) := by
  refine ⟨fun i m σ H => m = xs.length - i ∧ i ≤ xs.length ∧ Pv i σ H, ⟨_, rfl, Nat.zero_le _, h0⟩, ?_⟩
  rintro i m σ H ⟨rfl, hi, p⟩
  have q := hl i σ H hi p
  by_cases c : i < xs.length
  · refine .inr ⟨⟨xs, xs[i], q, by simp [c]⟩, Pv (i + 1), fun σ' H' p' => ⟨_, by omega, rfl, c, p'⟩, ?_⟩
    rintro x H' ⟨T, y, rfl, hT, rfl, hy⟩
    exact hs i y T σ H (hy xs q) p hT
  · obtain rfl : i = xs.length := by omega
    exact .inl ⟨⟨xs, q, Nat.le_refl _⟩, hd σ H p⟩
/-- the list of the kinds, and the law's own -/
theorem kinds_eq {ds : List (Addr × Str)} (nd : (ds.map (·.1)).Nodup) {m : Nat} {C : Addr} {fld : Str} (h : ds[m]? = some (C, fld)) : (ds.map fun d => decide (C = d.1)) = (List.range ds.length).map fun (j : Nat) => decide ((j : Int) = (m : Int)) := by
  refine List.ext_getElem (by simp) fun i h1 h2 => ?_
  simp only [List.length_map] at h1
  obtain ⟨hm, em⟩ := List.getElem?_eq_some_iff.mp h
  simp only [List.getElem_map, List.getElem_range]
  have eC : C = (ds[m]).1 := by rw [em]
  clear h
  subst eC
  refine decide_eq_decide.mpr ⟨fun e => ?_, fun e => ?_⟩
  · have e' : (ds.map (·.1))[m]'(by simpa using hm) = (ds.map (·.1))[i]'(by simpa using h1) := by simpa using e
    have := (List.getElem_inj nd).mp e'
    omega
  · have : i = m := by omega
    subst this
    rfl
theorem bools_all : ∀ bs : List Bool, PyData.canLayAll0 (bs.map PyData.bool) = true ∧ PyData.depthAll (bs.map PyData.bool) = 0
  | [] => by simp [PyData.canLayAll0, PyData.depthAll]
  | b :: bs => by
    have h := bools_all bs
    simp [PyData.canLayAll0, PyData.depthAll, PyData.canLay0, PyData.depth, h.1, h.2]
theorem bools_can (bs : List Bool) : (PyData.list (bs.map PyData.bool)).canLay0 = true := by
  simp [PyData.canLay0, (bools_all bs).1]
theorem bools_shaped (bs : List Bool) : SeqAt.shaped (.list (bs.map PyData.bool)) = true := by
  unfold SeqAt.shaped
  rw [bools_can]
  simp [PyData.depth, (bools_all bs).2]
theorem bools_dp {K : PySem.W.Frag} {H : Hp} : ∀ bs : List Bool, DpAll K H (bs.map V.bl) (bs.map PyData.bool)
  | [] => .nil
  | b :: bs => .cons (.bl b) (bools_dp bs)
section
variable {P : Program} {w : World} {K : PySem.W.Frag} {mg : Str → Option Value} {base : Heap} {f : Addr} {cdv : Value} {A : Around} {outer : List Env} {s : Shared} {H0 : Hp} {E : XK} {fe C0 C1 C2 C3 C4 C5 C6 C7 C8 C9 C10 fK : Addr} {fdK : FuncData}
theorem blkN (S : ErrS P w K mg base fe C0 C1 C2 C3 C4 C5 C6 C7 C8 C9 C10) (T : TxL mg) (hr : Room 2 (XL P w K mg base f cdv A outer s H0 E).A) (GK : FnOk P w K mg base CX0 1 fK fdK ["error"] (spKinds (dsc C0 C1 C2 C3 C4 C5 C6 C7 C8 C9 C10))) (kK : PySem.W.keepIn K (.ref fK) = true) (bK : Binds K fdK ["error"] []) (gK : mg "_law_kinds" = some (.ref fK)) :
    ∃ t, PS (XL P w K mg base f cdv A outer s H0 E) stN t ∧ ∀ (D : Ends) (x0 x1 x2 x3 x4 x6 x7 x8 : Option V) (l : Addr) (as : List Addr) (v : V) (H : Hp), H l = some (.lst (as.map V.ref)) → Made H as (dsc C0 C1 C2 C3 C4 C5 C6 C7 C8 C9 C10) v →
      (∀ (y6 y7 y8 : Option V) (H' : Hp), Ex H H' → D.nx [x0, x1, x2, x3, x4, some (.ref l), y6, y7, y8] H') → t D [x0, x1, x2, x3, x4, some (.ref l), x6, x7, x8] H := by
  have hr1 : Room 1 _ := hr.mono (by decide)
  refine ⟨_, ps_for PassesOwn.never rfl (pi_enum (by rfl) T.enum (pa_cons (pv 5) pa_nil)) (pg_tup (by rfl) (pgs_cons (pg_name (i := 6) scLaw.nd rfl (Or.inr rfl)) (pgs_cons (pg_name (i := 7) scLaw.nd rfl (Or.inl rfl)) pgs_nil)))
    (pss_cons (ps_if (PW.pt (pw_or (pt_not (pt_val (pe_callB call_isO (by rfl) T.isi (by decide +kernel) (pa_cons (pv 7) (pa_cons (pe_glob (v := .ref fe) rfl S.gF rfl) pa_nil))))) (pw_or1 (pt_not (pt_val (pe_callB call_isO (by rfl) T.isi (by decide +kernel) (pa_cons (pv 7) (pa_cons (pe_bltn (v := .ty "ValueError") (by rfl) T.ve (by decide +kernel) rfl) pa_nil))))))))
        (pss_one (ps_ret pe_bl)) pss_nil)
      (pss_one (ps_if (pt_cmpR (op_neD hr.units) (pe_call GK hr1 (by rfl) gK kK bK .nil pass0 (pa_cons (pv 7) pa_nil))
          (pe_lc (own := [("spot", 8)]) (g := gName 8) (tt := tYes) (te := tOp rEq (tVar 8) (tVar 6)) rfl scLaw.nd (pi_range1 rfl T.range (pa_cons pe_int pa_nil)) (blkOk_by (own := [("spot", 8)]) (N := NL) (sc := defScope sLaw) (by decide +kernel)) (fun _ _ _ _ _ => pg_name (i := 8) scLaw.nd rfl (Or.inl rfl)) (fun _ _ _ _ _ => pts_nil) (fun _ _ _ _ _ => by exact pe_cmpR op_eq (pv 8) (pv 6) (nomark _))) (nomark _))
        (pss_one (ps_ret pe_bl)) pss_nil))), ?_⟩
  intro D x0 x1 x2 x3 x4 x6 x7 x8 l as v H hl M k
  refine ⟨_, rfl, l, _, rfl, SqL.of hl, for_enum (K := K) (a := l) (xs := as.map V.ref) (fun i σ H' => ∃ y6 y7 y8, σ = [x0, x1, x2, x3, x4, some (.ref l), y6, y7, y8] ∧ Ex H H') ⟨x6, x7, x8, rfl, Ex.refl H⟩ (fun i σ H' _ p => ex_l (by obtain ⟨_, _, _, _, e⟩ := p; exact e) (SqL.of hl)) ?_ ?_⟩
  · rintro i x T σ H1 hi ⟨y6, y7, y8, rfl, e1⟩ hT
    -- the i-th error
    obtain ⟨b, hb, rfl⟩ : ∃ b, as[i]? = some b ∧ V.ref b = x := by
      rw [List.getElem?_map] at hi
      exact Option.map_eq_some_iff.mp hi
    have hlen : as.length = (dsc C0 C1 C2 C3 C4 C5 C6 C7 C8 C9 C10).length := Paired.length M
    have hi11 : i < (dsc C0 C1 C2 C3 C4 C5 C6 C7 C8 C9 C10).length := by rw [← hlen]; exact (List.getElem?_eq_some_iff.mp hb).1
    obtain ⟨⟨C, fld⟩, hd⟩ : ∃ d, (dsc C0 C1 C2 C3 C4 C5 C6 C7 C8 C9 C10)[i]? = some d := ⟨_, List.getElem?_eq_getElem hi11⟩
    obtain ⟨b', hb', ea0⟩ := M.at hd
    rw [hb] at hb'
    cases hb'
    have hm := List.mem_of_getElem? hd
    obtain ⟨nm, EC⟩ : ∃ nm, ErrC K mg fe nm fld C := by
      simp only [List.mem_cons, Prod.mk.injEq, List.not_mem_nil, or_false] at hm
      rcases hm with ⟨rfl, rfl⟩ | ⟨rfl, rfl⟩ | ⟨rfl, rfl⟩ | ⟨rfl, rfl⟩ | ⟨rfl, rfl⟩ | ⟨rfl, rfl⟩ | ⟨rfl, rfl⟩ | ⟨rfl, rfl⟩ | ⟨rfl, rfl⟩ | ⟨rfl, rfl⟩ | ⟨rfl, rfl⟩
      · exact ⟨_, S.e0.toErrC⟩
      · exact ⟨_, S.e1.toErrC⟩
      · exact ⟨_, S.e2.toErrC⟩
      · exact ⟨_, S.e3.toErrC⟩
      · exact ⟨_, S.e4.toErrC⟩
      · exact ⟨_, S.e5.toErrC⟩
      · exact ⟨_, S.e6.toErrC⟩
      · exact ⟨_, S.e7.toErrC⟩
      · exact ⟨_, S.e8.toErrC⟩
      · exact ⟨_, S.e9.toErrC⟩
      · exact ⟨_, S.e10.toErrC⟩
    have e2 := e1.trans (Ex.new (o := .tup [.int (i : Nat), .ref b]) hT)
    have ea := ea0.mono e2
    refine ⟨T, _, rfl, SqT.of upd_same, rfl, _, _, rfl, _, _, rfl, rfl, ?_⟩
    -- the classes above
    obtain ⟨d, ed1, ed2⟩ := id ea
    refine ⟨_, rfl, b, C, d, _, .ref fe, .ref fe, true, rfl, ed1, ed2, EC.ei, fun _ r => r, kit_fe EC S.fc S.ft, _, rfl, ?_⟩
    refine iteF ?_
    refine ⟨_, rfl, b, C, d, _, .ty "ValueError", .type "ValueError", true, rfl, ed1, ed2, EC.ei, fun _ r => r, kit_ve EC, _, rfl, ?_⟩
    refine iteF ?_
    -- the kinds
    refine ⟨_, rfl, b, C, fld, v, rfl, hm, ea, fun p H3 e3 hp => ?_⟩
    refine ⟨11, rfl, by decide, by decide, fun D' hD' => lc_range (lo := 0) (n := 11) (fun j H' => Ex H3 H' ∧ j ≤ 11 ∧ H' D' = some (.lst ((List.range j).map fun (j : Nat) => V.bl (decide ((j : Int) = (i : Int)))))) ⟨Ex.new hD', Nat.zero_le _, upd_same⟩ ?_ ?_⟩
    · rintro j H4 hj ⟨e4, _, hacc⟩
      refine ⟨rfl, ?_⟩
      refine ⟨_, rfl, _, rfl, rfl, _, hacc, ?_, Ex.mut e4 hD', hj, ?_⟩
      · rw [List.length_map, List.length_range]
        exact small1000 (by omega)
      · rw [upd_same, List.range_succ, List.map_append]
        have z : (V.int (0 + (j : Int)) = V.int (i : Nat)) ↔ ((j : Int) = (i : Int)) := by
          rw [V.int.injEq]
          omega
        simp only [List.map_cons, List.map_nil, decide_eq_decide.mpr z]
    · rintro H4 ⟨e4, _, hacc⟩
      have e1' : (dsc C0 C1 C2 C3 C4 C5 C6 C7 C8 C9 C10).map (fun d => V.bl (decide (C = d.1))) = ((dsc C0 C1 C2 C3 C4 C5 C6 C7 C8 C9 C10).map fun d => decide (C = d.1)).map V.bl := by rw [List.map_map]; rfl
      have e2' : (List.range 11).map (fun (j : Nat) => V.bl (decide ((j : Int) = (i : Int)))) = ((dsc C0 C1 C2 C3 C4 C5 C6 C7 C8 C9 C10).map fun d => decide (C = d.1)).map V.bl := by
        rw [kinds_eq (ds := dsc C0 C1 C2 C3 C4 C5 C6 C7 C8 C9 C10) S.nd hd, List.map_map]
        rfl
      rw [e1'] at hp
      rw [e2'] at hacc
      refine ⟨.list (((dsc C0 C1 C2 C3 C4 C5 C6 C7 C8 C9 C10).map fun d => decide (C = d.1)).map PyData.bool), .list (((dsc C0 C1 C2 C3 C4 C5 C6 C7 C8 C9 C10).map fun d => decide (C = d.1)).map PyData.bool), .lst (SqL.of (e4 _ _ hp)) (bools_dp _), .lst (SqL.of hacc) (bools_dp _), ?_, ?_, _, rfl, ?_⟩
      · exact bools_shaped _
      · exact bools_shaped _
      rw [SeqAt.eqv_refl _ (bools_can _)]
      refine iteF ?_
      exact ⟨_, _, _, rfl, e2.trans (e3.trans e4)⟩
  · rintro σ H' ⟨y6, y7, y8, rfl, e⟩
    exact k y6 y7 y8 H' e
end
end K61
namespace L2
open PySem PySem.Spec PyProof.Rows Evl
mutual
theorem Dq.mono {K : PySem.W.Frag} {H H' : Hp} (e : Ex H H') : ∀ {v : V} {d : PyData}, Dq K H v d → Dq K H' v d
  | _, _, .non => .non
  | _, _, .bl b => .bl b
  | _, _, .int i => .int i
  | _, _, .str x => .str x
  | _, _, .lst q ds => .lst (ex_l e q) (Dqs.mono e ds)
  | _, _, .tup q ds => .tup (ex_t e q) (Dqs.mono e ds)
  | _, _, .dct q ds => .dct (e _ _ q) (Dkv.mono e ds)
theorem Dqs.mono {K : PySem.W.Frag} {H H' : Hp} (e : Ex H H') : ∀ {vs : List V} {ds : List PyData}, Dqs K H vs ds → Dqs K H' vs ds
  | _, _, .nil => .nil
  | _, _, .cons q qs => .cons (Dq.mono e q) (Dqs.mono e qs)
theorem Dkv.mono {K : PySem.W.Frag} {H H' : Hp} (e : Ex H H') : ∀ {kvs : List (Key × V)} {ds : List (PyData × PyData)}, Dkv K H kvs ds → Dkv K H' kvs ds
  | _, _, .nil => .nil
  | _, _, .cons q qs => .cons (Dq.mono e q) (Dkv.mono e qs)
end
theorem Dqs.rep {K : PySem.W.Frag} {H : Hp} {v : V} {d : PyData} (h : Dq K H v d) : ∀ n, Dqs K H (List.replicate n v) (List.replicate n d)
  | 0 => .nil
  | n + 1 => .cons h (Dqs.rep h n)
end L2
namespace K61
open PySem PySem.Spec PyProof.Rows L2 Evl
/-- eleven of it can be shown -/
def Good (d : PyData) : Bool := (PyData.list (List.replicate 11 d)).showable && decide ((PyData.list (List.replicate 11 d)).depth ≤ 60) && decide ((PyData.list (List.replicate 11 d)).shown.length ≤ 100000)
/-- the things: what stands ahead of the law has none of the objects -/
inductive TS (H0 : Hp) (k : Nat) (H : Hp) : V → Prop
  | five {q : Addr} {m : Nat} : H0 q = none → m ≤ k → H q = some (.lst (.int 5 :: List.replicate m (.int 0))) → TS H0 k H (.ref q)
  | two {q : Addr} {m : Nat} : H0 q = none → m ≤ k → H q = some (.lst (.str "a" :: .non :: List.replicate m (.int 0))) → TS H0 k H (.ref q)
  | dct {q : Addr} : H0 q = none → H q = some (.dK [(.inr "a", .int 1)]) → TS H0 k H (.ref q)
  | late {q : Addr} : H0 q = none → H q = some (.dK [(.inr "a", .int 1), (.inr "late", .int 0)]) → TS H0 k H (.ref q)
  | non : TS H0 k H .non
  | x : TS H0 k H (.str "x")
  | tup {q : Addr} : H q = some (.tup [.int 1]) → TS H0 k H (.ref q)
  | tru : TS H0 k H (.bl true)
  | int {r : Int} : -3 ≤ r → r < 60 → TS H0 k H (.int r)
theorem TS.mono {H0 H H' : Hp} {k : Nat} {v : V} (e : Ex H H') (h : TS H0 k H v) : TS H0 k H' v := by
  cases h with
  | five a b c => exact .five a b (e _ _ c)
  | two a b c => exact .two a b (e _ _ c)
  | dct a c => exact .dct a (e _ _ c)
  | late a c => exact .late a (e _ _ c)
  | non => exact .non
  | x => exact .x
  | tup c => exact .tup (e _ _ c)
  | tru => exact .tru
  | int a b => exact .int a b
theorem TS.more {H0 H : Hp} {k k' : Nat} {v : V} (e : k ≤ k') (h : TS H0 k H v) : TS H0 k' H v := by
  cases h with
  | five a b c => exact .five a (Nat.le_trans b e) c
  | two a b c => exact .two a (Nat.le_trans b e) c
  | dct a c => exact .dct a c
  | late a c => exact .late a c
  | non => exact .non
  | x => exact .x
  | tup c => exact .tup c
  | tru => exact .tru
  | int a b => exact .int a b
/-- a nought is put behind the list at q -/
theorem TS.app {H0 H : Hp} {k : Nat} {q : Addr} {xs : List V} {v : V} (hq : H q = some (.lst xs)) (h : TS H0 k H v) : TS H0 (k + 1) (upd H q (.lst (xs ++ [.int 0]))) v := by
  have ne : ∀ {b : Addr} {o : HO}, H b = some o → o ≠ .lst xs → b ≠ q := fun e n => ne_of e hq n
  cases h with
  | @five b m h1 h2 h3 =>
    by_cases e : b = q
    · subst e
      rw [hq] at h3
      cases h3
      refine .five h1 (Nat.succ_le_succ h2) ?_
      rw [upd_same, List.cons_append, ← List.replicate_succ']
    · exact .five h1 (Nat.le_succ_of_le h2) (by rw [upd_ne e]; exact h3)
  | @two b m h1 h2 h3 =>
    by_cases e : b = q
    · subst e
      rw [hq] at h3
      cases h3
      refine .two h1 (Nat.succ_le_succ h2) ?_
      rw [upd_same, List.cons_append, List.cons_append, ← List.replicate_succ']
    · exact .two h1 (Nat.le_succ_of_le h2) (by rw [upd_ne e]; exact h3)
  | dct h1 h3 => exact .dct h1 (by rw [upd_ne (ne h3 (fun z => nomatch z))]; exact h3)
  | late h1 h3 => exact .late h1 (by rw [upd_ne (ne h3 (fun z => nomatch z))]; exact h3)
  | tup h3 => exact .tup (by rw [upd_ne (ne h3 (fun z => nomatch z))]; exact h3)
  | non => exact .non
  | x => exact .x
  | tru => exact .tru
  | int a b => exact .int a b
theorem TS.put {H0 H : Hp} {k : Nat} {q : Addr} {kvs : List (Key × V)} {v : V} (hn : H0 q = none) (hq : H q = some (.dK kvs)) (h : TS H0 k H v) : TS H0 (k + 1) (upd H q (.dK [(.inr "a", .int 1), (.inr "late", .int 0)])) v := by
  have ne : ∀ {b : Addr} {o : HO}, H b = some o → o ≠ .dK kvs → b ≠ q := fun e n => ne_of e hq n
  refine TS.more (Nat.le_succ k) ?_
  cases h with
  | five h1 h2 h3 => exact .five h1 h2 (by rw [upd_ne (ne h3 (fun z => nomatch z))]; exact h3)
  | two h1 h2 h3 => exact .two h1 h2 (by rw [upd_ne (ne h3 (fun z => nomatch z))]; exact h3)
  | @dct b h1 h3 =>
    by_cases e : b = q
    · subst e
      exact .late h1 upd_same
    · exact .dct h1 (by rw [upd_ne e]; exact h3)
  | @late b h1 h3 =>
    by_cases e : b = q
    · subst e
      exact .late h1 upd_same
    · exact .late h1 (by rw [upd_ne e]; exact h3)
  | tup h3 => exact .tup (by rw [upd_ne (ne h3 (fun z => nomatch z))]; exact h3)
  | non => exact .non
  | x => exact .x
  | tru => exact .tru
  | int a b => exact .int a b
theorem good_five : ∀ m : Nat, m < 5 → Good (.list (.int 5 :: List.replicate m (.int 0))) = true := by decide +kernel
theorem good_two : ∀ m : Nat, m < 5 → Good (.list (.str "a" :: .none :: List.replicate m (.int 0))) = true := by decide +kernel
theorem good_int : ∀ m : Nat, m < 63 → Good (.int ((m : Int) - 3)) = true := by decide +kernel
theorem TS.data {K : PySem.W.Frag} {H0 H : Hp} {k : Nat} {v : V} (hk : k ≤ 4) (h : TS H0 k H v) : ∃ d, Dq K H v d ∧ Good d = true := by
  cases h with
  | five h1 h2 h3 => exact ⟨_, .lst (SqL.of h3) (.cons (.int 5) (Dqs.rep (.int 0) _)), good_five _ (by omega)⟩
  | two h1 h2 h3 => exact ⟨_, .lst (SqL.of h3) (.cons (.str "a") (.cons .non (Dqs.rep (.int 0) _))), good_two _ (by omega)⟩
  | dct h1 h3 => exact ⟨_, .dct h3 (.cons (.int 1) .nil), by decide +kernel⟩
  | late h1 h3 => exact ⟨_, .dct h3 (.cons (.int 1) (.cons (.int 0) .nil)), by decide +kernel⟩
  | tup h3 => exact ⟨_, .tup (SqT.of h3) (.cons (.int 1) .nil), by decide +kernel⟩
  | non => exact ⟨_, .non, by decide +kernel⟩
  | x => exact ⟨_, .str _, by decide +kernel⟩
  | tru => exact ⟨_, .bl true, by decide +kernel⟩
  | @int r a b =>
    have q := good_int (r + 3).toNat (by omega)
    have e : (((r + 3).toNat : Nat) : Int) - 3 = r := by omega
    rw [e] at q
    exact ⟨_, .int r, q⟩
theorem TS.kind {K : PySem.W.Frag} {H0 H : Hp} {k : Nat} {v : V} (hk : k ≤ 4) (h : TS H0 k H v) :
    (∃ q xs, v = .ref q ∧ H0 q = none ∧ H q = some (.lst xs) ∧ xs.length < 1000 ∧ (∃ x r, xs = x :: r ∧ (x = .int 5 ∨ x = .str "a") ∧ r.length ≤ 5)) ∨ (∃ q kvs, v = .ref q ∧ H0 q = none ∧ H q = some (.dK kvs) ∧ kvs.length < 1000 ∧ putK kvs (.inr "late") (.int 0) = [(.inr "a", .int 1), (.inr "late", .int 0)]) ∨
      ∃ t, TyX K H v (.type t) ∧ kitB t "list" = some false ∧ kitB t "dict" = some false := by
  cases h with
  | five h1 h2 h3 => exact .inl ⟨_, _, rfl, h1, h3, by simp; omega, _, _, rfl, .inl rfl, by simp; omega⟩
  | two h1 h2 h3 => exact .inl ⟨_, _, rfl, h1, h3, by simp; omega, _, _, rfl, .inr rfl, by simp; omega⟩
  | dct h1 h3 => exact .inr (.inl ⟨_, _, rfl, h1, h3, by simp, by decide +kernel⟩)
  | late h1 h3 => exact .inr (.inl ⟨_, _, rfl, h1, h3, by simp, by decide +kernel⟩)
  | tup h3 => exact .inr (.inr ⟨_, .base (.tup h3), by decide +kernel, by decide +kernel⟩)
  | non => exact .inr (.inr ⟨_, .base .non, by decide +kernel, by decide +kernel⟩)
  | x => exact .inr (.inr ⟨_, .base (.str _), by decide +kernel, by decide +kernel⟩)
  | tru => exact .inr (.inr ⟨_, .base (.bl _), by decide +kernel, by decide +kernel⟩)
  | int a b => exact .inr (.inr ⟨_, .base (.int _), by decide +kernel, by decide +kernel⟩)
theorem ErrAt.but {H : Hp} {q : Addr} {o o' : HO} {a C : Addr} {fld : Str} {v : V} (hq : H q = some o) (hne : ∀ φ, o ≠ .ext φ) (h : ErrAt H a C fld v) : ErrAt (upd H q o') a C fld v := by
  obtain ⟨d, h1, h2⟩ := h
  refine ⟨d, ?_, ?_⟩
  · rw [upd_ne (ne_of h1 hq fun z => hne _ z.symm)]; exact h1
  · rw [upd_ne (ne_of h2 hq fun z => hne _ z.symm)]; exact h2
theorem Made.but {H : Hp} {q : Addr} {o o' : HO} {as : List Addr} {ds : List (Addr × Str)} {v : V} (hq : H q = some o) (hne : ∀ φ, o ≠ .ext φ) (h : Made H as ds v) : Made (upd H q o') as ds v := Paired.mapP h fun _ _ z => z.but hq hne
theorem iteF' {c : Bool} {A B : Prop} (hc : c = false) (h : B) : if c = true then A else B := by
  rw [hc]
  exact h
abbrev stR : Stmt := (forB stE).getD 3 pass0'
section
variable {P : Program} {w : World} {K : PySem.W.Frag} {mg : Str → Option Value} {base : Heap} {f : Addr} {cdv : Value} {A : Around} {outer : List Env} {s : Shared} {H0 : Hp} {E : XK} {fe C0 C1 C2 C3 C4 C5 C6 C7 C8 C9 C10 fT : Addr} {fdT : FuncData}
theorem blkR (T : TxL mg) (hr : Room 2 (XL P w K mg base f cdv A outer s H0 E).A) (hG : (XL P w K mg base f cdv A outer s H0 E).A.guards = some []) (GT : FnOk P w K mg base CX0 1 fT fdT ["errors"] (spStored (dsc C0 C1 C2 C3 C4 C5 C6 C7 C8 C9 C10))) (kT : PySem.W.keepIn K (.ref fT) = true) (bT : Binds K fdT ["errors"] []) (gT : mg "_law_stored" = some (.ref fT)) :
    ∃ t, PS (XL P w K mg base f cdv A outer s H0 E) stR t ∧ ∀ (D : Ends) (x0 x1 x2 x3 x6 x7 x8 : Option V) (l : Addr) (as : List Addr) (v : V) (H : Hp), H l = some (.lst (as.map V.ref)) → Made H as (dsc C0 C1 C2 C3 C4 C5 C6 C7 C8 C9 C10) v → (∃ d, Dq K H v d ∧ Good d = true) →
      (∀ H', Ex H H' → D.nx [x0, x1, x2, x3, some v, some (.ref l), x6, x7, x8] H') → t D [x0, x1, x2, x3, some v, some (.ref l), x6, x7, x8] H := by
  have hr1 : Room 1 _ := hr.mono (by decide)
  refine ⟨_, ps_if (pt_cmpR op_ne (pe_callB (call_repr hG hr.units) (by rfl) T.repr (by decide +kernel) (pa_cons (pe_call GT hr1 (by rfl) gT kT bT .nil pass0 (pa_cons (pv 5) pa_nil)) pa_nil))
      (pe_callB (call_repr hG hr.units) (by rfl) T.repr (by decide +kernel) (pa_cons (pe_op op_rep (pe_lst (pa_cons (pv 4) pa_nil)) pe_int) pa_nil)) (nomark _)) (pss_one (ps_ret pe_bl)) pss_nil, ?_⟩
  intro D x0 x1 x2 x3 x6 x7 x8 l as v H hl M hd k
  obtain ⟨d, dq, g⟩ := hd
  obtain ⟨⟨g1, g2⟩, g3⟩ : ((PyData.list (List.replicate 11 d)).showable = true ∧ (PyData.list (List.replicate 11 d)).depth ≤ 60) ∧ (PyData.list (List.replicate 11 d)).shown.length ≤ 100000 := by
    simpa only [Good, Bool.and_eq_true, decide_eq_true_eq] using g
  refine ⟨_, rfl, l, as, v, rfl, hl, M, fun p H1 e1 hp => ?_⟩
  refine ⟨_, _, rfl, .lst (SqL.of hp) (Dqs.rep (dq.mono e1) 11), g1, g2, sz_of g3, ?_⟩
  refine ⟨_, rfl, (by show 1 ≤ sizeLine; decide), fun q hq => ?_⟩
  have e2 := Ex.new (o := .lst [v]) hq
  refine ⟨q, 11, [v], rfl, rfl, upd_same, by decide, by decide, (by show 11 ≤ sizeLine; decide), fun q2 hq2 => ?_⟩
  have e3 := Ex.new (o := .lst (List.replicate (11 : Int).toNat [v]).flatten) hq2
  have e123 := e1.trans (e2.trans e3)
  have fl : (List.replicate (11 : Int).toNat [v]).flatten = List.replicate 11 v := rfl
  refine ⟨_, _, rfl, .lst (SqL.of (by rw [upd_same, fl])) (Dqs.rep (dq.mono e123) 11), g1, g2, sz_of g3, rfl, _, rfl, ?_⟩
  refine iteF' ?_ ?_
  · simp
  · exact k _ e123
end
end K61
namespace K61
open PySem PySem.Spec PyProof.Rows L2 Evl
/-- the defs that law calls -/
structure GsL (P : Program) (w : World) (K : PySem.W.Frag) (mg : Str → Option Value) (base : Heap) (ds : List (Addr × Str)) : Prop where
  kinds : ∃ f fd, FnOk P w K mg base CX0 1 f fd ["error"] (spKinds ds) ∧ PySem.W.keepIn K (.ref f) = true ∧ Binds K fd ["error"] [] ∧ mg "_law_kinds" = some (.ref f)
  stored : ∃ f fd, FnOk P w K mg base CX0 1 f fd ["errors"] (spStored ds) ∧ PySem.W.keepIn K (.ref f) = true ∧ Binds K fd ["errors"] [] ∧ mg "_law_stored" = some (.ref f)
  place : ∃ f fd, FnOk P w K mg base CX0 4 f fd ["thing"] (spMade ds) ∧ PySem.W.keepIn K (.ref f) = true ∧ Binds K fd ["thing"] [] ∧ mg "_law_by_place" = some (.ref f)
  name : ∃ f fd, FnOk P w K mg base CX0 4 f fd ["thing"] (spMade ds) ∧ PySem.W.keepIn K (.ref f) = true ∧ Binds K fd ["thing"] [] ∧ mg "_law_by_name" = some (.ref f)
  source : ∃ f fd, FnOk P w K mg base CX0 1 f fd ["script", "start"] (spSource K) ∧ PySem.W.keepIn K (.ref f) = true ∧ Binds K fd ["script", "start"] [] ∧ mg "_law_source" = some (.ref f)
  draw : ∃ f fd, FnOk P w K mg base CX0 1 f fd ["source", "span"] spDraw ∧ PySem.W.keepIn K (.ref f) = true ∧ Binds K fd ["source", "span"] [] ∧ mg "_law_draw" = some (.ref f)
  pick : ∃ f fd, FnOk P w K mg base CX0 2 f fd ["source", "things"] spPick ∧ PySem.W.keepIn K (.ref f) = true ∧ Binds K fd ["source", "things"] [] ∧ mg "_law_pick" = some (.ref f)
section
variable {P : Program} {w : World} {K : PySem.W.Frag} {mg : Str → Option Value} {base : Heap} {f : Addr} {cdv : Value} {A : Around} {outer : List Env} {s : Shared} {H0 : Hp} {E : XK} {fe C0 C1 C2 C3 C4 C5 C6 C7 C8 C9 C10 : Addr}
theorem same_ex {H H1 H2 : Hp} (a : Same H H1) (b : Ex H1 H2) : Same H H2 := fun x o e => b x o (a x o e)
theorem same_upd {H H1 : Hp} {q : Addr} {o : HO} (a : Same H H1) (h : H q = none) : Same H (upd H1 q o) := fun x u e => by
  rw [upd_ne (ne_of_none e h)]
  exact a x u e
/-- between two rows of errors -/
def PvE (H0 : Hp) (ds : List (Addr × Str)) (x0 x1 x2 x3 : Option V) (v : V) (lt r1 le l1 l2 : Addr) (t2 : V) (as1 as2 : List Addr) (k j : Nat) (σ : L2.St) (H' : Hp) : Prop := ∃ y5 y6 y7 y8 : Option V, σ = [x0, x1, x2, x3, some v, y5, y6, y7, y8] ∧ Same H0 H' ∧ H' lt = some (.lst [.ref r1, t2]) ∧ H' le = some (.lst [.ref l1, .ref l2]) ∧
  TS H0 (k + j) H' v ∧ TS H0 (k + j) H' (.ref r1) ∧ TS H0 (k + j) H' t2 ∧ H' l1 = some (.lst (as1.map V.ref)) ∧ Made H' as1 ds v ∧ H' l2 = some (.lst (as2.map V.ref)) ∧ Made H' as2 ds v
/-- the errors of one thing: by place, by name -/
theorem blkE (S : ErrS P w K mg base fe C0 C1 C2 C3 C4 C5 C6 C7 C8 C9 C10) (T : TxL mg) (G : GsL P w K mg base (dsc C0 C1 C2 C3 C4 C5 C6 C7 C8 C9 C10)) (hr : Room 4 (XL P w K mg base f cdv A outer s H0 E).A) (hG : (XL P w K mg base f cdv A outer s H0 E).A.guards = some []) :
    ∃ t, PS (XL P w K mg base f cdv A outer s H0 E) stE t ∧ ∀ (D : Ends) (x0 x1 x2 x3 x5 x6 x7 x8 : Option V) (v : V) (lt r1 : Addr) (t2 : V) (k : Nat) (H : Hp), k ≤ 2 → Same H0 H → H lt = some (.lst [.ref r1, t2]) → TS H0 k H v → TS H0 k H (.ref r1) → TS H0 k H t2 →
      (∀ (y5 y6 y7 y8 : Option V) (H' : Hp), Same H0 H' → H' lt = some (.lst [.ref r1, t2]) → TS H0 (k + 2) H' (.ref r1) → TS H0 (k + 2) H' t2 → D.nx [x0, x1, x2, x3, some v, y5, y6, y7, y8] H') →
      t D [x0, x1, x2, x3, some v, x5, x6, x7, x8] H := by
  have hr2 : Room 2 _ := hr.mono (by decide)
  obtain ⟨fK, fdK, GK, kK, bK, gK⟩ := G.kinds
  obtain ⟨fT, fdT, GT, kT, bT, gT⟩ := G.stored
  obtain ⟨fP, fdP, GP, kP, bP, gP⟩ := G.place
  obtain ⟨fN, fdN, GN, kN, bN, gN⟩ := G.name
  obtain ⟨tN, hN, qN⟩ := blkN (outer := outer) (s := s) (H0 := H0) (E := E) (cdv := cdv) (f := f) S T hr2 GK kK bK gK
  obtain ⟨tR, hR, qR⟩ := blkR (outer := outer) (s := s) (H0 := H0) (E := E) (cdv := cdv) (f := f) T hr2 hG GT kT bT gT
  refine ⟨_, ps_for PassesOwn.never rfl (pi_list (pe_lst (pa_cons (pe_call GP hr (by rfl) gP kP bP .nil pass0 (pa_cons (pv 4) pa_nil)) (pa_cons (pe_call GN hr (by rfl) gN kN bN .nil pass0 (pa_cons (pv 4) pa_nil)) pa_nil)))) (pg_name (i := 5) scLaw.nd rfl (Or.inl rfl))
    (pss_cons hN
    (pss_cons (ps_if (pt_val (pe_callB call_isi (by rfl) T.isi (by decide +kernel) (pa_cons (pv 4) (pa_cons (pe_bltn (v := .ty "list") (by rfl) T.list (by decide +kernel) rfl) pa_nil))))
      (pss_one (ps_expr (pe_bm PySem.F.plainAttrs_list PySem.F.slot_list_append PySem.F.type_list_append mt_append (pv 4) (pa_cons pe_int pa_nil)))) pss_nil)
    (pss_cons (ps_if (pt_val (pe_callB call_isi (by rfl) T.isi (by decide +kernel) (pa_cons (pv 4) (pa_cons (pe_bltn (v := .ty "dict") (by rfl) T.dict (by decide +kernel) rfl) pa_nil))))
      (pss_one (ps_dput (hu_of hr) (pv 4) pe_str pe_int rfl)) pss_nil)
    (pss_one hR)))), ?_⟩
  intro D x0 x1 x2 x3 x5 x6 x7 x8 v lt r1 t2 k H hk hS hlt tv t1 tt2 fin
  -- both rows of errors
  refine ⟨_, rfl, v, rfl, fun l1 as1 H1 n1 e1 hl1 M1 => ?_⟩
  refine ⟨_, rfl, v, rfl, fun l2 as2 H2 n2 e2 hl2 M2 => ?_⟩
  refine ⟨by show 2 ≤ sizeLine; decide, fun le hle => ?_⟩
  have e3 := Ex.new (o := .lst [.ref l1, .ref l2]) hle
  have e123 := e1.trans (e2.trans e3)
  refine ⟨le, rfl, ⟨_, SqL.of upd_same⟩, for_list (K := K) (a := le) (xs := [.ref l1, .ref l2]) (PvE H0 (dsc C0 C1 C2 C3 C4 C5 C6 C7 C8 C9 C10) x0 x1 x2 x3 v lt r1 le l1 l2 t2 as1 as2 k)
    ⟨x5, x6, x7, x8, rfl, same_ex hS e123, e123 _ _ hlt, upd_same, tv.mono e123, t1.mono e123, tt2.mono e123, (e2.trans e3) _ _ hl1, M1.mono (e2.trans e3), e3 _ _ hl2, M2.mono e3⟩
    (fun i σ H' _ p => by obtain ⟨_, _, _, _, _, _, _, h, _⟩ := p; exact SqL.of h) ?_ ?_⟩
  · rintro j x σ H' hj ⟨y5, y6, y7, y8, rfl, cS, clt, cle, cv, c1, c2, d1, m1, d2, m2⟩
    have hj2 : j < 2 := (List.getElem?_eq_some_iff.mp hj).1
    obtain ⟨l, as, rfl, hl, M⟩ : ∃ l as, x = .ref l ∧ H' l = some (.lst (as.map V.ref)) ∧ Made H' as (dsc C0 C1 C2 C3 C4 C5 C6 C7 C8 C9 C10) v := by
      match j, hj with
      | 0, e => cases e; exact ⟨l1, as1, rfl, d1, m1⟩
      | 1, e => cases e; exact ⟨l2, as2, rfl, d2, m2⟩
      | n + 2, e => simp at e
    -- the errors one by one
    refine qN _ _ _ _ _ _ _ _ _ l as v H' hl M fun z6 z7 z8 H3 e3 => ?_
    have kk : k + j ≤ 4 := by omega
    -- behind: the thing changed, what stands
    have after : ∀ H4, Same H0 H4 → H4 lt = some (.lst [.ref r1, t2]) → H4 le = some (.lst [.ref l1, .ref l2]) → TS H0 (k + (j + 1)) H4 v → TS H0 (k + (j + 1)) H4 (.ref r1) → TS H0 (k + (j + 1)) H4 t2 → H4 l1 = some (.lst (as1.map V.ref)) → Made H4 as1 (dsc C0 C1 C2 C3 C4 C5 C6 C7 C8 C9 C10) v → H4 l2 = some (.lst (as2.map V.ref)) → Made H4 as2 (dsc C0 C1 C2 C3 C4 C5 C6 C7 C8 C9 C10) v →
        H4 l = some (.lst (as.map V.ref)) → Made H4 as (dsc C0 C1 C2 C3 C4 C5 C6 C7 C8 C9 C10) v → tR { D with nx := PvE H0 (dsc C0 C1 C2 C3 C4 C5 C6 C7 C8 C9 C10) x0 x1 x2 x3 v lt r1 le l1 l2 t2 as1 as2 k (j + 1), ct := PvE H0 (dsc C0 C1 C2 C3 C4 C5 C6 C7 C8 C9 C10) x0 x1 x2 x3 v lt r1 le l1 l2 t2 as1 as2 k (j + 1), bk := D.nx } [x0, x1, x2, x3, some v, some (.ref l), z6, z7, z8] H4 := by
      intro H4 aS alt ale av a1 a2 b1 n1 b2 n2 bl nM
      refine qR _ _ _ _ _ _ _ _ l as v H4 bl nM (av.data (by omega)) fun H5 e5 => ?_
      exact ⟨_, _, _, _, rfl, same_ex aS e5, e5 _ _ alt, e5 _ _ ale, av.mono e5, a1.mono e5, a2.mono e5, e5 _ _ b1, n1.mono e5, e5 _ _ b2, n2.mono e5⟩
    have cv' := cv.mono e3
    rcases cv'.kind (K := K) kk with ⟨q, xs, rfl, hq0, hq, hz, x, r, rfl, hx, hrl⟩ | ⟨q, kvs, rfl, hq0, hq, hz, hput⟩ | ⟨ty, hty, kb1, kb2⟩
    · -- a list: a nought behind it
      refine ⟨_, rfl, _, .ty "list", .type "list", .type "list", true, rfl, .ty _, .base (.lst hq), kit_ty (by decide +kernel), _, rfl, ?_⟩
      refine iteT ?_
      refine ⟨_, rfl, .inl ⟨rfl, _, SqL.of hq⟩, q, _, _, rfl, rfl, hq, Nat.lt_trans hz (by decide), ?_⟩
      refine ⟨_, rfl, _, .ty "dict", .type "list", .type "dict", false, rfl, .ty _, .base (.lst upd_same), kit_ty (by decide +kernel), _, rfl, ?_⟩
      refine iteF ?_
      have ne : ∀ {b a : Addr} {ws : List V}, H3 b = some (.lst (.ref a :: ws)) → b ≠ q := fun h => ne_of h hq fun z => by
        cases z
        rcases hx with z | z <;> cases z
      have ne2 : ∀ {b : Addr} {bs : List Addr}, Made H3 bs (dsc C0 C1 C2 C3 C4 C5 C6 C7 C8 C9 C10) (.ref q) → H3 b = some (.lst (bs.map V.ref)) → b ≠ q := fun {b bs} hb h => by
        cases hb with
        | cons _ _ => exact ne h
      have keep : ∀ {b : Addr} {o o' : HO}, b ≠ q → H3 b = some o → upd H3 q o' b = some o := fun n e => by rw [upd_ne n]; exact e
      have no : ∀ φ, HO.lst (x :: r) ≠ .ext φ := fun φ z => nomatch z
      exact after _ (same_upd (same_ex cS e3) hq0) (keep (ne (e3 _ _ clt)) (e3 _ _ clt)) (keep (ne (e3 _ _ cle)) (e3 _ _ cle)) (cv'.app hq) ((c1.mono e3).app hq) ((c2.mono e3).app hq)
        (keep (ne2 (m1.mono e3) (e3 _ _ d1)) (e3 _ _ d1)) ((m1.mono e3).but hq no) (keep (ne2 (m2.mono e3) (e3 _ _ d2)) (e3 _ _ d2)) ((m2.mono e3).but hq no) (keep (ne2 (M.mono e3) (e3 _ _ hl)) (e3 _ _ hl)) ((M.mono e3).but hq no)
    · -- a dict: a key put in
      refine ⟨_, rfl, _, .ty "list", .type "dict", .type "list", false, rfl, .ty _, .base (.dK hq), kit_ty (by decide +kernel), _, rfl, ?_⟩
      refine iteF ?_
      refine ⟨_, rfl, _, .ty "dict", .type "dict", .type "dict", true, rfl, .ty _, .base (.dK hq), kit_ty (by decide +kernel), _, rfl, ?_⟩
      refine iteT ?_
      refine ⟨_, rfl, q, _, rfl, DPut.k (k := Sum.inr "late") hq (small1000 (by omega)), ?_⟩
      rw [hput]
      have ne : ∀ {b : Addr} {ws : List V}, H3 b = some (.lst ws) → b ≠ q := fun h => ne_of h hq fun z => nomatch z
      have keep : ∀ {b : Addr} {ws : List V} {o' : HO}, H3 b = some (.lst ws) → upd H3 q o' b = some (.lst ws) := fun e => by rw [upd_ne (ne e)]; exact e
      have no : ∀ φ, HO.dK kvs ≠ .ext φ := fun φ z => nomatch z
      exact after _ (same_upd (same_ex cS e3) hq0) (keep (e3 _ _ clt)) (keep (e3 _ _ cle)) (cv'.put hq0 hq) ((c1.mono e3).put hq0 hq) ((c2.mono e3).put hq0 hq)
        (keep (e3 _ _ d1)) ((m1.mono e3).but hq no) (keep (e3 _ _ d2)) ((m2.mono e3).but hq no) (keep (e3 _ _ hl)) ((M.mono e3).but hq no)
    · -- anything else
      refine ⟨_, rfl, _, .ty "list", .type ty, .type "list", false, rfl, .ty _, hty, kit_ty kb1, _, rfl, ?_⟩
      refine iteF ?_
      refine ⟨_, rfl, _, .ty "dict", .type ty, .type "dict", false, rfl, .ty _, hty, kit_ty kb2, _, rfl, ?_⟩
      refine iteF ?_
      exact after _ (same_ex cS e3) (e3 _ _ clt) (e3 _ _ cle) (cv'.more (by omega)) ((c1.mono e3).more (by omega)) ((c2.mono e3).more (by omega)) (e3 _ _ d1) (m1.mono e3) (e3 _ _ d2) (m2.mono e3) (e3 _ _ hl) (M.mono e3)
  · rintro σ H' ⟨y5, y6, y7, y8, rfl, cS, clt, _, _, c1, c2, _⟩
    exact fin y5 y6 y7 y8 H' cS clt c1 c2
end
end K61
namespace K61
open PySem PySem.Spec PyProof.Rows L2 Evl
def spLaw (K : PySem.W.Frag) : Sp := fun vs H Q _ => ∃ (a : Addr) (ns : List Int), vs = [.ref a] ∧ SqL K H a (ns.map V.int) ∧ ns.length ≤ 63 ∧ (∀ z ∈ ns, Builtin.Int.intBits z ≤ 1048576) ∧ ∀ H', Q (.bl true) H'
def PvS (H0 : Hp) (a : Addr) (i : Nat) (σ : L2.St) (H : Hp) : Prop := ∃ x1 x2 x3 x4 x5 x6 x7 x8 : Option V, σ = [some (.ref a), x1, x2, x3, x4, x5, x6, x7, x8] ∧ Same H0 H
def PvT (H0 : Hp) (x0 x1 x2 x3 : Option V) (lt r1 : Addr) (t2 : V) (i : Nat) (σ : L2.St) (H : Hp) : Prop := ∃ x4 x5 x6 x7 x8 : Option V, σ = [x0, x1, x2, x3, x4, x5, x6, x7, x8] ∧ Same H0 H ∧ H lt = some (.lst [.ref r1, t2]) ∧ TS H0 (2 * i) H (.ref r1) ∧ TS H0 (2 * i) H t2
theorem TS.but {H0 H H' : Hp} {k : Nat} {p : Addr} {o m : Int} {v : V} (hp : H p = some (.lst [.int o, .int m])) (b : But p H H') (n : ∀ q m', v = .ref q → H q = some (.lst (.int 5 :: List.replicate m' (.int 0))) → q ≠ p) (h : TS H0 k H v) : TS H0 k H' v := by
  cases h with
  | five h1 h2 h3 => exact .five h1 h2 (b _ _ h3 (n _ _ rfl h3))
  | two h1 h2 h3 => exact .two h1 h2 (b _ _ h3 (ne_of h3 hp (fun z => by cases z)))
  | dct h1 h3 => exact .dct h1 (b _ _ h3 (ne_of h3 hp (fun z => nomatch z)))
  | late h1 h3 => exact .late h1 (b _ _ h3 (ne_of h3 hp (fun z => nomatch z)))
  | tup h3 => exact .tup (b _ _ h3 (ne_of h3 hp (fun z => nomatch z)))
  | non => exact .non
  | x => exact .x
  | tru => exact .tru
  | int a b => exact .int a b
section
variable {P : Program} {w : World} {K : PySem.W.Frag} {mg : Str → Option Value} {base : Heap} {fe C0 C1 C2 C3 C4 C5 C6 C7 C8 C9 C10 : Addr}
theorem ok_law {f : Addr} {fd : FuncData} (F : Fun K "law" "law" sLaw f fd) (S : ErrS P w K mg base fe C0 C1 C2 C3 C4 C5 C6 C7 C8 C9 C10) (T : TxL mg) (G : GsL P w K mg base (dsc C0 C1 C2 C3 C4 C5 C6 C7 C8 C9 C10)) : FnOkG P w K mg base CX0 6 f fd ["script"] (spLaw K) := by
  obtain ⟨fS, fdS, GS, kS, bS, gS⟩ := G.source
  obtain ⟨fD, fdD, GD, kD, bD, gD⟩ := G.draw
  obtain ⟨fP, fdP, GP, kP, bP, gP⟩ := G.pick
  refine F.okG scLaw (fun vs H Q E h => ?_) (fun cdv A outer s H vs Q E hr hG h => ?_)
  · obtain ⟨a, ns, rfl, _⟩ := h
    rfl
  · obtain ⟨a, ns, rfl, hS, hlen, hbits, k⟩ := h
    have hr4 : Room 4 _ := hr.mono (by decide)
    have hr2 : Room 2 _ := hr.mono (by decide)
    have hr1 : Room 1 _ := hr.mono (by decide)
    obtain ⟨tE, hE, qE⟩ := blkE (outer := outer) (s := s) (H0 := H) (E := E) (cdv := cdv) (f := f) (A := A) S T G hr4 hG
    refine ⟨_, pss_cons (ps_for PassesOwn.never rfl (pi_range1 rfl T.range (pa_cons (pe_callB (call_max2 rfl) (by rfl) T.max (by decide +kernel) (pa_cons pe_int (pa_cons (pe_callB (call_min2 rfl) (by rfl) T.min (by decide +kernel) (pa_cons pe_int (pa_cons (pe_callB call_len_seq (by rfl) T.len PySem.boot_len (pa_cons (pv 0) pa_nil)) pa_nil))) pa_nil))) pa_nil)) (pg_name (i := 1) scLaw.nd rfl (Or.inl rfl))
        (pss_cons (ps_set (i := 2) scLaw.nd rfl (Or.inl rfl) (pe_call GS hr1 (by rfl) gS kS bS .nil pass0 (pa_cons (pv 0) (pa_cons (pv 1) pa_nil))))
        (pss_cons (ps_set (i := 3) scLaw.nd rfl (Or.inl rfl) (pe_lst (pa_cons (pe_lst (pa_cons pe_int pa_nil)) (pa_cons (pe_lst (pa_cons pe_str (pa_cons pe_non pa_nil))) (pa_cons (pe_disp (pps_cons pe_str pe_int pps_nil) (by rfl) (by rfl) (fun z => by cases z) (by decide)) (pa_cons pe_non (pa_cons pe_str (pa_cons (pe_tup (pa_cons pe_int pa_nil)) (pa_cons pe_bl (pa_cons (pe_op op_sub pe_int pe_int) (pa_cons (pe_call GD hr1 (by rfl) gD kD bD .nil pass0 (pa_cons (pv 2) (pa_cons pe_int pa_nil))) pa_nil)))))))))))
        (pss_one (ps_for PassesOwn.never rfl (pi_list (pe_lst (pa_cons (pe_call GP hr2 (by rfl) gP kP bP .nil pass0 (pa_cons (pv 2) (pa_cons (pe_slice sl_list (pv 3) po_none (po_some pe_int)) pa_nil))) (pa_cons (pe_call GP hr2 (by rfl) gP kP bP .nil pass0 (pa_cons (pv 2) (pa_cons (pv 3) pa_nil))) pa_nil)))) (pg_name (i := 4) scLaw.nd rfl (Or.inl rfl)) (pss_one hE))))))
      (pss_one (ps_ret pe_bl)), ?_⟩
    have hL : ((ns.map V.int).length : Int) ≤ 63 := by rw [List.length_map]; omega
    refine ⟨_, rfl, a, _, rfl, .inl hS, _, _, rfl, _, _, rfl, _, rfl, ?b1, ?b2, for_range (lo := 0) (n := Int.toNat _) (PvS H a) ⟨none, none, none, none, none, none, none, none, rfl, fun _ _ e => e⟩ ?_ ?_⟩
    case b1 => repeat' split
               all_goals omega
    case b2 => repeat' split
               all_goals omega
    · rintro i σ H1 hi ⟨x1, x2, x3, x4, x5, x6, x7, x8, rfl, s1⟩
      have hi4 : (i : Int) < 4 := by
        revert hi
        repeat' split
        all_goals (intro hi; omega)
      -- source
      refine ⟨_, rfl, _, rfl, a, ns, _, rfl, s1.seq hS, hlen, hbits, by omega, by omega, fun ps H2 nps S2 s2 => ?_⟩
      obtain ⟨o, m, hps, o0, m0, m1⟩ := id S2
      have s12 : Same H H2 := fun b u e => s2 b u (s1 b u e)
      have n0 : H ps = none := s1.free nps
      -- the things
      refine ⟨by show 1 ≤ sizeLine; decide, fun q5 h5 => ?_⟩
      refine ⟨by show 2 ≤ sizeLine; decide, fun q2 h2 => ?_⟩
      refine fun qd hd => ?_
      refine ⟨upd_same, [(.inr "a", .int 1)], rfl, by decide, ?_⟩
      refine ⟨by show 1 ≤ sizeLine; decide, fun q6 h6 => ?_⟩
      have e5 := Ex.new (o := .lst [.int 5]) h5
      have e2 := Ex.new (o := .lst [.str "a", .non]) h2
      have ed := (Ex.new (o := .dK []) hd)
      have mk : mergeK ([] : List (Key × V)) [(.inr "a", .int 1)] = [(.inr "a", .int 1)] := by decide +kernel
      have ed' : Ex (upd (upd H2 q5 (.lst [.int 5])) q2 (.lst [.str "a", .non])) (upd (upd (upd (upd H2 q5 (.lst [.int 5])) q2 (.lst [.str "a", .non])) qd (.dK [])) qd (.dK (mergeK [] [(.inr "a", .int 1)]))) := by
        rw [upd_upd]
        exact Ex.new hd
      have e6 := Ex.new (o := .tup [.int 1]) h6
      have a5 := e6 _ _ (ed' _ _ (e2 _ _ (upd_same (H := H2) (a := q5) (o := .lst [.int 5]))))
      have a2 := e6 _ _ (ed' _ _ (upd_same (H := upd H2 q5 (.lst [.int 5])) (a := q2) (o := .lst [.str "a", .non])))
      have ad := e6 _ _ (upd_same (H := upd (upd (upd H2 q5 (.lst [.int 5])) q2 (.lst [.str "a", .non])) qd (.dK [])) (a := qd) (o := .dK (mergeK [] [(.inr "a", .int 1)])))
      have a6 := upd_same (H := upd (upd (upd (upd H2 q5 (.lst [.int 5])) q2 (.lst [.str "a", .non])) qd (.dK [])) qd (.dK (mergeK [] [(.inr "a", .int 1)]))) (a := q6) (o := .tup [.int 1])
      have ex26 := e5.trans (e2.trans (ed'.trans e6))
      have aps := ex26 _ _ hps
      have s6 := same_ex s12 ex26
      rw [mk] at ad
      -- none of them stood ahead of the law, none is the source
      have f5 : H2 q5 = none := h5
      have f2 : H2 q2 = none := fresh_back e5 h2
      have fd' : H2 qd = none := fresh_back (e5.trans e2) hd
      have k5 : H q5 = none := s12.free f5
      have k2 : H q2 = none := s12.free f2
      have kd : H qd = none := s12.free fd'
      have p5 : q5 ≠ ps := (ne_of_none hps f5).symm
      -- 0 - 3, and a draw
      refine ⟨_, _, rfl, rfl, _, rfl, ps, 60, rfl, ⟨o, m, aps, o0, m0, m1⟩, by decide, by decide, fun r H7 r0 r1 S7 B7 => ?_⟩
      have p2 : q2 ≠ ps := ne_of a2 aps (fun z => by cases z)
      have pd : qd ≠ ps := ne_of ad aps (fun z => nomatch z)
      have p6 : q6 ≠ ps := ne_of a6 aps (fun z => nomatch z)
      have b5 := B7 _ _ a5 p5
      have b2 := B7 _ _ a2 p2
      have bd := B7 _ _ ad pd
      have b6 := B7 _ _ a6 p6
      have s7 : Same H H7 := fun b u e => B7 b u (s6 b u e) (ne_of_none e n0)
      refine ⟨by show 9 ≤ sizeLine; decide, fun pm hpm => ?_⟩
      have e7 := Ex.new (o := .lst [.ref q5, .ref q2, .ref qd, .non, .str "x", .ref q6, .bl true, .int (0 - 3), .int r]) hpm
      obtain ⟨o7, m7, hp7, o70, m70, m71⟩ := id S7
      -- the first of two picks: one of the three that can change
      refine ⟨_, rfl, _, rfl, 3, rfl, pm, _, rfl, SqL.of upd_same, fun pt hpt => ?_⟩
      have e8 := Ex.new (o := .lst [.ref q5, .ref q2, .ref qd]) hpt
      have e78 := e7.trans e8
      have np : pt ≠ ps := (ne_of_none (e7 _ _ hp7) hpt).symm
      refine ⟨ps, pt, [.ref q5, .ref q2, .ref qd], rfl, ⟨o7, m7, e78 _ _ hp7, o70, m70, m71⟩, upd_same, np, fun z => (by cases z), by show 3 < 1000; decide, fun i1 v1 H9 hv1 S9 B9 => ?_⟩
      -- the second one: any
      have nm : pm ≠ ps := (ne_of_none hp7 hpm).symm
      refine ⟨_, rfl, _, rfl, ps, pm, _, rfl, S9, B9 _ _ (e8 _ _ upd_same) nm, nm, fun z => (by cases z), by show 9 < 1000; decide, fun i2 v2 H10 hv2 S10 B10 => ?_⟩
      refine ⟨by show 2 ≤ sizeLine; decide, fun lt hlt => ?_⟩
      have e10 := Ex.new (o := .lst [v1, v2]) hlt
      have keep : ∀ {q : Addr} {u : HO}, H7 q = some u → q ≠ ps → upd H10 lt (.lst [v1, v2]) q = some u := fun h n => e10 _ _ (B10 _ _ (B9 _ _ (e78 _ _ h) n) n)
      have s10 : Same H (upd H10 lt (.lst [v1, v2])) := fun b u e => keep (s7 b u e) (ne_of_none e n0)
      have t5 : TS H 0 (upd H10 lt (.lst [v1, v2])) (.ref q5) := .five (m := 0) k5 (Nat.le_refl 0) (keep b5 p5)
      have t2 : TS H 0 (upd H10 lt (.lst [v1, v2])) (.ref q2) := .two (m := 0) k2 (Nat.le_refl 0) (keep b2 p2)
      have td : TS H 0 (upd H10 lt (.lst [v1, v2])) (.ref qd) := .dct kd (keep bd pd)
      have t6 : TS H 0 (upd H10 lt (.lst [v1, v2])) (.ref q6) := .tup (keep b6 p6)
      obtain ⟨ra, ev1, tv1⟩ : ∃ ra, v1 = .ref ra ∧ TS H 0 (upd H10 lt (.lst [v1, v2])) (.ref ra) := by
        match i1, hv1 with
        | 0, e => exact ⟨q5, (Option.some.inj e).symm, t5⟩
        | 1, e => exact ⟨q2, (Option.some.inj e).symm, t2⟩
        | 2, e => exact ⟨qd, (Option.some.inj e).symm, td⟩
        | n + 3, e => simp at e
      have tv2 : TS H 0 (upd H10 lt (.lst [v1, v2])) v2 := by
        skip
        generalize upd H10 lt (.lst [v1, v2]) = HF at t5 t2 td t6 ⊢
        match i2, hv2 with
        | 0, e => rw [← Option.some.inj e]; exact t5
        | 1, e => rw [← Option.some.inj e]; exact t2
        | 2, e => rw [← Option.some.inj e]; exact td
        | 3, e => rw [← Option.some.inj e]; exact .non
        | 4, e => rw [← Option.some.inj e]; exact .x
        | 5, e => rw [← Option.some.inj e]; exact t6
        | 6, e => rw [← Option.some.inj e]; exact .tru
        | 7, e => rw [← Option.some.inj e]; exact .int (by decide) (by decide)
        | 8, e => rw [← Option.some.inj e]; exact .int (by omega) r1
        | n + 9, e => simp at e
      subst ev1
      refine ⟨lt, rfl, ⟨_, SqL.of upd_same⟩, for_list (K := K) (a := lt) (xs := [.ref ra, v2]) (PvT H (some (.ref a)) (some (.int (0 + (i : Int)))) (some (.ref ps)) (some (.ref pm)) lt ra v2) ⟨x4, x5, x6, x7, x8, rfl, s10, upd_same, tv1, tv2⟩ (fun j σ H' _ p => by obtain ⟨_, _, _, _, _, _, _, h, _⟩ := p; exact SqL.of h) ?_ ?_⟩
      · rintro j x σ H' hj ⟨y4, y5, y6, y7, y8, rfl, cS, clt, c1, c2⟩
        have hj2 : j < 2 := (List.getElem?_eq_some_iff.mp hj).1
        have cx : TS H (2 * j) H' x := by
          match j, hj with
          | 0, e => rw [← Option.some.inj e]; exact c1
          | 1, e => rw [← Option.some.inj e]; exact c2
          | n + 2, e => simp at e
        exact qE _ _ _ _ _ _ _ _ _ x lt ra v2 (2 * j) H' (by omega) cS clt cx c1 c2 fun z5 z6 z7 z8 H'' dS dlt d1 d2 => ⟨_, z5, z6, z7, z8, rfl, dS, dlt, d1, d2⟩
      · rintro σ H' ⟨y4, y5, y6, y7, y8, rfl, cS, _⟩
        exact ⟨_, _, _, _, _, _, _, _, rfl, cS⟩
    · rintro σ H1 ⟨x1, x2, x3, x4, x5, x6, x7, x8, rfl, s1⟩
      exact k H1
end
end K61
namespace K61
open PySem PySem.Spec PyProof.Rows L2 Evl
/-- what the top has left of an error's class and its __init__ -/
structure ErrH (K : PySem.W.Frag) (nm q fld : Str) (st : Stmt) (fe C fI : Addr) : Prop where
  aC : PySem.W.nsIn K mainGlobals nm = some (some (.ref C))
  xL : ∃ n' q' N bs sn sub ab col dd k0 k1 k2 k3 k5, K.lookup C = some (excClassObj n' q' C N bs [.ref fe, .type "ValueError", .type "Exception", .type "BaseException", .type "object"] true sn sub ab col dd k0 k1 k2 k3 k5 "ValueError.__new__")
  sa : PySem.W.findIn K (.ref C) "__setattr__" = some (some (.builtin "object.__setattr__"))
  ga : PySem.W.findIn K (.ref C) "__getattribute__" = some (some (.builtin "BaseException.__getattribute__"))
  gg : PySem.W.findIn K (.ref C) "__getattr__" = some none
  no : PySem.W.findIn K (.ref C) fld = some none
  ha : PySem.W.findIn K (.ref C) "__class__" = some (some (.builtin "object.__class__"))
  iC : PySem.W.findIn K (.ref C) "__init__" = some (some (.ref fI))
  tI : PySem.W.typeIn K (.ref fI) = some (.type "function")
  fn : ∃ (oc : Value) (od : Option Addr) (kV dc pm : Value) (an : Option Addr) (cd ct : Value) (sl : Array (Option Value)), K.lookup fI = some ⟨oc, od, .func (PySem.W.fnOf "__init__" q (defArgs st) (defBody st) (defScope st) .none kV dc pm an cd ct), sl⟩ ∧ PySem.W.codeIn K cd q = true
  kf : PySem.W.keepIn K (.ref fI) = true
  kC : PySem.W.keepIn K (.ref C) = true
  eC : PySem.W.subIn K (.ref C) (.type "BaseException") = some true
  tC : PySem.W.typeIn K (.ref C) = some (.type "type")
  hC : PySem.W.hasDictIn K C = true
  mC : PySem.W.mroIn K C (.type "object") = some true
theorem xL_mk {K : PySem.W.Frag} {fe C : Addr} {n' q' : Str} {N : Addr} {bs : List Value} {sn : List Str} {sub : List Value} {ab : Bool} {col : Option Bool} {dd : Option Addr} {k0 k1 k2 k3 k5 : Option Value} (h : K.lookup C = some (excClassObj n' q' C N bs [.ref fe, .type "ValueError", .type "Exception", .type "BaseException", .type "object"] true sn sub ab col dd k0 k1 k2 k3 k5 "ValueError.__new__")) :
    ∃ n' q' N bs sn sub ab col dd k0 k1 k2 k3 k5, K.lookup C = some (excClassObj n' q' C N bs [.ref fe, .type "ValueError", .type "Exception", .type "BaseException", .type "object"] true sn sub ab col dd k0 k1 k2 k3 k5 "ValueError.__new__") := ⟨n', q', N, bs, sn, sub, ab, col, dd, k0, k1, k2, k3, k5, h⟩
theorem fn_mk {K : PySem.W.Frag} {f : Addr} {nm q : Str} {st : Stmt} {oc : Value} {od : Option Addr} {kV dc pm : Value} {an : Option Addr} {cd ct : Value} {sl : Array (Option Value)} (h : K.lookup f = some ⟨oc, od, .func (PySem.W.fnOf nm q (defArgs st) (defBody st) (defScope st) .none kV dc pm an cd ct), sl⟩) (c : PySem.W.codeIn K cd q = true) :
    ∃ (oc : Value) (od : Option Addr) (kV dc pm : Value) (an : Option Addr) (cd ct : Value) (sl : Array (Option Value)), K.lookup f = some ⟨oc, od, .func (PySem.W.fnOf nm q (defArgs st) (defBody st) (defScope st) .none kV dc pm an cd ct), sl⟩ ∧ PySem.W.codeIn K cd q = true := ⟨oc, od, kV, dc, pm, an, cd, ct, sl, h, c⟩
theorem ErrH.toC {K : PySem.W.Frag} {mg : Str → Option Value} {h : Heap} {nm q fld : Str} {st : Stmt} {fe C fI : Addr} (X : K.In h) (G : h.Ns mainGlobals mg) (e : ErrH K nm q fld st fe C fI) (hn : PySem.W.specialIn K (.builtin "object.__class__") "__get__" = some (some (.builtin "getset_descriptor.__get__"))) (ht : PySem.W.takesIn K (.builtin "object.__class__") = some true) : ErrC K mg fe nm fld C := by
  obtain ⟨n', q', N, bs, sn, sub, ab, col, dd, k0, k1, k2, k3, k5, hL⟩ := e.xL
  have hcl : PySem.W.clsIn K C = some { name := n', bases := bs, mro := .ref C :: [.ref fe, .type "ValueError", .type "Exception", .type "BaseException", .type "object"], ns := N, qualname := q', hasDict := true, slotNames := sn, subclasses := sub, abstract := ab, collection := col, hasDel := false } := by unfold PySem.W.clsIn; rw [hL] <;> rfl
  exact { gC := PySem.W.mg_of X G e.aC, ox := ⟨⟨n', q', N, bs, _, sn, sub, ab, col, dd, k0, k1, k2, k3, k5, hL, rfl⟩, e.sa, e.eC, e.tC, e.kC⟩, no := e.no, xf := ⟨e.ga, e.gg, e.eC, e.hC⟩, ei := ⟨by rw [hcl]; rfl, e.ga, e.gg, e.eC, e.ha, hn, ht, e.mC⟩, cd := ⟨_, hcl, rfl⟩ }
/-- a def as the top has left it -/
structure DefH (K : PySem.W.Frag) (nm : Str) (st : Stmt) (f : Addr) : Prop where
  a : PySem.W.nsIn K mainGlobals nm = some (some (.ref f))
  fn : ∃ (oc : Value) (od : Option Addr) (kV dc pm : Value) (an : Option Addr) (cd ct : Value) (sl : Array (Option Value)), K.lookup f = some ⟨oc, od, .func (PySem.W.fnOf nm nm (defArgs st) (defBody st) (defScope st) .none kV dc pm an cd ct), sl⟩ ∧ PySem.W.codeIn K cd nm = true
  k : PySem.W.keepIn K (.ref f) = true

theorem all_mk {l : PySem.W.OpenLaw} {w : World} {K : PySem.W.Frag} {h : Heap} {mg : Str → Option Value} {fa fe C0 C1 C2 C3 C4 C5 C6 C7 C8 C9 C10 i0 i1 i2 i3 i4 i5 i6 i7 i8 i9 i10 fSource fDraw fPick fKinds fPlace fName fStored fLaw : Addr} (X : K.In h) (G : h.Ns mainGlobals mg) (hfa : mg "law" = some (.ref fa))
    (aF : PySem.W.nsIn K mainGlobals "FormError" = some (some (.ref fe))) (cF : PySem.W.isClsIn K fe = true) (tF : PySem.W.typeIn K (.ref fe) = some (.type "type"))
    (e0 : ErrH K "BadSigns" "BadSigns.__init__" "value" sIBadSigns fe C0 i0)
    (e1 : ErrH K "BadTree" "BadTree.__init__" "value" sIBadTree fe C1 i1)
    (e2 : ErrH K "BadForm" "BadForm.__init__" "value" sIBadForm fe C2 i2)
    (e3 : ErrH K "BadValues" "BadValues.__init__" "value" sIBadValues fe C3 i3)
    (e4 : ErrH K "HasMore" "HasMore.__init__" "value" sIHasMore fe C4 i4)
    (e5 : ErrH K "NotThere" "NotThere.__init__" "value" sINotThere fe C5 i5)
    (e6 : ErrH K "BadText" "BadText.__init__" "value" sIBadText fe C6 i6)
    (e7 : ErrH K "BadForms" "BadForms.__init__" "position" sIBadForms fe C7 i7)
    (e8 : ErrH K "NotPlain" "NotPlain.__init__" "position" sINotPlain fe C8 i8)
    (e9 : ErrH K "BadCondition" "BadCondition.__init__" "position" sIBadCondition fe C9 i9)
    (e10 : ErrH K "TooFar" "TooFar.__init__" "count" sITooFar fe C10 i10)
    (dSource : DefH K "_law_source" sSource fSource)
    (dDraw : DefH K "_law_draw" sDraw fDraw)
    (dPick : DefH K "_law_pick" sPick fPick)
    (dKinds : DefH K "_law_kinds" sKinds fKinds)
    (dPlace : DefH K "_law_by_place" sPlace fPlace)
    (dName : DefH K "_law_by_name" sName fName)
    (dStored : DefH K "_law_stored" sStored fStored)
    (dLaw : DefH K "law" sLaw fLaw)
    (hn : PySem.W.specialIn K (.builtin "object.__class__") "__get__" = some (some (.builtin "getset_descriptor.__get__"))) (ht : PySem.W.takesIn K (.builtin "object.__class__") = some true)
    (zint : PySem.W.nsIn K mainGlobals "int" = some none) (zrange : PySem.W.nsIn K mainGlobals "range" = some none) (zmax : PySem.W.nsIn K mainGlobals "max" = some none) (zmin : PySem.W.nsIn K mainGlobals "min" = some none) (zlen : PySem.W.nsIn K mainGlobals "len" = some none) (zenumerate : PySem.W.nsIn K mainGlobals "enumerate" = some none) (zisinstance : PySem.W.nsIn K mainGlobals "isinstance" = some none) (zrepr : PySem.W.nsIn K mainGlobals "repr" = some none) (zlist : PySem.W.nsIn K mainGlobals "list" = some none) (zdict : PySem.W.nsIn K mainGlobals "dict" = some none) (zValueError : PySem.W.nsIn K mainGlobals "ValueError" = some none)
    (nF : C0 ≠ fe ∧ C1 ≠ fe ∧ C2 ≠ fe ∧ C3 ≠ fe ∧ C4 ≠ fe ∧ C5 ≠ fe ∧ C6 ≠ fe ∧ C7 ≠ fe ∧ C8 ≠ fe ∧ C9 ≠ fe ∧ C10 ≠ fe) (nd : ([C0, C1, C2, C3, C4, C5, C6, C7, C8, C9, C10] : List Addr).Nodup) :
    ∃ fd : FuncData, (∀ (s : Shared) (v : Value), BindsTo s fd ⟨[v], []⟩ [("script", v)]) ∧ ∀ base : Heap, K.In base → base.Ns mainGlobals mg → FnOkG l.prog w K mg base CX0 6 fa fd ["script"] (spLaw K) := by
  have e := hfa.symm.trans (PySem.W.mg_of X G dLaw.a)
  cases e
  obtain ⟨ocSource, odSource, kVSource, dcSource, pmSource, anSource, cdSource, ctSource, slSource, lSource, cSource⟩ := dSource.fn
  have FSource := fun_mk (st := sSource) lSource cSource dSource.k
  have bSource := FSource.binds (ps := ["script", "start"]) fun _ _ _ _ _ _ us hl => match us, hl with | [_, _], _ => rfl
  have gSource := PySem.W.mg_of X G dSource.a
  obtain ⟨ocDraw, odDraw, kVDraw, dcDraw, pmDraw, anDraw, cdDraw, ctDraw, slDraw, lDraw, cDraw⟩ := dDraw.fn
  have FDraw := fun_mk (st := sDraw) lDraw cDraw dDraw.k
  have bDraw := FDraw.binds (ps := ["source", "span"]) fun _ _ _ _ _ _ us hl => match us, hl with | [_, _], _ => rfl
  have gDraw := PySem.W.mg_of X G dDraw.a
  obtain ⟨ocPick, odPick, kVPick, dcPick, pmPick, anPick, cdPick, ctPick, slPick, lPick, cPick⟩ := dPick.fn
  have FPick := fun_mk (st := sPick) lPick cPick dPick.k
  have bPick := FPick.binds (ps := ["source", "things"]) fun _ _ _ _ _ _ us hl => match us, hl with | [_, _], _ => rfl
  have gPick := PySem.W.mg_of X G dPick.a
  obtain ⟨ocKinds, odKinds, kVKinds, dcKinds, pmKinds, anKinds, cdKinds, ctKinds, slKinds, lKinds, cKinds⟩ := dKinds.fn
  have FKinds := fun_mk (st := sKinds) lKinds cKinds dKinds.k
  have bKinds := FKinds.binds (ps := ["error"]) fun _ _ _ _ _ _ us hl => match us, hl with | [_], _ => rfl
  have gKinds := PySem.W.mg_of X G dKinds.a
  obtain ⟨ocPlace, odPlace, kVPlace, dcPlace, pmPlace, anPlace, cdPlace, ctPlace, slPlace, lPlace, cPlace⟩ := dPlace.fn
  have FPlace := fun_mk (st := sPlace) lPlace cPlace dPlace.k
  have bPlace := FPlace.binds (ps := ["thing"]) fun _ _ _ _ _ _ us hl => match us, hl with | [_], _ => rfl
  have gPlace := PySem.W.mg_of X G dPlace.a
  obtain ⟨ocName, odName, kVName, dcName, pmName, anName, cdName, ctName, slName, lName, cName⟩ := dName.fn
  have FName := fun_mk (st := sName) lName cName dName.k
  have bName := FName.binds (ps := ["thing"]) fun _ _ _ _ _ _ us hl => match us, hl with | [_], _ => rfl
  have gName := PySem.W.mg_of X G dName.a
  obtain ⟨ocStored, odStored, kVStored, dcStored, pmStored, anStored, cdStored, ctStored, slStored, lStored, cStored⟩ := dStored.fn
  have FStored := fun_mk (st := sStored) lStored cStored dStored.k
  have bStored := FStored.binds (ps := ["errors"]) fun _ _ _ _ _ _ us hl => match us, hl with | [_], _ => rfl
  have gStored := PySem.W.mg_of X G dStored.a
  obtain ⟨ocLaw, odLaw, kVLaw, dcLaw, pmLaw, anLaw, cdLaw, ctLaw, slLaw, lLaw, cLaw⟩ := dLaw.fn
  have FLaw := fun_mk (st := sLaw) lLaw cLaw dLaw.k
  have gLaw := PySem.W.mg_of X G dLaw.a
  obtain ⟨_, _, _, _, _, _, _, _, _, m0, c0⟩ := e0.fn
  have F0 := fun_mk (st := sIBadSigns) m0 c0 e0.kf
  have b0 := F0.binds (ps := ["self", "value"]) fun _ _ _ _ _ _ us hl => match us, hl with | [_, _], _ => rfl
  obtain ⟨_, _, _, _, _, _, _, _, _, m1, c1⟩ := e1.fn
  have F1 := fun_mk (st := sIBadTree) m1 c1 e1.kf
  have b1 := F1.binds (ps := ["self", "value"]) fun _ _ _ _ _ _ us hl => match us, hl with | [_, _], _ => rfl
  obtain ⟨_, _, _, _, _, _, _, _, _, m2, c2⟩ := e2.fn
  have F2 := fun_mk (st := sIBadForm) m2 c2 e2.kf
  have b2 := F2.binds (ps := ["self", "value"]) fun _ _ _ _ _ _ us hl => match us, hl with | [_, _], _ => rfl
  obtain ⟨_, _, _, _, _, _, _, _, _, m3, c3⟩ := e3.fn
  have F3 := fun_mk (st := sIBadValues) m3 c3 e3.kf
  have b3 := F3.binds (ps := ["self", "value"]) fun _ _ _ _ _ _ us hl => match us, hl with | [_, _], _ => rfl
  obtain ⟨_, _, _, _, _, _, _, _, _, m4, c4⟩ := e4.fn
  have F4 := fun_mk (st := sIHasMore) m4 c4 e4.kf
  have b4 := F4.binds (ps := ["self", "value"]) fun _ _ _ _ _ _ us hl => match us, hl with | [_, _], _ => rfl
  obtain ⟨_, _, _, _, _, _, _, _, _, m5, c5⟩ := e5.fn
  have F5 := fun_mk (st := sINotThere) m5 c5 e5.kf
  have b5 := F5.binds (ps := ["self", "value"]) fun _ _ _ _ _ _ us hl => match us, hl with | [_, _], _ => rfl
  obtain ⟨_, _, _, _, _, _, _, _, _, m6, c6⟩ := e6.fn
  have F6 := fun_mk (st := sIBadText) m6 c6 e6.kf
  have b6 := F6.binds (ps := ["self", "value"]) fun _ _ _ _ _ _ us hl => match us, hl with | [_, _], _ => rfl
  obtain ⟨_, _, _, _, _, _, _, _, _, m7, c7⟩ := e7.fn
  have F7 := fun_mk (st := sIBadForms) m7 c7 e7.kf
  have b7 := F7.binds (ps := ["self", "position"]) fun _ _ _ _ _ _ us hl => match us, hl with | [_, _], _ => rfl
  obtain ⟨_, _, _, _, _, _, _, _, _, m8, c8⟩ := e8.fn
  have F8 := fun_mk (st := sINotPlain) m8 c8 e8.kf
  have b8 := F8.binds (ps := ["self", "position"]) fun _ _ _ _ _ _ us hl => match us, hl with | [_, _], _ => rfl
  obtain ⟨_, _, _, _, _, _, _, _, _, m9, c9⟩ := e9.fn
  have F9 := fun_mk (st := sIBadCondition) m9 c9 e9.kf
  have b9 := F9.binds (ps := ["self", "position"]) fun _ _ _ _ _ _ us hl => match us, hl with | [_, _], _ => rfl
  obtain ⟨_, _, _, _, _, _, _, _, _, m10, c10⟩ := e10.fn
  have F10 := fun_mk (st := sITooFar) m10 c10 e10.kf
  have b10 := F10.binds (ps := ["self", "count"]) fun _ _ _ _ _ _ us hl => match us, hl with | [_, _], _ => rfl
  refine ⟨PySem.W.fnOf "law" "law" (defArgs sLaw) (defBody sLaw) (defScope sLaw) .none kVLaw dcLaw pmLaw anLaw cdLaw ctLaw, fun s v => .of_eq rfl, fun base hK hN => ?_⟩
  obtain ⟨y0, y1, y2, y3, y4, y5, y6, y7, y8, y9, y10⟩ := nF
  have S : ErrS l.prog w K mg base fe C0 C1 C2 C3 C4 C5 C6 C7 C8 C9 C10 := {
    e0 := { toErrC := e0.toC X G hn ht, mkI := ⟨i0, _, e0.iC, e0.tI, okIBadSigns F0, b0, fun s u v => .of_eq rfl⟩ }
    e1 := { toErrC := e1.toC X G hn ht, mkI := ⟨i1, _, e1.iC, e1.tI, okIBadTree F1, b1, fun s u v => .of_eq rfl⟩ }
    e2 := { toErrC := e2.toC X G hn ht, mkI := ⟨i2, _, e2.iC, e2.tI, okIBadForm F2, b2, fun s u v => .of_eq rfl⟩ }
    e3 := { toErrC := e3.toC X G hn ht, mkI := ⟨i3, _, e3.iC, e3.tI, okIBadValues F3, b3, fun s u v => .of_eq rfl⟩ }
    e4 := { toErrC := e4.toC X G hn ht, mkI := ⟨i4, _, e4.iC, e4.tI, okIHasMore F4, b4, fun s u v => .of_eq rfl⟩ }
    e5 := { toErrC := e5.toC X G hn ht, mkI := ⟨i5, _, e5.iC, e5.tI, okINotThere F5, b5, fun s u v => .of_eq rfl⟩ }
    e6 := { toErrC := e6.toC X G hn ht, mkI := ⟨i6, _, e6.iC, e6.tI, okIBadText F6, b6, fun s u v => .of_eq rfl⟩ }
    e7 := { toErrC := e7.toC X G hn ht, mkI := ⟨i7, _, e7.iC, e7.tI, okIBadForms F7, b7, fun s u v => .of_eq rfl⟩ }
    e8 := { toErrC := e8.toC X G hn ht, mkI := ⟨i8, _, e8.iC, e8.tI, okINotPlain F8, b8, fun s u v => .of_eq rfl⟩ }
    e9 := { toErrC := e9.toC X G hn ht, mkI := ⟨i9, _, e9.iC, e9.tI, okIBadCondition F9, b9, fun s u v => .of_eq rfl⟩ }
    e10 := { toErrC := e10.toC X G hn ht, mkI := ⟨i10, _, e10.iC, e10.tI, okITooFar F10, b10, fun s u v => .of_eq rfl⟩ }
    n0 := y0
    n1 := y1
    n2 := y2
    n3 := y3
    n4 := y4
    n5 := y5
    n6 := y6
    n7 := y7
    n8 := y8
    n9 := y9
    n10 := y10
    nd := nd
    fc := cF
    ft := tF
    gF := PySem.W.mg_of X G aF
    iB := PySem.W.mg_none_of X G zisinstance }
  have T : TxL mg := ⟨PySem.W.mg_none_of X G zrange, PySem.W.mg_none_of X G zmax, PySem.W.mg_none_of X G zmin, PySem.W.mg_none_of X G zlen, PySem.W.mg_none_of X G zenumerate, PySem.W.mg_none_of X G zisinstance, PySem.W.mg_none_of X G zrepr, PySem.W.mg_none_of X G zlist, PySem.W.mg_none_of X G zdict, PySem.W.mg_none_of X G zValueError⟩
  have TB : TxB mg := ⟨PySem.W.mg_none_of X G zint, PySem.W.mg_none_of X G zlen⟩
  have GL : GsL l.prog w K mg base (dsc C0 C1 C2 C3 C4 C5 C6 C7 C8 C9 C10) := {
    kinds := ⟨_, _, ok_kinds FKinds S, dKinds.k, bKinds, gKinds⟩
    stored := ⟨_, _, ok_stored FStored S, dStored.k, bStored, gStored⟩
    place := ⟨_, _, ok_place FPlace S, dPlace.k, bPlace, gPlace⟩
    name := ⟨_, _, ok_name FName S, dName.k, bName, gName⟩
    source := ⟨_, _, ok_source FSource TB, dSource.k, bSource, gSource⟩
    draw := ⟨_, _, ok_draw FDraw TB, dDraw.k, bDraw, gDraw⟩
    pick := ⟨_, _, ok_pick FPick TB FDraw bDraw gDraw, dPick.k, bPick, gPick⟩ }
  exact ok_law FLaw S T GL
theorem walk {l : PySem.W.OpenLaw} {q : Program} {loose : List Str} {XP : (Str → Option Value) → Heap → Prop} {YP : World → Heap → Prop} {d : DefRec} {K : Params → PySem.W.Frag} (hn : l.most = some 63) (hdf : d.params.defaults = [])
    (hY : ∀ (w : World) (h : Heap), YP w h → (K w.params).In h)
    (F : ∀ (w : World) (mg : Str → Option Value) (fa : Addr) (h : Heap), (K w.params).In h → h.Ns mainGlobals mg → mg d.name = some (.ref fa) →
      ∃ fd : FuncData, (∀ (s : Shared) (u : Value), BindsTo s fd ⟨[u], []⟩ [("script", u)]) ∧ ∀ base : Heap, (K w.params).In base → base.Ns mainGlobals mg → FnOkG l.prog w (K w.params) mg base CX0 6 fa fd ["script"] (spLaw (K w.params))) :
    PySem.W.WalkO q loose XP YP l.row.toRowW d [] (fun f vs => PySem.call f vs) :=
  walk_ofBG (n := 63) (k := 6) (x := "script") (sp := fun w => spLaw (K w.params)) hn (by decide) hdf ⟨rfl, by decide, by decide⟩ hY F fun _ _ a ns hl hb _ hS => ⟨a, ns, rfl, hS, hl, hb, fun _ => rfl⟩
end K61
open PySem PySem.W PyProof.Rows
set_option maxRecDepth 100000 in
set_option maxHeartbeats 0 in
theorem PySem.Challenge.cw_butthese_k61_errors_by_hand_holds : PySem.Challenge.rw_butthese_k61_errors_by_hand.Holds := by
  w_on; o_law; k_head; (case hw => w_witness2)
  k_fill
  refine K61.walk (l := PySem.Challenge.rw_butthese_k61_errors_by_hand) rfl rfl (fun w h Y => PySem.W.kIn_of Y) ?F
  case F =>
    intro w mg fa h KX G hmg
    refine' K61.all_mk KX G hmg ?aF ?cF ?tF ?e0 ?e1 ?e2 ?e3 ?e4 ?e5 ?e6 ?e7 ?e8 ?e9 ?e10 ?dSource ?dDraw ?dPick ?dKinds ?dPlace ?dName ?dStored ?dLaw ?hn ?ht ?zint ?zrange ?zmax ?zmin ?zlen ?zenumerate ?zisinstance ?zrepr ?zlist ?zdict ?zValueError ?nF ?nd
    (case aF => k_is); (case cF => k_is); (case tF => k_is)
    (case e0 => (refine' K61.ErrH.mk ?aC (K61.xL_mk ?xL) ?sa ?ga ?gg ?no ?ha ?iC ?tI (K61.fn_mk ?l ?c) ?kf ?kC ?eC ?tC ?hC ?mC; (case aC => k_is); (case xL => k_is); (case sa => k_is); (case ga => k_is); (case gg => k_is); (case no => k_is); (case ha => k_is); (case iC => k_is); (case tI => k_is); (case l => k_is); (case c => k_is); (case kf => k_is); (case kC => k_is); (case eC => k_is); (case tC => k_is); (case hC => k_is); (case mC => k_is)))
    (case e1 => (refine' K61.ErrH.mk ?aC (K61.xL_mk ?xL) ?sa ?ga ?gg ?no ?ha ?iC ?tI (K61.fn_mk ?l ?c) ?kf ?kC ?eC ?tC ?hC ?mC; (case aC => k_is); (case xL => k_is); (case sa => k_is); (case ga => k_is); (case gg => k_is); (case no => k_is); (case ha => k_is); (case iC => k_is); (case tI => k_is); (case l => k_is); (case c => k_is); (case kf => k_is); (case kC => k_is); (case eC => k_is); (case tC => k_is); (case hC => k_is); (case mC => k_is)))
    (case e2 => (refine' K61.ErrH.mk ?aC (K61.xL_mk ?xL) ?sa ?ga ?gg ?no ?ha ?iC ?tI (K61.fn_mk ?l ?c) ?kf ?kC ?eC ?tC ?hC ?mC; (case aC => k_is); (case xL => k_is); (case sa => k_is); (case ga => k_is); (case gg => k_is); (case no => k_is); (case ha => k_is); (case iC => k_is); (case tI => k_is); (case l => k_is); (case c => k_is); (case kf => k_is); (case kC => k_is); (case eC => k_is); (case tC => k_is); (case hC => k_is); (case mC => k_is)))
    (case e3 => (refine' K61.ErrH.mk ?aC (K61.xL_mk ?xL) ?sa ?ga ?gg ?no ?ha ?iC ?tI (K61.fn_mk ?l ?c) ?kf ?kC ?eC ?tC ?hC ?mC; (case aC => k_is); (case xL => k_is); (case sa => k_is); (case ga => k_is); (case gg => k_is); (case no => k_is); (case ha => k_is); (case iC => k_is); (case tI => k_is); (case l => k_is); (case c => k_is); (case kf => k_is); (case kC => k_is); (case eC => k_is); (case tC => k_is); (case hC => k_is); (case mC => k_is)))
    (case e4 => (refine' K61.ErrH.mk ?aC (K61.xL_mk ?xL) ?sa ?ga ?gg ?no ?ha ?iC ?tI (K61.fn_mk ?l ?c) ?kf ?kC ?eC ?tC ?hC ?mC; (case aC => k_is); (case xL => k_is); (case sa => k_is); (case ga => k_is); (case gg => k_is); (case no => k_is); (case ha => k_is); (case iC => k_is); (case tI => k_is); (case l => k_is); (case c => k_is); (case kf => k_is); (case kC => k_is); (case eC => k_is); (case tC => k_is); (case hC => k_is); (case mC => k_is)))
    (case e5 => (refine' K61.ErrH.mk ?aC (K61.xL_mk ?xL) ?sa ?ga ?gg ?no ?ha ?iC ?tI (K61.fn_mk ?l ?c) ?kf ?kC ?eC ?tC ?hC ?mC; (case aC => k_is); (case xL => k_is); (case sa => k_is); (case ga => k_is); (case gg => k_is); (case no => k_is); (case ha => k_is); (case iC => k_is); (case tI => k_is); (case l => k_is); (case c => k_is); (case kf => k_is); (case kC => k_is); (case eC => k_is); (case tC => k_is); (case hC => k_is); (case mC => k_is)))
    (case e6 => (refine' K61.ErrH.mk ?aC (K61.xL_mk ?xL) ?sa ?ga ?gg ?no ?ha ?iC ?tI (K61.fn_mk ?l ?c) ?kf ?kC ?eC ?tC ?hC ?mC; (case aC => k_is); (case xL => k_is); (case sa => k_is); (case ga => k_is); (case gg => k_is); (case no => k_is); (case ha => k_is); (case iC => k_is); (case tI => k_is); (case l => k_is); (case c => k_is); (case kf => k_is); (case kC => k_is); (case eC => k_is); (case tC => k_is); (case hC => k_is); (case mC => k_is)))
    (case e7 => (refine' K61.ErrH.mk ?aC (K61.xL_mk ?xL) ?sa ?ga ?gg ?no ?ha ?iC ?tI (K61.fn_mk ?l ?c) ?kf ?kC ?eC ?tC ?hC ?mC; (case aC => k_is); (case xL => k_is); (case sa => k_is); (case ga => k_is); (case gg => k_is); (case no => k_is); (case ha => k_is); (case iC => k_is); (case tI => k_is); (case l => k_is); (case c => k_is); (case kf => k_is); (case kC => k_is); (case eC => k_is); (case tC => k_is); (case hC => k_is); (case mC => k_is)))
    (case e8 => (refine' K61.ErrH.mk ?aC (K61.xL_mk ?xL) ?sa ?ga ?gg ?no ?ha ?iC ?tI (K61.fn_mk ?l ?c) ?kf ?kC ?eC ?tC ?hC ?mC; (case aC => k_is); (case xL => k_is); (case sa => k_is); (case ga => k_is); (case gg => k_is); (case no => k_is); (case ha => k_is); (case iC => k_is); (case tI => k_is); (case l => k_is); (case c => k_is); (case kf => k_is); (case kC => k_is); (case eC => k_is); (case tC => k_is); (case hC => k_is); (case mC => k_is)))
    (case e9 => (refine' K61.ErrH.mk ?aC (K61.xL_mk ?xL) ?sa ?ga ?gg ?no ?ha ?iC ?tI (K61.fn_mk ?l ?c) ?kf ?kC ?eC ?tC ?hC ?mC; (case aC => k_is); (case xL => k_is); (case sa => k_is); (case ga => k_is); (case gg => k_is); (case no => k_is); (case ha => k_is); (case iC => k_is); (case tI => k_is); (case l => k_is); (case c => k_is); (case kf => k_is); (case kC => k_is); (case eC => k_is); (case tC => k_is); (case hC => k_is); (case mC => k_is)))
    (case e10 => (refine' K61.ErrH.mk ?aC (K61.xL_mk ?xL) ?sa ?ga ?gg ?no ?ha ?iC ?tI (K61.fn_mk ?l ?c) ?kf ?kC ?eC ?tC ?hC ?mC; (case aC => k_is); (case xL => k_is); (case sa => k_is); (case ga => k_is); (case gg => k_is); (case no => k_is); (case ha => k_is); (case iC => k_is); (case tI => k_is); (case l => k_is); (case c => k_is); (case kf => k_is); (case kC => k_is); (case eC => k_is); (case tC => k_is); (case hC => k_is); (case mC => k_is)))
    (case dSource => (refine' K61.DefH.mk ?a (K61.fn_mk ?l ?c) ?k; (case a => k_is); (case l => k_is); (case c => k_is); (case k => k_is)))
    (case dDraw => (refine' K61.DefH.mk ?a (K61.fn_mk ?l ?c) ?k; (case a => k_is); (case l => k_is); (case c => k_is); (case k => k_is)))
    (case dPick => (refine' K61.DefH.mk ?a (K61.fn_mk ?l ?c) ?k; (case a => k_is); (case l => k_is); (case c => k_is); (case k => k_is)))
    (case dKinds => (refine' K61.DefH.mk ?a (K61.fn_mk ?l ?c) ?k; (case a => k_is); (case l => k_is); (case c => k_is); (case k => k_is)))
    (case dPlace => (refine' K61.DefH.mk ?a (K61.fn_mk ?l ?c) ?k; (case a => k_is); (case l => k_is); (case c => k_is); (case k => k_is)))
    (case dName => (refine' K61.DefH.mk ?a (K61.fn_mk ?l ?c) ?k; (case a => k_is); (case l => k_is); (case c => k_is); (case k => k_is)))
    (case dStored => (refine' K61.DefH.mk ?a (K61.fn_mk ?l ?c) ?k; (case a => k_is); (case l => k_is); (case c => k_is); (case k => k_is)))
    (case dLaw => (refine' K61.DefH.mk ?a (K61.fn_mk ?l ?c) ?k; (case a => k_is); (case l => k_is); (case c => k_is); (case k => k_is)))
    (case hn => k_is); (case ht => k_is)
    (case zint => k_is)
    (case zrange => k_is)
    (case zmax => k_is)
    (case zmin => k_is)
    (case zlen => k_is)
    (case zenumerate => k_is)
    (case zisinstance => k_is)
    (case zrepr => k_is)
    (case zlist => k_is)
    (case zdict => k_is)
    (case zValueError => k_is)
    (case nF => (refine ⟨?_, ?_, ?_, ?_, ?_, ?_, ?_, ?_, ?_, ?_, ?_⟩ <;> decide))
    (case nd => decide)
