import PyProof.Rows.All
import Wide.All
import OpenK.AllK
import Wide.FinOn
import HandS.ForMost
import HandS.Exc
import HandS.ExcInit
import HandS.ExcField
import HandS.Defaults
import KE.KExcIs
import HandS.EndBits
import HandS.Flow
import HandS.Wide
import PyProof.RowDictHeap
import PyProof.ReprRoads
import HandS.List
import HandS.Dict
import HandS.IsInst
import PyProof.EqKinds
import PyProof.FactsAll.dict_1
import PyProof.FactsAll.subtypes_3
import HandS.SetKeys
import PyProof.Rows.SetFrom
import HandS.Evl
import HandS.Walk
import HandS.Style
import HandS.Property
import HandS.ForExc
import KE.KDictPairs
import HandS.DictComp
import HandS.Star
import KE.LtData
import PyProof.P3Eq
import HandS.WideBits
import PyProof.NeKinds
import HandS.Deep
import PyProof.P3In
import PyProof.ReprLen
import HandS.TupAny
import HandS.MakeKwOnly
import HandS.WordsExc
import HandS.Zip
import HandS.Text
import HandS.StrMore
import HandS.RaiseMore
import HandS.ExcOwn
import HandS.TryOnly
import HandS.CallSlots
import PyProof.NeData
import PyProof.StrOps2
import PySem.Challenge.RW_butthese_k50_texts_of_forms
set_option Elab.async false
set_option linter.all false
set_option maxRecDepth 100000
set_option maxHeartbeats 4000000
namespace PySem
namespace HandSPX
open Builtin Builtin.ObjectAttr
section
variable {M : Model} {A : Around} {E : Value → Shared → Prop} {h : Heap} {g : Array GenState} {d : Drawn} {t : Nat} {os : OsState}
variable {nm q : Str} {C N : Addr} {bs bm bmB : List Value} {hdct : Bool} {sn : List Str} {sub : List Value} {ab : Bool} {col : Option Bool} {dd : Option Addr} {k0 k1 k2 k3 k5 : Option Value} {B newId initId : String}
theorem my_tcallK {kn : Str} {kv : Value} {Q : Unit → Shared → Prop} (hC : h.get? C = some (excClassObj nm q C N bs bm hdct sn sub ab col dd k0 k1 k2 k3 k5 newId))
    (hq : Q () ⟨h, g, d, t, os⟩) : wpAny M A (checkBuiltinCall "type.__call__" ⟨[.ref C], [(kn, kv)]⟩) Q E ⟨h, g, d, t, os⟩ := by
  have f3 := tc_sub
  have hT : (⟨h, g, d, t, os⟩ : Shared).TypeIs (.ref C) "type" := ⟨_, hC, rfl⟩
  simp only [checkBuiltinCall, tc_kind, tc_split]
  repeat (any_goals (first | assumption | with_reducible refine wpAny_loadPart_at hC ?_ | with_reducible refine wpAny_onRaise ?_ | with_reducible refine wpAny_map ?_ | wp_step))
theorem check_new_ownK (F : ExcBaseFacts B newId initId bmB) (hT : ∀ X : String, bm.contains (.type X) = bmB.contains (.type X)) {kn : Str} {kv : Value} {Q : Unit → Shared → Prop}
    (hC : h.get? C = some (excClassObj nm q C N bs bm hdct sn sub ab col dd k0 k1 k2 k3 k5 newId)) (hq : Q () ⟨h, g, d, t, os⟩) : wpAny M A (checkBuiltinCall newId ⟨[.ref C], [(kn, kv)]⟩) Q E ⟨h, g, d, t, os⟩ := by
  have hcont : (Value.ref C :: bm).contains (.type B) = true := by rw [List.contains_cons, hT, F.hasB, Bool.or_true]
  have hstar := F.noStar
  simp only [checkBuiltinCall, F.newKind, F.newSplit, F.newRow]
  repeat (first | refine wpAny_loadPart_at hC ?_ | (refine wpAny_isSubtype_exc hC ?_; rw [hcont]) | refine wpAny_staticBase_exc hC ?_ | refine wpAny_madeBy_exc hC ?_ | simp only [bne_self_eq_false, Bool.false_eq_true, if_false] | wp_step)
  exact hq
end
section
variable {prog : Program} {w : World} {A : Around} {E : Value → Shared → Prop} {R : Result → Shared → Prop} {h : Heap} {g : Array GenState} {d : Drawn} {t : Nat} {os : OsState}
variable {nm q : Str} {C N : Addr} {bs bm bmB : List Value} {hdct : Bool} {sn : List Str} {sub : List Value} {ab : Bool} {col : Option Bool} {dd : Option Addr} {k0 k1 k2 k3 k5 : Option Value} {B newId initId : String}

theorem new_ownK (F : ExcBaseFacts B newId initId bmB) (hT : ∀ X : String, bm.contains (.type X) = bmB.contains (.type X)) {kn : Str} {kv : Value}
    (hC : h.get? C = some (excClassObj nm q C N bs bm hdct sn sub ab col dd k0 k1 k2 k3 k5 newId))
    (hq : R (.ok (.ret (.ref (h.objs.size + 1)))) ⟨(h.push { cls := .type "tuple", data := .seq #[] }).push
      { cls := .ref C, data := .fields #[.ref h.objs.size, .none, .none, .none, .bool false, .none] }, g, d, t, os⟩) :
    codeAny (model prog w) A (.builtin newId ⟨[.ref C], [(kn, kv)]⟩) R ⟨h, g, d, t, os⟩ := by
  have hrest : ([] : List Value).length ≤ sizeLine := Nat.zero_le _
  have hends := F.ends
  have hcB : (Value.ref C :: bm).contains (.type B) = true := by rw [List.contains_cons, hT, F.hasB, Bool.or_true]
  have hcA : (Value.ref C :: bm).contains (.type "AttributeError") = false := by rw [List.contains_cons, hT, F.noAttr]; rfl
  have hcN : (Value.ref C :: bm).contains (.type "NameError") = false := by rw [List.contains_cons, hT, F.noName]; rfl
  refine codeAny_builtinAt F.entry ?_
  unfold Builtin.«BaseException.__new__»
  refine wpAt_bind ?_
  show wpAt _ _ _ (stack >>= _) _ _ _
  refine wpAt_bind (wpAt_stack fun p below => wpAt_of_wpAny ?_)
  wp_walk
  refine wpAt_of_wpAny ?_
  rw [F.owner]
  repeat (first | with_reducible refine wpAny_madeHere_exc F.canon hC ?_ | with_reducible refine wpAny_loadPart_at hC ?_ | (with_reducible refine wpAny_isSubtype_exc hC ?_; first | rw [hcB] | rw [hcA] | rw [hcN]) | wp_step)
  show R _ _
  rw [Heap.size_push]
  exact hq

theorem type_call_ownK (F : ExcBaseFacts B newId initId bmB) (hT : ∀ X : String, bm.contains (.type X) = bmB.contains (.type X)) {kn : Str} {kv : Value} {fI : Addr} {Q : Fin → Shared → Prop}
    (hC : h.get? C = some (excClassObj nm q C N bs bm hdct sn sub ab col dd k0 k1 k2 k3 k5 newId))
    (hi : W.Looks (model prog w) h (typeLookup (.ref C) "__init__") (some (.ref fI))) (hb : ∀ self, W.Looks (model prog w) h (bindSpecial (.ref fI) self) (.ref fI, [self]))
    (hq : codeAny (model prog w) A (.call (.ref fI) ⟨[.ref (h.objs.size + 1)], [(kn, kv)]⟩)
      (fun r s' => match r with | .ok (.ret v) => v = .none ∧ Q (.done (.ret (.ref (h.objs.size + 1)))) s' | .ok _ => False | .error e => E e s')
      ⟨(h.push (W.kdv_tup [])).push (excO C h.objs.size), g, d, t, os⟩) :
    wpAny (model prog w) A (Builtin.«type.__call__» ⟨[.ref C], [(kn, kv)]⟩) Q E ⟨h, g, d, t, os⟩ := by
  repeat (first | with_reducible refine wpAny_loadPart_at hC ?_ | with_reducible refine wpAny_madeBy_exc hC ?_ | wp_step)
  refine codeAny_call_builtin_code (Code.quiet_builtin _ F.quiet) (check_new_ownK F hT hC ?_)
  refine new_ownK F hT hC ?_
  show wpAny _ _ _ _ _ _
  have k : ∀ b o, h.get? b = some o → ((h.push (W.kdv_tup [])).push (excO C h.objs.size)).get? b = some o := fun b o e => Heap.get?_push_of_some _ (Heap.get?_push_of_some _ e)
  have hC₁ := k _ _ hC
  have hget : ((h.push (W.kdv_tup [])).push (excO C h.objs.size)).get? (h.objs.size + 1) = some (excO C h.objs.size) := by heap_get
  have hcC : (Value.ref C :: bm).contains (.ref C) = true := by simp
  have i1 := hi.keeps k
  have b1 := (hb (.ref (h.objs.size + 1))).keeps k
  unfold isInstance
  repeat (first | with_reducible refine wpAny_loadPart_at hget ?_ | (with_reducible refine wpAny_isSubtype_exc hC₁ ?_; rw [hcC]) | wp_step)
  show wpAny _ _ (typeLookup (.ref C) _) _ _ _
  refine i1.at ?_
  refine wpAny_holding (wpAny_bind (b1.at ?_))
  refine wpAny_bind (wpAny_call (codeAny_mono hq fun r s' z => ?_))
  rcases r with e | (v | _ | _ | _) <;> first | exact z | exact z.elim | skip
  obtain ⟨rfl, z⟩ := z
  first
    | exact wpAny_pure (wpAny_pure z)
    | (wp_walk; exact z)

theorem call_ownK (F : ExcBaseFacts B newId initId bmB) (hT : ∀ X : String, bm.contains (.type X) = bmB.contains (.type X)) {kn : Str} {kv : Value} {fI : Addr}
    (hC : h.get? C = some (excClassObj nm q C N bs bm hdct sn sub ab col dd k0 k1 k2 k3 k5 newId))
    (hi : W.Looks (model prog w) h (typeLookup (.ref C) "__init__") (some (.ref fI))) (hb : ∀ self, W.Looks (model prog w) h (bindSpecial (.ref fI) self) (.ref fI, [self]))
    (hq : codeAny (model prog w) (A.under (.builtin "type.__call__" ⟨[.ref C], [(kn, kv)]⟩)) (.call (.ref fI) ⟨[.ref (h.objs.size + 1)], [(kn, kv)]⟩) (W.InitBack (h.objs.size + 1) R)
      ⟨(h.push (W.kdv_tup [])).push (excO C h.objs.size), g, d, t, os⟩) :
    codeAny (model prog w) A (.call (.ref C) ⟨[], [(kn, kv)]⟩) R ⟨h, g, d, t, os⟩ := by
  have f1 := tc_lookup
  have f2 := tc_bind (.ref C)
  have hTy : (⟨h, g, d, t, os⟩ : Shared).TypeIs (.ref C) "type" := ⟨_, hC, rfl⟩
  refine codeAny_of_tree ?_
  show wpAny _ _ (callAny (.ref C) _) _ _ _
  repeat (any_goals (first | assumption | with_reducible refine wpAny_loadPart_at hC ?_ | wp_step))
  refine ⟨rfl, ?_⟩
  refine codeAny_call_builtin_at (Code.quiet_builtin _ (by decide +kernel)) entry_typeCall (my_tcallK hC (type_call_ownK F hT hC hi hb ?_))
  refine codeAny_mono hq fun r s' z => ?_
  rcases r with e | (v | _ | _ | _) <;> exact z
end
end HandSPX
end PySem
namespace L2
open PySem PySem.Spec PyProof.Rows
section
variable {X : Cx} {e : Expr} {es : List Expr} {kws : List Keyword} {ta tk : TA} {te : TE} {p p1 p2 pos : Pos}
/-- C(e, ..), an exception of an own class with its own __init__, as a value -/
def tMkV (C : Addr) (sp : Sp) (ta : TA) : TE := fun σ H Q => ta σ H fun vs H1 => vs.length ≤ 1000 ∧ ∀ a, H1 a = none → sp (.ref a :: vs) (upd H1 a (exo a C none)) (fun v H2 => v = .non ∧ Q (.ref a) H2) (fun _ _ _ => False)
/-- C(f = e) -/
def tMkVK (C : Addr) (sp : Sp) (tk : TA) : TE := fun σ H Q => tk σ H fun zs H1 => ∃ z, zs = [z] ∧ ∀ a, H1 a = none → sp [.ref a, z] (upd H1 a (exo a C none)) (fun v H2 => v = .non ∧ Q (.ref a) H2) (fun _ _ _ => False)
theorem pe_mkV {CX : CXT} {x : Str} {C fI : Addr} {k : Nat} {fd : FuncData} {ps : List Str} {sp : Sp} (T : OexC X.K C) (iC : PySem.W.findIn X.K (.ref C) "__init__" = some (some (.ref fI))) (tI : PySem.W.typeIn X.K (.ref fI) = some (.type "function"))
    (F1 : FnOk X.prog X.w X.K X.mg X.base CX k fI fd ps sp) (hr : Room (k + 1) X.A) (hb : Binds X.K fd ps []) (hx : Passes CX X (fun _ _ _ => False)) (hg : Gl X x) (hm : X.mg x = some (.ref C)) (ha : PA X (e :: es) ta)
    (hdb : (x == ("__debug__" : Str)) = false := by decide) (he : starEach (e :: es) X.env = (false, eval e X.env) :: starEach es X.env := by rfl) (hpl : (backTo pos (starEach es X.env)).any (·.1) = false := by rfl) :
    PE X (.Call (.Name x p) (e :: es) [] pos) (tMkV C sp ta) := by
  refine ⟨fun pins s σ H Q I h => ?_⟩
  obtain ⟨nm, q, N, bs, bm, sn, sub, ab, col, dd, k0, k1, k2, k3, k5, hC, hbm⟩ := T.cls
  refine wpAny_Call_Name_kw (ld_glob I hg hm ?_ hdb)
  refine PySem.W.callWith_K (h₀ := X.base) I.ok.mod.kin T.kC (thn (ha.run pos pins s σ H _ I h) fun us s1 ⟨vs, H1, I1, r1, hz, q1⟩ => ⟨I1.kIn, ?_⟩) he hpl
  show wpAny _ _ (call (.ref C) us) _ _ _
  obtain ⟨hp, g, dr, tk, os⟩ := s1
  have hsz : hp.objs.size ≤ hp.objs.size + 1 := Nat.le_succ _
  have hn : H1 (hp.objs.size + 1) = none := I1.hok.fresh hsz
  have hq := q1 (hp.objs.size + 1) hn
  have kk : ∀ b o, hp.get? b = some o → ((hp.push (PySem.W.kdv_tup us)).push (PySem.HandSPX.excO C hp.objs.size)).get? b = some o := fun b o e => Heap.get?_push_of_some _ (Heap.get?_push_of_some _ e)
  have hget : ((hp.push (PySem.W.kdv_tup us)).push (PySem.HandSPX.excO C hp.objs.size)).get? (hp.objs.size + 1) = some (PySem.HandSPX.excO C hp.objs.size) := by heap_get
  have I2 : Inv X pins σ (upd H1 (hp.objs.size + 1) (exo (hp.objs.size + 1) C none)) ⟨(hp.push (PySem.W.kdv_tup us)).push (PySem.HandSPX.excO C hp.objs.size), g, dr, tk, os⟩ :=
    I1.laid (t' := tk) (a := hp.objs.size + 1) (o := exo (hp.objs.size + 1) C none) (h' := (hp.push (PySem.W.kdv_tup us)).push (PySem.HandSPX.excO C hp.objs.size)) kk hsz (exo_ok hget)
  have r2 : Vals (V.ref (hp.objs.size + 1) :: vs) (Value.ref (hp.objs.size + 1) :: us) := .cons rfl r1
  have hl : (Value.ref (hp.objs.size + 1) :: us ++ []).length = ps.length := by
    rw [List.append_nil]
    have e := r2.length
    rw [F1.len _ _ _ _ hq] at e
    exact e.symm
  have hus : us.length ≤ sizeLine := by
    rw [← Paired.length r1, sizeLine_eq]
    omega
  have hb' := hb _ (Value.ref (hp.objs.size + 1) :: us) I2.kIn hl
  rw [List.append_nil] at hb'
  refine wpAny_call (PySem.HandSPX.call_own F.excBase_ValueError (fun Y => PySem.HandSPX.refsVE_contains Y bm hbm) (I1.kIn _ _ hC) (PySem.W.looks_findIn I1.kIn iC) (fun self => PySem.W.bind_fn I1.kIn self tI) hus
    (codeAny_mono (F1.run _ X.stack _ _ ⟨Value.ref (hp.objs.size + 1) :: us, []⟩ (Value.ref (hp.objs.size + 1) :: us) _ _ (fun _ _ _ => False) (hr.make C us []) (I2.env0.make C us []) hb' r2 hq) fun r s' hq' => ?_))
  cases r with
  | error er => exact hx pins σ _ _ er s' I2 hq'
  | ok fl =>
    cases fl with
    | ret u =>
      obtain ⟨v, H', I3, rv, ev, q3⟩ := I2.after hq'
      subst ev
      exact ⟨rv, ⟨V.ref (hp.objs.size + 1), H', I3, rfl, q3⟩⟩
    | next => exact False.elim hq'
    | brk => exact False.elim hq'
    | cont => exact False.elim hq'
theorem pe_mkVK {CX : CXT} {x kn : Str} {C fI : Addr} {k : Nat} {fd : FuncData} {ps : List Str} {sp : Sp} (T : OexC X.K C) (iC : PySem.W.findIn X.K (.ref C) "__init__" = some (some (.ref fI))) (tI : PySem.W.typeIn X.K (.ref fI) = some (.type "function"))
    (F1 : FnOk X.prog X.w X.K X.mg X.base CX k fI fd ps sp) (hr : Room (k + 1) X.A) (hb : ∀ (s : Shared) (u v : Value), BindsTo s fd ⟨[u], [(kn, v)]⟩ (ps.zip [u, v])) (hx : Passes CX X (fun _ _ _ => False)) (hg : Gl X x) (hm : X.mg x = some (.ref C)) (hkw : PK X kws tk)
    (hall : (backToKw pos (keywordEach kws X.env)).all (·.1.isSome) = true := by rfl) (hks : (backToKw pos (keywordEach kws X.env)).filterMap (·.1) = [kn] := by rfl) (hdb : (x == ("__debug__" : Str)) = false := by decide)
    (hpl : ((backTo pos (starEach [] X.env)).any (·.1) || (backToKw pos (keywordEach kws X.env)).any (·.1.isNone)) = false := by rfl) :
    PE X (.Call (.Name x p) [] kws pos) (tMkVK C sp tk) := by
  refine ⟨fun pins s σ H Q I h => ?_⟩
  obtain ⟨nm, q, N, bs, bm, sn, sub, ab, col, dd, k0, k1, k2, k3, k5, hC, hbm⟩ := T.cls
  refine wpAny_Call_Name_kw (ld_glob I hg hm ?_ hdb)
  refine PySem.W.callWith_KW0 (h₀ := X.base) I.ok.mod.kin T.kC hall ?_ hpl
  refine thn (hkw.run pos pins s σ H _ I h) fun ws s1 ⟨zs, H1, I1, rz, z, ez, q1⟩ => ⟨I1.kIn, ?_⟩
  subst ez
  rw [hks]
  cases rz with
  | @cons _ u _ ur rv rn =>
  cases rn
  show wpAny _ _ (call (.ref C) [] [(kn, u)]) _ _ _
  obtain ⟨hp, g, dr, tk, os⟩ := s1
  have hsz : hp.objs.size ≤ hp.objs.size + 1 := Nat.le_succ _
  have hn : H1 (hp.objs.size + 1) = none := I1.hok.fresh hsz
  have hq := q1 (hp.objs.size + 1) hn
  have kk : ∀ b o, hp.get? b = some o → ((hp.push (PySem.W.kdv_tup [])).push (PySem.HandSPX.excO C hp.objs.size)).get? b = some o := fun b o e => Heap.get?_push_of_some _ (Heap.get?_push_of_some _ e)
  have hget : ((hp.push (PySem.W.kdv_tup [])).push (PySem.HandSPX.excO C hp.objs.size)).get? (hp.objs.size + 1) = some (PySem.HandSPX.excO C hp.objs.size) := by heap_get
  have I2 : Inv X pins σ (upd H1 (hp.objs.size + 1) (exo (hp.objs.size + 1) C none)) ⟨(hp.push (PySem.W.kdv_tup [])).push (PySem.HandSPX.excO C hp.objs.size), g, dr, tk, os⟩ :=
    I1.laid (t' := tk) (a := hp.objs.size + 1) (o := exo (hp.objs.size + 1) C none) (h' := (hp.push (PySem.W.kdv_tup [])).push (PySem.HandSPX.excO C hp.objs.size)) kk hsz (exo_ok hget)
  have r2 : Vals [V.ref (hp.objs.size + 1), z] [Value.ref (hp.objs.size + 1), u] := .cons rfl (.cons rv .nil)
  refine wpAny_call (PySem.HandSPX.call_ownK F.excBase_ValueError (fun Y => PySem.HandSPX.refsVE_contains Y bm hbm) (I1.kIn _ _ hC) (PySem.W.looks_findIn I1.kIn iC) (fun self => PySem.W.bind_fn I1.kIn self tI)
    (codeAny_mono (F1.run _ X.stack _ _ ⟨[Value.ref (hp.objs.size + 1)], [(kn, u)]⟩ [Value.ref (hp.objs.size + 1), u] _ _ (fun _ _ _ => False) (hr.make C [] [(kn, u)]) (I2.env0.make C [] [(kn, u)]) (hb _ _ _) r2 hq) fun r s' hq' => ?_))
  cases r with
  | error er => exact hx pins σ _ _ er s' I2 hq'
  | ok fl =>
    cases fl with
    | ret u =>
      obtain ⟨v, H', I3, rv, ev, q3⟩ := I2.after hq'
      subst ev
      exact ⟨rv, ⟨V.ref (hp.objs.size + 1), H', I3, rfl, q3⟩⟩
    | next => exact False.elim hq'
    | brk => exact False.elim hq'
    | cont => exact False.elim hq'
/-- e.f, e such an exception -/
def tXv (K : PySem.W.Frag) (f : Str) (te : TE) : TE := fun σ H Q => te σ H fun x H1 => ∃ (a C d : Addr) (fs : List (Str × V)) (v : V), x = .ref a ∧ H1 a = some (exo a C (some d)) ∧ H1 d = some (exd d fs) ∧ XfC K C ∧ PySem.W.findIn K (.ref C) f = some none ∧ fs.lookup f = some v ∧ Q v H1
theorem pe_xv {n : Str} (he : PE X e te) (hb : attributeBase e n X.env (eval e X.env) = eval e X.env := by rfl) : PE X (.Attribute e n pos) (tXv X.K n te) := by
  refine ⟨fun pins s σ H Q I h => ?_⟩
  refine attr_of hb (thn (he.run pins s σ H _ I h) fun u s1 hh => ?_)
  obtain ⟨x, H1, I1, rx, a, C, d, fs, v, ex, ea, ed, T, hno, l, q⟩ := hh
  subst ex
  obtain rfl : u = Value.ref a := rx
  obtain ⟨t1, ho⟩ := exo_at I1.hok ea
  obtain ⟨mA, hns, hr⟩ := exd_at I1.hok ed
  obtain ⟨od, hod, hl⟩ := lookIn_ns hns
  obtain ⟨u, hu, ru⟩ := RelO.some_of (v := v) (o := mA n) (by rw [← l]; exact hr n)
  have J : PySem.W.InstAt s1.heap a { cls := .ref C, dict := some d, data := .fields #[.ref t1, .none, .none, .none, .bool false, .none] } C (some od) := ⟨ho, rfl, rfl, hod⟩
  exact HandSPX.exc_get I1.kIn J T.ga T.gg T.exC (PySem.W.findObj_own T.hdC hno rfl (by rw [hl, hu])) (handed_of ru) ⟨v, H1, I1.tok _, ru, q⟩
/-- what the class says of isinstance -/
structure ExcI (K : PySem.W.Frag) (D : Addr) : Prop where
  hc : (PySem.W.clsIn K D).isSome = true
  hg : PySem.W.findIn K (.ref D) "__getattribute__" = some (some (.builtin "BaseException.__getattribute__"))
  hk : PySem.W.findIn K (.ref D) "__getattr__" = some none
  hs : PySem.W.subIn K (.ref D) (.type "BaseException") = some true
  ha : PySem.W.findIn K (.ref D) "__class__" = some (some (.builtin "object.__class__"))
  hn : PySem.W.specialIn K (.builtin "object.__class__") "__get__" = some (some (.builtin "getset_descriptor.__get__"))
  ht : PySem.W.takesIn K (.builtin "object.__class__") = some true
  hm : PySem.W.mroIn K D (.type "object") = some true
/-- isinstance(e, c), e such an exception -/
def rIsO (K : PySem.W.Frag) : List V → Hp → VK → Prop := fun xs H Q => ∃ (a C d : Addr) (fs : List (Str × V)) (c : V) (cv : Value) (b : Bool), xs = [.ref a, c] ∧ H a = some (exo a C (some d)) ∧ H d = some (exd d fs) ∧ ExcI K C ∧ (∀ u, RelV c u → u = cv) ∧ PySem.W.kitOne K (.ref C) cv = some b ∧ Q (.bl b) H
theorem call_isO : CallR X (.builtin "isinstance") (rIsO X.K) := by
  intro pins s σ H xs us Q I r h
  obtain ⟨a, D, d, fs, c, cv, b, rfl, ea, ed, C, hcv, e, q⟩ := h
  cases r with
  | cons rx rr =>
    cases rr with
    | cons rt rr =>
      cases rr
      cases rx
      have ec := hcv _ rt
      subst ec
      obtain ⟨t1, ho⟩ := exo_at I.hok ea
      obtain ⟨mA, hns, hr⟩ := exd_at I.hok ed
      obtain ⟨od, hod, hl⟩ := lookIn_ns hns
      have J : PySem.W.InstAt s.heap a { cls := .ref D, dict := some d, data := .fields #[.ref t1, .none, .none, .none, .bool false, .none] } D (some od) := ⟨ho, rfl, rfl, hod⟩
      exact PySem.W.kia_one (PySem.W.kitx_exc C.hc C.hg C.hk C.hs C.ha C.hn C.ht C.hm) I.kIn J e (fun z => nomatch z) fun tk => ⟨.bl b, H, I.kept (t' := tk) fun _ _ z => z, rfl, q⟩
end
end L2
namespace L2
open PySem PySem.Spec PyProof.Rows
/-! ### promises whose def is entered with no repr under way -/
structure FnOkG (P : Program) (w : World) (K : PySem.W.Frag) (mg : Str → Option Value) (base : Heap) (CX : CXT) (k : Nat) (f : Addr) (fd : FuncData) (ps : List Str) (sp : Sp) : Prop where
  len : ∀ vs H Q E, sp vs H Q E → vs.length = ps.length
  run : ∀ (A : Around) (outer : List Env) (s : Shared) (H : Hp) (args : Args) (us : List Value) (vs : List V) (Q : VK) (E : XK), Room k A → A.guards = some [] → Env0 P w K mg base A outer s H → BindsTo s fd args (ps.zip us) → Vals vs us → sp vs H Q E →
    codeAny (model P w) A (.call (.ref f) args) (CR CX outer P w H s Q E) s
/-- one entry: at a fixed around, the def keeps a promise that is met there alone -/
theorem FnOkG.of {P : Program} {w : World} {K : PySem.W.Frag} {mg : Str → Option Value} {base : Heap} {CX : CXT} {k : Nat} {f : Addr} {fd : FuncData} {ps : List Str} {sp : Sp} (F : FnOk P w K mg base CX k f fd ps sp) : FnOkG P w K mg base CX k f fd ps sp :=
  ⟨F.len, fun A outer s H args us vs Q E hr _ => F.run A outer s H args us vs Q E hr⟩
theorem fn_ofG {CX : CXT} {P : Program} {w : World} {K : PySem.W.Frag} {mg : Str → Option Value} {base : Heap} {k : Nat} {f : Addr} {name qual : Str} {params : Arguments} {body : List Stmt} {scope : Scope} {dV kV doc pm cdv ct oc : Value} {an od : Option Addr}
    {osl : Array (Option Value)} {N ps : List Str} {sp : Sp} (lk : K.lookup f = some ⟨oc, od, .func (PySem.W.fnOf name qual params body scope dV kV doc pm an cdv ct), osl⟩) (hcd : PySem.W.codeIn K cdv qual = true) (S : FnScope N ps scope)
    (len : ∀ vs H Q E, sp vs H Q E → vs.length = ps.length)
    (hbody : ∀ (A : Around) (outer : List Env) (s : Shared) (H : Hp) (vs : List V) (Q : VK) (E : XK), Room k (A.deeper (envOfC qual scope s.heap.objs.size f cdv)) → A.guards = some [] → sp vs H Q E →
      ∃ t, PSs (cxOf CX P w K mg base N qual scope f cdv A outer s H E) body t ∧ t { nx := fun _ H' => Q .non H', rt := Q } (start N vs) H) :
    FnOkG P w K mg base CX (k + 1) f (PySem.W.fnOf name qual params body scope dV kV doc pm an cdv ct) ps sp := by
  refine ⟨len, fun A outer s H args us vs Q E hr hG e0 hb r hsp => ?_⟩
  -- the promise, narrowed to this around's guards, and met at any around by leaving out the others
  have hl := len _ _ _ _ hsp
  have KX : K.In s.heap := e0.mod.kin.keeps fun b o e => (e0.bs b o e).1
  have hkind : ∀ y ∈ ps.zip us, scope.names.lookup y.1 = some .local ∨ (scope.names.lookup y.1 = some .cell ∧ ((cellsFrom (s.heap.objs.size + 1) scope.names []).lookup y.1).isSome = true) := by
    rintro ⟨n, v⟩ hy
    rcases S.par n (List.of_mem_zip hy).1 with q | q
    · exact .inl q
    · exact .inr ⟨q, PySem.W.cellsFrom_some _ _ _ (.inl q)⟩
  refine codeAny_call_function hr.depth (KX _ _ lk) rfl S.co S.gen rfl (PySem.W.codeRec_of KX hcd) (hb _ _ _ _ (wpAny_newFunctionEnv_cells S.kind hkind ?_))
  rintro env rfl s1 x
  refine ⟨(e0.mod.nolimit.keeps fun b o e => (e0.bs b o e).1).keeps x.toInCall.keep, codeAny_func ?_⟩
  obtain ⟨t, ht, hq⟩ := hbody A outer s H vs Q E (hr.deeper _) hG hsp
  have I := inv_start (CX := CX) (P := P) (w := w) (qual := qual) (f := f) (cd := cdv) (E := E) S hr.hd e0 hl r x
  refine wpAny_mono (ht.run [] s1 _ H _ I hq) ?_ fun _ _ z => z
  intro fl s' hs
  cases fl with
  | ret u => exact let ⟨v, _, H', J, rv, q⟩ := hs; ⟨v, H', J.os, J.bare, J.base, J.hok, rv, q⟩
  | next => exact let ⟨_, H', J, q⟩ := hs; ⟨V.non, H', J.os, J.bare, J.base, J.hok, rfl, q⟩
  | brk => exact let ⟨_, _, _, q⟩ := hs; q.elim
  | cont => exact let ⟨_, _, _, q⟩ := hs; q.elim
theorem Fun.okG {P : Program} {w : World} {K : PySem.W.Frag} {mg : Str → Option Value} {base : Heap} {x qual : Str} {st : Stmt} {f : Addr} {fd : FuncData} {N ps : List Str} {k : Nat} {sp : Sp} (F : Fun K x qual st f fd) (S : FnScope N ps (defScope st)) (len : ∀ vs H Q E, sp vs H Q E → vs.length = ps.length)
    (hbody : ∀ (cdv : Value) (A : Around) (outer : List Env) (s : Shared) (H : Hp) (vs : List V) (Q : VK) (E : XK), Room k (A.deeper (envOfC qual (defScope st) s.heap.objs.size f cdv)) → A.guards = some [] → sp vs H Q E →
      ∃ t, PSs (cxOf CX0 P w K mg base N qual (defScope st) f cdv A outer s H E).nox (defBody st) t ∧ t { nx := fun _ H' => Q .non H', rt := Q } (start N vs) H) : FnOkG P w K mg base CX0 (k + 1) f fd ps sp := by
  obtain ⟨oc, od, kV, doc, pm, an, cdv, ct, osl, rfl, lk, hcd⟩ := F.ex
  refine fn_ofG lk hcd S len fun A outer s H vs Q E hr hG hsp => ?_
  obtain ⟨t, h, q⟩ := hbody cdv A outer s H vs Q E hr hG hsp
  exact ⟨t, h.nox, q⟩
/-- a call of a def that wants to know that no repr is under way -/
theorem run_fnG {X : Cx} {CX : CXT} {k : Nat} {f : Addr} {fd : FuncData} {ps : List Str} {sp : Sp} {dvs : List V} {ds : List Value} {E : XK} {pins : List (Addr × Obj)} {σ : St} {H : Hp} {s : Shared} {Q : VK} {us : List Value} {vs : List V} (F : FnOkG X.prog X.w X.K X.mg X.base CX k f fd ps sp) (hr : Room k X.A) (hG : X.A.guards = some []) (hb : Binds X.K fd ps ds) (hd : Vals dvs ds) (hx : Passes CX X E)
    (I : Inv X pins σ H s) (r : Vals vs us) (h : sp (vs ++ dvs) H Q E) : wpAny (model X.prog X.w) X.A (call (.ref f) us) (EP X pins σ Q) X.xe s := by
  have r2 : Vals (vs ++ dvs) (us ++ ds) := r.append hd
  have hl : (us ++ ds).length = ps.length := r2.length.symm.trans (F.len _ _ _ _ h)
  refine wpAny_call (codeAny_mono (F.run X.A X.stack s H ⟨us, []⟩ (us ++ ds) (vs ++ dvs) Q E hr hG I.env0 (hb s us I.kIn hl) r2 h) ?_)
  rintro (e | (_ | _ | _ | u)) s' hq
  · exact hx pins σ H s e s' I hq
  all_goals first | exact I.after hq | exact False.elim hq
theorem pe_callG {X : Cx} {CX : CXT} {k : Nat} {f : Addr} {fd : FuncData} {ps : List Str} {sp : Sp} {dvs : List V} {ds : List Value} {E : XK} {x : Str} {p pos : Pos} {e : Expr} {es : List Expr} {t : TA} (F : FnOkG X.prog X.w X.K X.mg X.base CX k f fd ps sp) (hr : Room k X.A) (hG : X.A.guards = some []) (hg : Gl X x) (hm : X.mg x = some (.ref f)) (hk : PySem.W.keepIn X.K (.ref f) = true) (hb : Binds X.K fd ps ds) (hd : Vals dvs ds) (hx : Passes CX X E)
    (ha : PA X (e :: es) t) (hdb : (x == ("__debug__" : Str)) = false := by decide) (he : starEach (e :: es) X.env = (false, eval e X.env) :: starEach es X.env := by rfl) (hpl : (backTo pos (starEach es X.env)).any (·.1) = false := by rfl) :
    PE X (.Call (.Name x p) (e :: es) [] pos) (tCall sp dvs E t) :=
  ⟨fun pins s σ H Q I h => wpAny_Call_Name_kw (ld_glob I hg hm (PySem.W.callWith_K (h₀ := X.base) I.ok.mod.kin hk (thn (ha.run pos pins s σ H _ I h) fun us s1 ⟨vs, H1, I1, r, q⟩ => ⟨I1.kIn, run_fnG F hr hG hb hd hx I1 r q⟩) he hpl) hdb)⟩
/-! ### the law's end -/
section
variable {P : Program} {w : World} {K : PySem.W.Frag} {mg mb : Str → Option Value} {k : Nat} {fa a : Addr} {fd : FuncData} {x : Str} {sp : Sp} {s₁ : Shared} {vs : List Value} {ns : List Int}
/-- from an abstract heap that knows the script at most -/
theorem law_coreG (KX : K.In s₁.heap) (hns : s₁.heap.Ns mainGlobals mg) (hb : s₁.heap.Ns builtinsNs mb) (hbb : ∀ x : Str, x ≠ "__name__" → mb x = bootBuiltins x) (hlim : s₁.heap.NoLimit) (hg : s₁.gens = #[])
    (ha : s₁.heap.get? a = some { cls := .type "list", data := .seq vs.toArray }) (hr : Room k callerA) (F : ∀ base : Heap, K.In base → base.Ns mainGlobals mg → FnOkG P w K mg base CX0 k fa fd [x] sp)
    (hbind : ∀ (s : Shared) (u : Value), BindsTo s fd ⟨[u], []⟩ [(x, u)]) (H : Hp) (hO : Only H) (hsp : sp [.ref a] H (fun v _ => v = .bl true) fun _ _ _ => False) (hok : HOk P w H s₁.heap) (hA : ∀ b, H b ≠ none → b = a) (hK : H a ≠ none → K.lookup a = none) :
    codeAny (model P w) callerA (.call (.ref fa) ⟨[.ref a], []⟩) (fun r s' => r = .ok (.ret (.bool true)) ∧ OldK s₁.heap s'.heap ∧ s'.os = s₁.os ∧ AllBare s'.gens) s₁ := by
  -- an object that is no list lies outside of H, and so in the base
  have low : ∀ {b : Addr} {o : Obj}, s₁.heap.get? b = some o → (∀ es n, o.data ≠ .seq es n) → (hidT s₁.heap H).get? b = some o := by
    intro b o e nd
    refine hidT_get e ?_
    cases q : H b with
    | none => rfl
    | some u =>
      obtain rfl := hA b (by rw [q]; exact fun z => nomatch z)
      rw [ha] at e
      cases e
      exact absurd rfl (nd _ _)
  have ns : ∀ {b : Addr} {m : Str → Option Value}, s₁.heap.Ns b m → (hidT s₁.heap H).Ns b m := by
    rintro b m ⟨o, es, ep, e, d, r⟩
    exact ⟨o, es, ep, low e (fun _ _ z => by rw [d] at z; cases z), d, r⟩
  have kb : K.In (hidT s₁.heap H) := by
    intro b o e
    refine hidT_get (KX b o e) ?_
    cases q : H b with
    | none => rfl
    | some u =>
      obtain rfl := hA b (by rw [q]; exact fun z => nomatch z)
      rw [hK (by rw [q]; exact fun z => nomatch z)] at e
      cases e
  have nl : (hidT s₁.heap H).NoLimit := by
    obtain ⟨mc, h1, h2⟩ := hlim
    exact ⟨mc, ns h1, h2⟩
  have e0 : Env0 P w K mg (hidT s₁.heap H) callerA [] s₁ H := ⟨rfl, ⟨kb, ns hns, ⟨mb, ns hb, hbb⟩, nl⟩, fun b o e => of_hidT e, Nat.le_of_eq (hidT_size _ _), trivial, (fun b z => nomatch z), hok, .of_eq hg⟩
  refine codeAny_mono ((F _ kb (ns hns)).run callerA [] s₁ H ⟨[.ref a], []⟩ [.ref a] [.ref a] _ _ hr rfl e0 (hbind s₁ (.ref a)) (.cons rfl .nil) hsp) ?_
  rintro (e | (_ | _ | _ | u)) s' h
  · exact h.elim
  · exact h.elim
  · exact h.elim
  · exact h.elim
  · obtain ⟨v, H', os, bare, un, hok', r', q⟩ := h
    have q' : v = .bl true := q
    subst q'
    obtain rfl : u = Value.bool true := r'
    refine ⟨rfl, OldK.of_keep ?_, os, bare⟩
    intro b o e
    rcases hO b with z | ⟨ob, xs, z⟩
    · exact un.keep b o e z (fun z => nomatch z) (fun z => nomatch z)
    · obtain ⟨e1, _⟩ := hok b _ z
      obtain ⟨e2, _⟩ := hok' b _ (un.frzs b ob _ z)
      rw [e] at e1
      cases e1
      exact e2
theorem law_callG (KX : K.In s₁.heap) (hns : s₁.heap.Ns mainGlobals mg) (hb : s₁.heap.Ns builtinsNs mb) (hbb : ∀ x : Str, x ≠ "__name__" → mb x = bootBuiltins x) (hlim : s₁.heap.NoLimit) (hg : s₁.gens = #[])
    (ha : s₁.heap.get? a = some { cls := .type "list", data := .seq vs.toArray }) (hi : IntsAre vs ns) (hl : ns.length ≤ sizeLine) (hr : Room k callerA)
    (F : ∀ base : Heap, K.In base → base.Ns mainGlobals mg → FnOkG P w K mg base CX0 k fa fd [x] sp) (hbind : ∀ (s : Shared) (u : Value), BindsTo s fd ⟨[u], []⟩ [(x, u)])
    (hsp : ∀ H : Hp, Only H → SqL K H a (ns.map V.int) → sp [.ref a] H (fun v _ => v = .bl true) fun _ _ _ => False) :
    codeAny (model P w) callerA (.call (.ref fa) ⟨[.ref a], []⟩) (fun r s' => r = .ok (.ret (.bool true)) ∧ OldK s₁.heap s'.heap ∧ s'.os = s₁.os ∧ AllBare s'.gens) s₁ := by
  have rv := vals_ints hi
  have lenV := hi.length
  cases hk : K.lookup a with
  | some o =>
    have e := KX a o hk
    rw [ha] at e
    cases e
    have hO : Only fun _ => none := fun _ => .inl rfl
    exact law_coreG KX hns hb hbb hlim hg ha hr F hbind _ hO (hsp _ hO (.inr ⟨_, vs.toArray, _, hk, rfl, rfl, rfl, by rw [List.size_toArray, lenV]; exact hl, by simpa using rv⟩)) (fun b u z => nomatch z) (fun b z => absurd rfl z) fun z => absurd rfl z
  | none =>
    let H : Hp := fun b => if b = a then some (.frz { cls := .type "list", data := .seq vs.toArray } (.lst (ns.map V.int))) else none
    have Ha : H a = some (.frz { cls := .type "list", data := .seq vs.toArray } (.lst (ns.map V.int))) := if_pos rfl
    have Hn : ∀ {b}, b ≠ a → H b = none := fun h => if_neg h
    have hO : Only H := fun b => by
      by_cases e : b = a
      · rw [e]; exact .inr ⟨_, _, Ha⟩
      · exact .inl (Hn e)
    refine law_coreG KX hns hb hbb hlim hg ha hr F hbind H hO (hsp H hO (.inl (.inr ⟨_, Ha⟩))) (fun b u z => ?_) (fun b z => ?_) fun _ => hk
    · by_cases e : b = a
      · subst e
        rw [Ha] at z
        cases z
        exact ⟨ha, by rw [List.length_map]; exact hl, vs, _, rv, ha⟩
      · rw [Hn e] at z
        cases z
    · by_cases e : b = a
      · exact e
      · exact absurd (Hn e) z
end
theorem walk_ofBG {l : PySem.W.OpenLaw} {n k : Nat} {q : Program} {loose : List Str} {XP : (Str → Option Value) → Heap → Prop} {YP : World → Heap → Prop} {d : DefRec} {K : Params → PySem.W.Frag} {sp : World → Sp} {x : Str}
    (hn : l.most = some n) (hn2 : n ≤ sizeLine) (hdf : d.params.defaults = []) (hr : Room k callerA)
    (hY : ∀ (w : World) (h : Heap), YP w h → (K w.params).In h)
    (F : ∀ (w : World) (mg : Str → Option Value) (fa : Addr) (h : Heap), (K w.params).In h → h.Ns mainGlobals mg → mg d.name = some (.ref fa) →
      ∃ fd : FuncData, (∀ (s : Shared) (u : Value), BindsTo s fd ⟨[u], []⟩ [(x, u)]) ∧
        ∀ base : Heap, (K w.params).In base → base.Ns mainGlobals mg → FnOkG l.prog w (K w.params) mg base CX0 k fa fd [x] (sp w))
    (hsp : ∀ (w : World) (H : Hp) (a : Addr) (ns : List Int), ns.length ≤ n → (∀ z ∈ ns, Builtin.Int.intBits z ≤ 1048576) → Only H → SqL (K w.params) H a (ns.map V.int) → sp w [.ref a] H (fun v _ => v = .bl true) fun _ _ _ => False) :
    PySem.W.WalkO q loose XP YP l.row.toRowW d [] (fun f vs => PySem.call f vs) := by
  refine Att.attach_callB hn hdf fun w s₀ s₁ mg mb fa o pm cd doc a vs ns G Y ho hd hcd hmg hobj hints hlen hbits hg => ?_
  obtain ⟨fd, hb, hF⟩ := F w mg fa _ (hY w _ Y) G.T.g hmg
  exact law_callG (hY w _ Y) G.T.g G.T.b G.T.builtins G.T.nolimit hg hobj hints (Nat.le_trans hlen hn2) hr hF hb fun H hO hS => hsp w H a ns hlen hbits hO hS
end L2
namespace PySem
/-- none of the dicts at these places is the table of modules -/
def NoMods (h : Heap) (as : List Addr) : Prop := ∀ b ∈ as, (∃ o es n, h.get? b = some o ∧ o.data = .dict es n) → b ≠ sysModules
theorem NoMods.sub {h : Heap} {as bs : List Addr} (x : NoMods h as) (s : ∀ b ∈ bs, b ∈ as) : NoMods h bs := fun b m => x b (s b m)
section
variable {prog : Program} {w : World} {h₀ : Heap}
mutual
theorem reprQ : ∀ {v : Value} {d : PyData} {as : List Addr}, Reads h₀ v d as → d.showable = true → NoMods h₀ as → d.shown.length ≤ sizeLine → ∃ bs, ReadAtMost h₀ d.depth bs ∧ ReprK prog w bs h₀ d.depth v d.shown
  | _, _, _, .none, _, _, _ => ⟨[], (fun _ z => nomatch z), by simp only [PyData.shown]; exact .of_is ReprIs.none _ _ _⟩
  | _, _, _, .bool b, _, _, _ => ⟨[], (fun _ z => nomatch z), by simp only [PyData.shown]; exact .of_is (ReprIs.bool b) _ _ _⟩
  | _, _, _, .int i t, hs, _, _ => ⟨[], (fun _ z => nomatch z), by simp only [PyData.shown]; exact .of_is (ReprIs.int t (by simpa [PyData.showable] using hs)) _ _ _⟩
  | _, _, _, .str x t, _, _, hz => ⟨[], (fun _ z => nomatch z), by simp only [PyData.shown]; exact .of_is (ReprIs.str x t (by simpa only [PyData.shown] using hz)) _ _ _⟩
  | _, _, _, .list (a := a) (vs := vs) (xs := xs) (as := as) q1 q2 q3 q4, hs, hsm, hz => by
    have zz : (listText (PyData.shownAll xs)).length ≤ sizeLine := by simpa only [PyData.shown] using hz
    obtain ⟨bs, hb, hk⟩ := reprQs q4 (by simpa [PyData.showable] using hs) (hsm.sub fun b m => List.mem_cons_of_mem _ m) (fun t ht => Nat.le_trans (listText_mem_le ht) zz)
    have rr : Reads h₀ (.ref a) (.list xs) (a :: as) := .list q1 q2 q3 q4
    have na : a ∉ bs := not_mem_of_deeper rr (Nat.lt_of_lt_of_le (Nat.lt_succ_self _) (by simp only [PyData.depth]; exact Nat.le_refl _)) hb
    refine ⟨a :: bs, hb.cons rr (by simp only [PyData.depth]; omega), ?_⟩
    simp only [PyData.depth, PyData.shown]
    obtain ⟨l⟩ := vs
    match l, q4, hk, q3 with
    | [], q4, hk, q3 =>
      cases (show ReadsAll h₀ [] xs _ from q4)
      simp only [PyData.shownAll, listText_nil]
      exact ReprK.listEmpty q1 q2 q3
    | x :: l, q4, hk, q3 => exact ReprK.list q1 q2 q3 na (by simpa using hk.length_eq) (fun i y e => hk.item i y (by simpa using e))
  | _, _, _, .tuple (a := a) (xs := xs) (as := as) q1 q2 q3 q4, hs, hsm, hz => by
    have zz : (tupleText (PyData.shownAll xs)).length ≤ sizeLine := by simpa only [PyData.shown] using hz
    obtain ⟨bs, hb, hk⟩ := reprQs q4 (by simpa [PyData.showable] using hs) hsm (fun t ht => Nat.le_trans (tupleText_mem_le ht) zz)
    have rr : Reads h₀ (.ref a) (.tuple xs) as := .tuple q1 q2 q3 q4
    have na : a ∉ bs := not_mem_of_deeper rr (Nat.lt_of_lt_of_le (Nat.lt_succ_self _) (by simp only [PyData.depth]; exact Nat.le_refl _)) hb
    refine ⟨a :: bs, hb.cons rr (by simp only [PyData.depth]; omega), ?_⟩
    simp only [PyData.depth, PyData.shown]
    exact ReprK.tuple q1 q2 q3 na hk
  | _, _, _, .dict (a := a) (es := es) (kvs := kvs) (as := as) (bs := cs) q1 q2 q3 q4 q5, hs, hsm, hz => by
    have zz : (dictText (PyData.shownKv kvs)).length ≤ sizeLine := by simpa only [PyData.shown] using hz
    have no : a ≠ sysModules := hsm a (List.mem_cons_self ..) ⟨_, _, _, q1, q3⟩
    obtain ⟨s1, s2⟩ := PyData.showableKv_split kvs (by simpa [PyData.showable] using hs)
    obtain ⟨b1, m1, k1⟩ := reprQs q4 s1 (hsm.sub fun b m => List.mem_append_left _ (List.mem_cons_of_mem _ m)) (fun t ht => let ⟨p, hp, hl⟩ := PyData.shownKv_key_le kvs t ht; Nat.le_trans hl (Nat.le_trans (dictText_mem_le hp) zz))
    obtain ⟨b2, m2, k2⟩ := reprQs q5 s2 (hsm.sub fun b m => List.mem_append_right _ m) (fun t ht => let ⟨p, hp, hl⟩ := PyData.shownKv_val_le kvs t ht; Nat.le_trans hl (Nat.le_trans (dictText_mem_le hp) zz))
    have rr : Reads h₀ (.ref a) (.dict kvs) _ := .dict q1 q2 q3 q4 q5
    have hb : ReadAtMost h₀ (PyData.depthKv kvs) (b1 ++ b2) := (m1.mono (PyData.depthAll_keys_le kvs)).append (m2.mono (PyData.depthAll_vals_le kvs))
    have na : a ∉ b1 ++ b2 := not_mem_of_deeper rr (Nat.lt_of_lt_of_le (Nat.lt_succ_self _) (by simp only [PyData.depth]; exact Nat.le_refl _)) hb
    refine ⟨a :: (b1 ++ b2), hb.cons rr (by simp only [PyData.depth]; omega), ?_⟩
    simp only [PyData.depth, PyData.shown, PyData.shownKv_eq]
    exact ReprK.dict q1 q2 q3 (beq_eq_false_iff_ne.mpr no) na (ReprEntriesK.of_two es.toList _ _
      (k1.more_le (fun b hb => List.mem_append_left _ hb) (PyData.depthAll_keys_le kvs)) (k2.more_le (fun b hb => List.mem_append_right _ hb) (PyData.depthAll_vals_le kvs)))
theorem reprQs : ∀ {vs : List Value} {ds : List PyData} {as : List Addr}, ReadsAll h₀ vs ds as → PyData.showableAll ds = true → NoMods h₀ as → (∀ t ∈ PyData.shownAll ds, t.length ≤ sizeLine) →
    ∃ bs, ReadAtMost h₀ (PyData.depthAll ds) bs ∧ ReprAllK prog w bs h₀ (PyData.depthAll ds) vs (PyData.shownAll ds)
  | _, _, _, .nil, _, _, _ => ⟨[], (fun _ z => nomatch z), by simp only [PyData.shownAll]; exact .nil⟩
  | _, _, _, .cons (d := d) (ds := ds) r rs, hs, hsm, hz => by
    have ss : d.showable = true ∧ PyData.showableAll ds = true := by simpa [PyData.showableAll] using hs
    obtain ⟨b1, m1, k1⟩ := reprQ r ss.1 (hsm.sub fun b m => List.mem_append_left _ m) (hz _ (by simp only [PyData.shownAll]; exact List.mem_cons_self ..))
    obtain ⟨b2, m2, k2⟩ := reprQs rs ss.2 (hsm.sub fun b m => List.mem_append_right _ m) (fun t ht => hz t (by simp only [PyData.shownAll]; exact List.mem_cons_of_mem _ ht))
    have e : PyData.depthAll (d :: ds) = max d.depth (PyData.depthAll ds) := by simp only [PyData.depthAll]
    refine ⟨b1 ++ b2, ?_, ?_⟩
    · rw [e]; exact (m1.mono (Nat.le_max_left _ _)).append (m2.mono (Nat.le_max_right _ _))
    · rw [e]; simp only [PyData.shownAll]
      exact .cons ((k1.more fun b hb => List.mem_append_left _ hb).level_le (Nat.le_max_left _ _)) (k2.more_le (fun b hb => List.mem_append_right _ hb) (Nat.le_max_right _ _))
end
theorem showsQ {a : Addr} {d : PyData} {as : List Addr} (r : Reads h₀ (.ref a) d as) (hs : d.showable = true) (hsm : NoMods h₀ as) (hsz : d.shown.length ≤ sizeLine) : ∃ T idr, ShowsBy prog w h₀ a d T idr := by
  cases r with
  | list q1 q2 q3 q4 =>
    rename_i o vs n xs as
    have zz : (listText (PyData.shownAll xs)).length ≤ sizeLine := by simpa only [PyData.shown] using hsz
    obtain ⟨bs, hb, hk⟩ := reprQs (prog := prog) (w := w) q4 (by simpa [PyData.showable] using hs) (hsm.sub fun b m => List.mem_cons_of_mem _ m) (fun t ht => Nat.le_trans (listText_mem_le ht) zz)
    have na : a ∉ bs := not_mem_of_deeper (.list q1 q2 q3 q4) (by simp only [PyData.depth]; omega) hb
    refine ⟨"list", "list.__repr__", F.slot_list_repr.toG, F.slot_list_str, F.slot_list_format, fun s k => ⟨o, k _ _ q1, q2⟩, fun A E s Q hg hu k hQ => ?_⟩
    simp only [PyData.depth] at hu
    simp only [PyData.shown] at hQ
    obtain ⟨l⟩ := vs
    match l, q4, hk, q3 with
    | [], q4, hk, q3 =>
      cases (show ReadsAll h₀ [] xs _ from q4)
      simp only [PyData.shownAll, listText_nil] at hQ
      exact call_list_repr_empty ⟨o, k _ _ q1, q2⟩ (k _ _ q1) q3 (hQ s.heap _ _ fun _ _ e => e)
    | x :: l, q4, hk, q3 => exact call_list_reprK q1 q2 q3 na (by simpa using hk.length_eq) (fun i y e => hk.item i y (by simpa using e)) hg (fun b _ => Clear.nil b) hu k hQ zz
  | tuple q1 q2 q3 q4 =>
    rename_i o vs n xs
    have zz : (tupleText (PyData.shownAll xs)).length ≤ sizeLine := by simpa only [PyData.shown] using hsz
    obtain ⟨bs, hb, hk⟩ := reprQs (prog := prog) (w := w) q4 (by simpa [PyData.showable] using hs) hsm (fun t ht => Nat.le_trans (tupleText_mem_le ht) zz)
    have na : a ∉ bs := not_mem_of_deeper (.tuple q1 q2 q3 q4) (by simp only [PyData.depth]; omega) hb
    refine ⟨"tuple", "tuple.__repr__", F.slot_tuple_repr, F.slot_tuple_str, F.slot_tuple_format, fun s k => ⟨o, k _ _ q1, q2⟩, fun A E s Q hg hu k hQ => ?_⟩
    simp only [PyData.depth] at hu
    simp only [PyData.shown] at hQ
    exact call_tuple_reprK q1 q2 q3 na hk hg (fun b _ => Clear.nil b) hu k hQ zz
  | dict q1 q2 q3 q4 q5 =>
    rename_i o es n kvs as cs
    have zz : (dictText (PyData.shownKv kvs)).length ≤ sizeLine := by simpa only [PyData.shown] using hsz
    have no : a ≠ sysModules := hsm a (List.mem_cons_self ..) ⟨_, _, _, q1, q3⟩
    obtain ⟨s1, s2⟩ := PyData.showableKv_split kvs (by simpa [PyData.showable] using hs)
    obtain ⟨b1, m1, k1⟩ := reprQs (prog := prog) (w := w) q4 s1 (hsm.sub fun b m => List.mem_append_left _ (List.mem_cons_of_mem _ m)) (fun t ht => let ⟨p, hp, hl⟩ := PyData.shownKv_key_le kvs t ht; Nat.le_trans hl (Nat.le_trans (dictText_mem_le hp) zz))
    obtain ⟨b2, m2, k2⟩ := reprQs (prog := prog) (w := w) q5 s2 (hsm.sub fun b m => List.mem_append_right _ m) (fun t ht => let ⟨p, hp, hl⟩ := PyData.shownKv_val_le kvs t ht; Nat.le_trans hl (Nat.le_trans (dictText_mem_le hp) zz))
    have hb : ReadAtMost h₀ (PyData.depthKv kvs) (b1 ++ b2) := (m1.mono (PyData.depthAll_keys_le kvs)).append (m2.mono (PyData.depthAll_vals_le kvs))
    have na : a ∉ b1 ++ b2 := not_mem_of_deeper (.dict q1 q2 q3 q4 q5) (by simp only [PyData.depth]; omega) hb
    refine ⟨"dict", "dict.__repr__", F.slot_dict_repr, F.slot_dict_str, F.slot_dict_format, fun s k => ⟨o, k _ _ q1, q2⟩, fun A E s Q hg hu k hQ => ?_⟩
    simp only [PyData.depth] at hu
    simp only [PyData.shown, PyData.shownKv_eq] at hQ
    exact call_dict_reprK q1 q2 q3 (beq_eq_false_iff_ne.mpr no) na (ReprEntriesK.of_two es.toList _ _
      (k1.more_le (fun b hb => List.mem_append_left _ hb) (PyData.depthAll_keys_le kvs)) (k2.more_le (fun b hb => List.mem_append_right _ hb) (PyData.depthAll_vals_le kvs))) hg (fun b _ => Clear.nil b) hu k hQ (by rw [← PyData.shownKv_eq]; exact zz)
end
end PySem

namespace L2
open PySem PySem.Spec PyProof.Rows
/-- a key as data -/
def kD : Key → PyData
  | .inl i => .int i
  | .inr x => .str x
mutual
/-- v reads as d, dicts among it -/
inductive Dq (K : PySem.W.Frag) (H : Hp) : V → PyData → Prop
  | non : Dq K H .non .none
  | bl (b : Bool) : Dq K H (.bl b) (.bool b)
  | int (i : Int) : Dq K H (.int i) (.int i)
  | str (x : Str) : Dq K H (.str x) (.str x)
  | lst {a : Addr} {xs : List V} {ds : List PyData} : SqL K H a xs → Dqs K H xs ds → Dq K H (.ref a) (.list ds)
  | tup {a : Addr} {xs : List V} {ds : List PyData} : SqT K H a xs → Dqs K H xs ds → Dq K H (.ref a) (.tuple ds)
  | dct {a : Addr} {kvs : List (Key × V)} {ds : List (PyData × PyData)} : H a = some (.dK kvs) → Dkv K H kvs ds → Dq K H (.ref a) (.dict ds)
inductive Dqs (K : PySem.W.Frag) (H : Hp) : List V → List PyData → Prop
  | nil : Dqs K H [] []
  | cons {v : V} {vs : List V} {d : PyData} {ds : List PyData} : Dq K H v d → Dqs K H vs ds → Dqs K H (v :: vs) (d :: ds)
inductive Dkv (K : PySem.W.Frag) (H : Hp) : List (Key × V) → List (PyData × PyData) → Prop
  | nil : Dkv K H [] []
  | cons {k : Key} {v : V} {kvs : List (Key × V)} {d : PyData} {ds : List (PyData × PyData)} : Dq K H v d → Dkv K H kvs ds → Dkv K H ((k, v) :: kvs) ((kD k, d) :: ds)
end
theorem _root_.PySem.NoMods.nil {h : Heap} : NoMods h [] := fun _ z => nomatch z
theorem _root_.PySem.NoMods.app {h : Heap} {as bs : List Addr} (x : NoMods h as) (y : NoMods h bs) : NoMods h (as ++ bs) := fun b m => (List.mem_append.mp m).elim (x b) (y b)
theorem key_reads {h : Heap} {k : Key} {u : Value} (e : keyIs k u = true) : Reads h u (kD k) [] := by
  rcases keyIs_shape e with ⟨i, t, rfl, rfl⟩ | ⟨x, t, rfl, rfl⟩
  · exact .int i t
  · exact .str x t
section
variable {X : Cx} {pins : List (Addr × Obj)} {σ : St} {H : Hp} {s : Shared}
mutual
theorem Dq.reads (I : Inv X pins σ H s) : ∀ {v : V} {d : PyData} {u : Value}, Dq X.K H v d → RelV v u → ∃ as, Reads s.heap u d as ∧ NoMods s.heap as
  | _, _, _, .non, r => by cases r; exact ⟨_, .none, .nil⟩
  | _, _, _, .bl b, r => by cases r; exact ⟨_, .bool b, .nil⟩
  | _, _, _, .int i, r => by obtain ⟨t, rfl⟩ := r; exact ⟨_, .int i t, .nil⟩
  | _, _, _, .str x, r => by obtain ⟨t, rfl⟩ := r; exact ⟨_, .str x t, .nil⟩
  | _, _, u, .lst (a := a) q ds, r => by
    obtain rfl : u = Value.ref a := r
    obtain ⟨its, rv, p, hz⟩ := I.list q
    obtain ⟨as, rs, nm⟩ := Dqs.reads I ds rv
    obtain ⟨o, e1, e2, n, e3⟩ := p.isList
    refine ⟨a :: as, .list e1 e2 e3 (by simpa using rs), fun b m => ?_⟩
    rcases List.mem_cons.mp m with rfl | m
    · rintro ⟨o', es, n', e4, e5⟩
      rw [e1] at e4
      cases e4
      rw [e3] at e5
      cases e5
    · exact nm b m
  | _, _, u, .tup (a := a) q ds, r => by
    obtain rfl : u = Value.ref a := r
    obtain ⟨its, rv, p, hz⟩ := I.tuple q
    obtain ⟨as, rs, nm⟩ := Dqs.reads I ds rv
    obtain ⟨o, e1, e2, n, e3⟩ := (show s.heap.IsTuple a its.toArray from p)
    exact ⟨as, .tuple e1 e2 e3 (by simpa using rs), nm⟩
  | _, _, u, .dct (a := a) q ds, r => by
    obtain rfl : u = Value.ref a := r
    obtain ⟨_, hm, vs, kv, o, es, ep, e1, e2, e3, e4, e5, e6⟩ := (show ObjOk X.prog X.w H s.heap a (.dK _) from I.hok a _ q)
    obtain ⟨bs, rk, rv, nm⟩ := Dkv.reads I ds kv e5
    refine ⟨a :: [] ++ bs, .dict e1 e2.1 e3 rk rv, ?_⟩
    intro b m
    rcases List.mem_cons.mp m with rfl | m
    · intro _
      exact beq_eq_false_iff_ne.mp hm
    · exact nm b m
theorem Dqs.reads (I : Inv X pins σ H s) : ∀ {vs : List V} {ds : List PyData} {us : List Value}, Dqs X.K H vs ds → Vals vs us → ∃ as, ReadsAll s.heap us ds as ∧ NoMods s.heap as
  | _, _, _, .nil, .nil => ⟨_, .nil, .nil⟩
  | _, _, _, .cons q qs, .cons r rs => by
    obtain ⟨as, r1, n1⟩ := Dq.reads I q r
    obtain ⟨bs, r2, n2⟩ := Dqs.reads I qs rs
    exact ⟨as ++ bs, .cons r1 r2, n1.app n2⟩
theorem Dkv.reads (I : Inv X pins σ H s) : ∀ {kvs : List (Key × V)} {ds : List (PyData × PyData)} {us : List (Key × Value)} {es : List DictEntry}, Dkv X.K H kvs ds → KV kvs us → Pairs (mixKind X.prog X.w) es us →
    ∃ bs, ReadsAll s.heap (es.map (·.key)) (ds.map (·.1)) [] ∧ ReadsAll s.heap (es.map (·.val)) (ds.map (·.2)) bs ∧ NoMods s.heap bs
  | _, _, _, _, .nil, .nil, .nil => ⟨_, .nil, .nil, .nil⟩
  | _, _, _, _, .cons (k := k) q qs, .cons r rs, .cons hk hv hp => by
    obtain ⟨as, r1, n1⟩ := Dq.reads I q r.2
    obtain ⟨bs, rk, rv, n2⟩ := Dkv.reads I qs rs hp
    have kr := key_reads (h := s.heap) (k := k) (by rw [show k = _ from r.1]; exact hk)
    exact ⟨as ++ bs, ReadsAll.cons kr rk, by rw [List.map_cons, hv]; exact ReadsAll.cons r1 rv, n1.app n2⟩
end
end
/-- repr(x), x data: its text -/
def rRepr (K : PySem.W.Frag) : List V → Hp → VK → Prop := fun xs H Q => ∃ x d, xs = [x] ∧ Dq K H x d ∧ d.showable = true ∧ d.depth ≤ 60 ∧ d.shown.length ≤ sizeLine ∧ Q (.str d.shown) H
theorem call_repr {X : Cx} (hG : X.A.guards = some []) (hu : X.A.units + 64 < cLine) : CallR X (.builtin "repr") (rRepr X.K) := by
  intro pins s σ H xs us Q I r h
  obtain ⟨x, d, rfl, dq, hs, hd, hz, q⟩ := h
  cases r with
  | cons rx rr =>
  cases rr
  obtain ⟨as, rd, nm⟩ := dq.reads I rx
  have fin : ∀ (h' : Heap) (u : Tok) (tk : Nat), (∀ b o, s.heap.get? b = some o → h'.get? b = some o) → EP X pins σ Q (.str d.shown u) { s with heap := h', toks := tk } := fun h' u tk k => ⟨.str d.shown, H, I.kept k, ⟨u, rfl⟩, q⟩
  cases rd with
  | none => exact PySem.P.repr_of_none (fin s.heap _ _ fun _ _ e => e)
  | bool b => exact PySem.P.repr_of_bool (fin s.heap _ _ fun _ _ e => e)
  | int i t => exact PySem.P.repr_of_int (by simpa [PyData.showable] using hs) (fin s.heap _ _ fun _ _ e => e)
  | str y t => exact PySem.P.repr_of_str (fin s.heap _ _ fun _ _ e => e) (by simpa only [PyData.shown] using hz)
  | list q1 q2 q3 q4 =>
    obtain ⟨T, idr, S⟩ := showsQ (prog := X.prog) (w := X.w) (.list q1 q2 q3 q4) hs nm hz
    exact call_repr_slot (by omega) (S.typeIs s fun _ _ e => e) S.slotRepr (S.call X.A.in1 _ s _ hG (by show X.A.units + 1 + _ < cLine; omega) (fun _ _ e => e) fun h' u tk k => ⟨_, _, rfl, fin h' u tk k⟩)
  | tuple q1 q2 q3 q4 =>
    obtain ⟨T, idr, S⟩ := showsQ (prog := X.prog) (w := X.w) (.tuple q1 q2 q3 q4) hs nm hz
    exact call_repr_slot (by omega) (S.typeIs s fun _ _ e => e) S.slotRepr (S.call X.A.in1 _ s _ hG (by show X.A.units + 1 + _ < cLine; omega) (fun _ _ e => e) fun h' u tk k => ⟨_, _, rfl, fin h' u tk k⟩)
  | dict q1 q2 q3 q4 q5 =>
    obtain ⟨T, idr, S⟩ := showsQ (prog := X.prog) (w := X.w) (.dict q1 q2 q3 q4 q5) hs nm hz
    exact call_repr_slot (by omega) (S.typeIs s fun _ _ e => e) S.slotRepr (S.call X.A.in1 _ s _ hG (by show X.A.units + 1 + _ < cLine; omega) (fun _ _ e => e) fun h' u tk k => ⟨_, _, rfl, fin h' u tk k⟩)
end L2
namespace L2
open PySem PySem.Spec PyProof.Rows
/-! ### data over heaps that grow -/
/-- all that stands in J stands in H, and not where N says -/
def Sub (N : Addr → Prop) (J H : Hp) : Prop := ∀ b o, J b = some o → H b = some o ∧ ¬ N b
/-- all but at N stands -/
def Kept (N : Addr → Prop) (H H' : Hp) : Prop := ∀ b o, H b = some o → ¬ N b → H' b = some o
theorem Kept.refl {N : Addr → Prop} {H : Hp} : Kept N H H := fun _ _ e _ => e
theorem Kept.trans {N : Addr → Prop} {H H1 H2 : Hp} (a : Kept N H H1) (b : Kept N H1 H2) : Kept N H H2 := fun x o e n => b x o (a x o e n) n
theorem Kept.upd {N : Addr → Prop} {H : Hp} {p : Addr} {o : HO} (h : N p) : Kept N H (upd H p o) := fun b u e n => by
  have z : b ≠ p := fun z => n (by rw [z]; exact h)
  rw [upd_ne z]
  exact e
theorem Kept.new {N : Addr → Prop} {H : Hp} {p : Addr} {o : HO} (h : H p = none) : Kept N H (L2.upd H p o) := fun b u e n => by
  have z : b ≠ p := fun z => by rw [z, h] at e; cases e
  rw [upd_ne z]
  exact e
theorem Kept.mono {N M : Addr → Prop} {H H' : Hp} (a : Kept N H H') (h : ∀ b, N b → M b) : Kept M H H' := fun b o e n => a b o e fun z => n (h b z)
theorem Sub.kept {N : Addr → Prop} {J H H' : Hp} (s : Sub N J H) (k : Kept N H H') : Sub N J H' := fun b o e => ⟨k b o (s b o e).1 (s b o e).2, (s b o e).2⟩
theorem Rd.up {J H : Hp} {a : Addr} {u : HO} (s : ∀ b o, J b = some o → H b = some o) (r : Rd J a u) : Rd H a u := r.imp (s a _) fun ⟨o, e⟩ => ⟨o, s a _ e⟩
theorem SqL.up {K : PySem.W.Frag} {J H : Hp} {a : Addr} {xs : List V} (s : ∀ b o, J b = some o → H b = some o) (r : SqL K J a xs) : SqL K H a xs := r.imp (Rd.up s) id
theorem SqT.up {K : PySem.W.Frag} {J H : Hp} {a : Addr} {xs : List V} (s : ∀ b o, J b = some o → H b = some o) (r : SqT K J a xs) : SqT K H a xs := r.imp (Rd.up s) id
mutual
theorem Dq.up {K : PySem.W.Frag} {J H : Hp} (s : ∀ b o, J b = some o → H b = some o) : ∀ {v : V} {d : PyData}, Dq K J v d → Dq K H v d
  | _, _, .non => .non
  | _, _, .bl b => .bl b
  | _, _, .int i => .int i
  | _, _, .str x => .str x
  | _, _, .lst q qs => .lst (q.up s) (Dqs.up s qs)
  | _, _, .tup q qs => .tup (q.up s) (Dqs.up s qs)
  | _, _, .dct q qs => .dct (s _ _ q) (Dkv.up s qs)
theorem Dqs.up {K : PySem.W.Frag} {J H : Hp} (s : ∀ b o, J b = some o → H b = some o) : ∀ {v : List V} {d : List PyData}, Dqs K J v d → Dqs K H v d
  | _, _, .nil => .nil
  | _, _, .cons q qs => .cons (Dq.up s q) (Dqs.up s qs)
theorem Dkv.up {K : PySem.W.Frag} {J H : Hp} (s : ∀ b o, J b = some o → H b = some o) : ∀ {v : List (Key × V)} {d : List (PyData × PyData)}, Dkv K J v d → Dkv K H v d
  | _, _, .nil => .nil
  | _, _, .cons q qs => .cons (Dq.up s q) (Dkv.up s qs)
end
/-- v reads as d, away from N -/
def Av (N : Addr → Prop) (K : PySem.W.Frag) (H : Hp) (v : V) (d : PyData) : Prop := ∃ J, Sub N J H ∧ Dq K J v d
def Avs (N : Addr → Prop) (K : PySem.W.Frag) (H : Hp) (vs : List V) (ds : List PyData) : Prop := ∃ J, Sub N J H ∧ Dqs K J vs ds
section
variable {N M : Addr → Prop} {K : PySem.W.Frag} {H H' : Hp} {v : V} {vs : List V} {d : PyData} {ds : List PyData}
theorem Av.dq (a : Av N K H v d) : Dq K H v d := let ⟨_, s, q⟩ := a; q.up fun b o e => (s b o e).1
theorem Avs.dqs (a : Avs N K H vs ds) : Dqs K H vs ds := let ⟨_, s, q⟩ := a; q.up fun b o e => (s b o e).1
theorem Av.kept (a : Av N K H v d) (k : Kept N H H') : Av N K H' v d := let ⟨J, s, q⟩ := a; ⟨J, s.kept k, q⟩
theorem Avs.kept (a : Avs N K H vs ds) (k : Kept N H H') : Avs N K H' vs ds := let ⟨J, s, q⟩ := a; ⟨J, s.kept k, q⟩
theorem Av.mono (a : Av N K H v d) (h : ∀ b, H b ≠ none → M b → N b) : Av M K H v d := let ⟨J, s, q⟩ := a; ⟨J, fun b o e => ⟨(s b o e).1, fun z => (s b o e).2 (h b (by rw [(s b o e).1]; exact fun z => nomatch z) z)⟩, q⟩
/-- two parts of a heap together -/
def both (J L : Hp) : Hp := fun b => (J b).or (L b)
theorem both_l {J L : Hp} : ∀ b o, J b = some o → both J L b = some o := fun b o e => by simp [both, e]
theorem both_r {J L : Hp} (s : Sub N J H) (t : Sub N L H) : ∀ b o, L b = some o → both J L b = some o := fun b o e => by
  unfold both
  cases h : J b with
  | none => simpa using e
  | some u =>
    have := (s b u h).1.symm.trans (t b o e).1
    simpa using this
theorem both_sub {J L : Hp} (s : Sub N J H) (t : Sub N L H) : Sub N (both J L) H := fun b o e => by
  unfold both at e
  cases h : J b with
  | none =>
    rw [h] at e
    exact t b o (by simpa using e)
  | some u =>
    rw [h] at e
    exact s b o (by rw [h]; simpa using e)
theorem Avs.nil : Avs N K H [] [] := ⟨fun _ => none, (fun _ _ e => nomatch e), .nil⟩
theorem Avs.cons (a : Av N K H v d) (b : Avs N K H vs ds) : Avs N K H (v :: vs) (d :: ds) := by
  obtain ⟨J, s, q⟩ := a
  obtain ⟨L, t, r⟩ := b
  exact ⟨both J L, both_sub s t, .cons (q.up both_l) (r.up (both_r s t))⟩
theorem Avs.app {ws : List V} {es : List PyData} (a : Avs N K H vs ds) (b : Avs N K H ws es) : Avs N K H (vs ++ ws) (ds ++ es) := by
  obtain ⟨J, s, q⟩ := a
  obtain ⟨L, t, r⟩ := b
  refine ⟨both J L, both_sub s t, ?_⟩
  have q2 := q.up (both_l (L := L))
  have r2 := r.up (both_r s t)
  clear q r
  induction vs generalizing ds with
  | nil => cases q2; exact r2
  | cons x xs ih =>
    cases q2 with
    | cons h t => exact .cons h (ih t)
theorem Dqs.get : ∀ {vs : List V} {ds : List PyData}, Dqs K H vs ds → ∀ (i : Nat) (v : V), vs[i]? = some v → ∃ d, ds[i]? = some d ∧ Dq K H v d
  | _, _, .nil, i, v, e => by simp at e
  | _, _, .cons q qs, 0, v, e => ⟨_, rfl, by
    simp only [List.getElem?_cons_zero, Option.some.injEq] at e
    exact e ▸ q⟩
  | _, _, .cons q qs, i + 1, v, e => qs.get i v (by simpa using e)
theorem Dqs.len : ∀ {vs : List V} {ds : List PyData}, Dqs K H vs ds → vs.length = ds.length
  | _, _, .nil => rfl
  | _, _, .cons q qs => congrArg (· + 1) qs.len
theorem Avs.get (a : Avs N K H vs ds) (i : Nat) (v : V) (e : vs[i]? = some v) : ∃ d, ds[i]? = some d ∧ Av N K H v d := by
  obtain ⟨J, s, q⟩ := a
  obtain ⟨d, h, q⟩ := q.get i v e
  exact ⟨d, h, J, s, q⟩
theorem Avs.len (a : Avs N K H vs ds) : vs.length = ds.length := let ⟨_, _, q⟩ := a; q.len
theorem Dqs.drop : ∀ (n : Nat) {vs : List V} {ds : List PyData}, Dqs K H vs ds → Dqs K H (vs.drop n) (ds.drop n)
  | 0, _, _, q => q
  | n + 1, _, _, .nil => .nil
  | n + 1, _, _, .cons q qs => qs.drop n
theorem Dqs.take : ∀ (n : Nat) {vs : List V} {ds : List PyData}, Dqs K H vs ds → Dqs K H (vs.take n) (ds.take n)
  | 0, _, _, q => .nil
  | n + 1, _, _, .nil => .nil
  | n + 1, _, _, .cons q qs => .cons q (qs.take n)
theorem Avs.drop (n : Nat) (a : Avs N K H vs ds) : Avs N K H (vs.drop n) (ds.drop n) := let ⟨J, s, q⟩ := a; ⟨J, s, q.drop n⟩
theorem Avs.take (n : Nat) (a : Avs N K H vs ds) : Avs N K H (vs.take n) (ds.take n) := let ⟨J, s, q⟩ := a; ⟨J, s, q.take n⟩
/-- a tuple that stands, its items away from N -/
theorem Av.tuple {a : Addr} (h : H a = some (.tup vs)) (n : ¬ N a) (b : Avs N K H vs ds) : Av N K H (.ref a) (.tuple ds) := by
  obtain ⟨J, s, q⟩ := b
  let L : Hp := fun b => if b = a then some (.tup vs) else none
  have t : Sub N L H := fun b o e => by
    by_cases z : b = a
    · subst z
      have : some (HO.tup vs) = some o := by simpa [L] using e
      cases this
      exact ⟨h, n⟩
    · simp [L, z] at e
  exact ⟨both J L, both_sub s t, .tup (SqT.of (both_r s t a _ (by simp [L]))) (q.up both_l)⟩
theorem Av.list {a : Addr} (h : H a = some (.lst vs)) (n : ¬ N a) (b : Avs N K H vs ds) : Av N K H (.ref a) (.list ds) := by
  obtain ⟨J, s, q⟩ := b
  let L : Hp := fun b => if b = a then some (.lst vs) else none
  have t : Sub N L H := fun b o e => by
    by_cases z : b = a
    · subst z
      have : some (HO.lst vs) = some o := by simpa [L] using e
      cases this
      exact ⟨h, n⟩
    · simp [L, z] at e
  exact ⟨both J L, both_sub s t, .lst (SqL.of (both_r s t a _ (by simp [L]))) (q.up both_l)⟩
/-- what a tuple's or a list's data are -/
theorem Av.untuple {ds : List PyData} (a : Av N K H v (.tuple ds)) : ∃ p xs, v = .ref p ∧ SqT K H p xs ∧ Avs N K H xs ds := by
  obtain ⟨J, s, q⟩ := a
  cases q with
  | tup q qs => exact ⟨_, _, rfl, q.up fun b o e => (s b o e).1, J, s, qs⟩
theorem Av.unlist {ds : List PyData} (a : Av N K H v (.list ds)) : ∃ p xs, v = .ref p ∧ SqL K H p xs ∧ Avs N K H xs ds := by
  obtain ⟨J, s, q⟩ := a
  cases q with
  | lst q qs => exact ⟨_, _, rfl, q.up fun b o e => (s b o e).1, J, s, qs⟩
end
/-! ### isinstance of data -/
def kindD : PyData → String
  | .none => "NoneType"
  | .bool _ => "bool"
  | .int _ => "int"
  | .str _ => "str"
  | .list _ => "list"
  | .tuple _ => "tuple"
  | .dict _ => "dict"
theorem Dq.ty {K : PySem.W.Frag} {H : Hp} {v : V} {d : PyData} (q : Dq K H v d) : TyX K H v (.type (kindD d)) := by
  cases q with
  | non => exact .base .non
  | bl b => exact .base (.bl b)
  | int i => exact .base (.int i)
  | str x => exact .base (.str x)
  | lst q _ =>
    rcases q with (q | ⟨o, q⟩) | ⟨o, its, n, e, c, _⟩
    · exact .base (.lst q)
    · exact .base (.frz q)
    · exact .kList e c
  | tup q _ =>
    rcases q with (q | ⟨o, q⟩) | ⟨o, its, n, e, c, _⟩
    · exact .base (.tup q)
    · exact .fTuple q
    · exact .kTuple e c
  | dct q _ => exact .base (.dK q)
/-- whether data are of a built-in class -/
def isD (n : String) (d : PyData) : Bool := kindD d == n || (n == "int" && kindD d == "bool")
def five : List String := ["str", "tuple", "list", "int", "bool"]
theorem isD_kit (n : String) (hn : n ∈ five) (d : PyData) : kitB (kindD d) n = some (isD n d) := by
  simp only [five, List.mem_cons, List.not_mem_nil, or_false] at hn
  rcases hn with rfl | rfl | rfl | rfl | rfl <;> cases d <;> first | (simp only [kindD, isD]; decide +kernel)
/-- isinstance(x, T), x data -/
def rIsD (K : PySem.W.Frag) : List V → Hp → VK → Prop := fun xs H Q => ∃ x n d, xs = [x, .ty n] ∧ n ∈ five ∧ Dq K H x d ∧ Q (.bl (isD n d)) H
theorem call_isD {X : Cx} : CallR X (.builtin "isinstance") (rIsD X.K) := by
  intro pins s σ H xs us Q I r ⟨x, n, d, e, hn, q, k⟩
  exact call_isi pins s σ H xs us Q I r ⟨x, .ty n, _, _, isD n d, e, .ty n, q.ty, kit_ty (isD_kit n hn d), k⟩
/-- isinstance(x, (T1, T2)), x data -/
def rIsDT (K : PySem.W.Frag) : List V → Hp → VK → Prop := fun xs H Q => ∃ x n m d tp, xs = [x, .ref tp] ∧ H tp = some (.tup [.ty n, .ty m]) ∧ n ∈ five ∧ m ∈ five ∧ Dq K H x d ∧ Q (.bl (isD n d || isD m d)) H
theorem call_isDT {X : Cx} : CallR X (.builtin "isinstance") (rIsDT X.K) := by
  intro pins s σ H xs us Q I r ⟨x, n, m, d, tp, e, ht, hn, hm, q, k⟩
  refine call_isiT pins s σ H xs us Q I r ⟨x, tp, [.ty n, .ty m], .type (kindD d), [.type n, .type m], isD n d || isD m d, e, ht, .cons (.ty n) (.cons (.ty m) .nil), q.ty, ?_, k⟩
  refine kitAny_cons (kit_ty (isD_kit n hn d)) (fun e1 => kitAny_cons (kit_ty (isD_kit m hm d)) (fun e2 => ?_) fun e2 => ?_) fun e1 => ?_
  · rw [e1, e2]
    exact kitAny_nil
  · rw [e1, e2]
    rfl
  · rw [e1]
    rfl
/-! ### data and a text -/
section
variable {A : Around} {s : Shared}
open PySem.SeqAt
theorem dict_declines_str (l : Addr) (es : Array DictEntry) (n : Nat) (dd : Option Addr) (sl : Array (Option Value)) (b : Str) (u : Tok) :
    Meets (Builtin.«dict.__eq__» ⟨[.ref l, .str b u], []⟩) (fun _ R s => s.heap.get? l = some { cls := .type "dict", dict := dd, data := .dict es n, slots := sl } ∧ R (.ok (.ret .notImplemented)) s) := by
  refine .of_wp fun prog w A R s ⟨hl, h⟩ => ?_
  obtain ⟨hp, g, d, tk, os⟩ := s
  have f1 := F.sub_str_dict
  wp_walk using AutoSeq1.wpAny_loadPart' hl
  exact ⟨_, rfl, h⟩
theorem str_declines_dict (b : Str) (u : Tok) (l : Addr) (es : Array DictEntry) (n : Nat) (dd : Option Addr) (sl : Array (Option Value)) :
    Meets (Builtin.«str.__eq__» ⟨[.str b u, .ref l], []⟩) (fun _ R s => s.heap.get? l = some { cls := .type "dict", dict := dd, data := .dict es n, slots := sl } ∧ R (.ok (.ret .notImplemented)) s) := by
  refine .of_wp fun prog w A R s ⟨hl, h⟩ => ?_
  obtain ⟨hp, g, d, tk, os⟩ := s
  wp_walk using AutoSeq1.wpAny_loadPart' hl, wpAny_load hl
  exact ⟨_, rfl, h⟩
theorem RcAt.dict_str {l : Addr} {es : Array DictEntry} {n : Nat} {dd : Option Addr} {sl : Array (Option Value)} (b : Str) (u : Tok) (ho : s.heap.get? l = some { cls := .type "dict", dict := dd, data := .dict es n, slots := sl }) (hu : A.units < cLine) : RcAt A s (.ref l) (.str b u) false := by
  intro prog w E Q h
  refine rc_eq_decline_or (k := false) ⟨_, ho, rfl⟩ (typeIs_str s b u) (by decide) F.sub_str_dict F.slot_dict_eq F.slot_str_eq_refl ?_ ?_ (fun _ hq => wpAny_of_eq (rfl : isSame (.ref l) (.str b u) = pure false) hq) (.inr hu) h
  · exact fun _ hq => call_meets F.slot_dict_eq ⟨_, ho, rfl⟩ F.entry_dict_eq (F.args_dict_eq_2 _ _) (dict_declines_str l es n dd sl b u) ⟨ho, hq⟩
  · exact fun _ hq => call_meets F.slot_str_eq_refl (typeIs_str s b u) F.entry_str_eq (F.args_str_eq_2 _ _) (str_declines_dict b u l es n dd sl) ⟨ho, hq⟩
end
/-- whether data are this text -/
def eqS (d : PyData) (b : Str) : Bool := match d with
  | .str a => a == b
  | _ => false
/-- x == "..", x data -/
def rEqS (K : PySem.W.Frag) : R2 := fun x y H Q => ∃ d b, Dq K H x d ∧ y = .str b ∧ Q (.bl (eqS d b)) H
theorem op_eqS {X : Cx} (hu : X.A.units < cLine) : OpR X (compareOp .Eq) (rEqS X.K) := by
  intro pins s σ H x y v u Q I rx ry ⟨d, b, q, e, k⟩
  subst e
  obtain ⟨t, rfl⟩ := ry
  have fin : ∀ z, eqS d b = z → EP X pins σ Q (.bool z) s := fun z e => ⟨.bl z, H, I, rfl, e ▸ k⟩
  cases q with
  | non => cases rx; exact SeqAt.RcAt.none_str b t _ _ _ _ (fin _ rfl)
  | bl c => cases rx; exact SeqAt.RcAt.bool_str c b t _ _ _ _ (fin _ rfl)
  | int i => obtain ⟨r, rfl⟩ := rx; exact SeqAt.RcAt.int_str i r b t _ _ _ _ (fin _ rfl)
  | str a => obtain ⟨r, rfl⟩ := rx; exact SeqAt.RcAt.str_str a r b t _ _ _ _ (fin _ rfl)
  | lst hq _ =>
    cases rx
    obtain ⟨its, _, p, _⟩ := I.list hq
    exact SeqAt.RcAt.list_str b t p.isList hu _ _ _ _ (fin _ rfl)
  | tup hq _ =>
    cases rx
    obtain ⟨its, _, p, _⟩ := I.tuple hq
    exact SeqAt.RcAt.tuple_str b t p hu _ _ _ _ (fin _ rfl)
  | dct hq _ =>
    cases rx
    obtain ⟨_, _, vs, _, o, es, ep, e1, e2, e3, _⟩ := (show ObjOk X.prog X.w H s.heap _ (.dK _) from I.hok _ _ hq)
    obtain ⟨oc, od, odt, osl⟩ := o
    obtain ⟨rfl, _⟩ := e2
    simp only at e3
    subst e3
    exact RcAt.dict_str b t e1 hu _ _ _ _ (fin _ rfl)
end L2
/-! set(xs) of a list of ints and texts; len(set(xs)) -/
namespace L2
open PySem PySem.Spec PyProof.Rows
/-- what stands in the set behind so many keys, and how many -/
def gone (ks : List Key) (i : Nat) : Key → Bool := fun j => (ks.take i).any fun k => decide (j = k)
theorem gone_mem {ks : List Key} {i : Nat} {j : Key} : gone ks i j = true ↔ j ∈ ks.take i := by
  unfold gone
  rw [List.any_eq_true]
  exact ⟨fun ⟨k, m, e⟩ => of_decide_eq_true e ▸ m, fun m => ⟨j, m, decide_eq_true rfl⟩⟩
def kinds (ks : List Key) : Nat → Nat
  | 0 => 0
  | i + 1 => match ks[i]? with
    | some k => if gone ks i k = true then kinds ks i else kinds ks i + 1
    | none => kinds ks i
theorem kinds_le (ks : List Key) : ∀ i, kinds ks i ≤ i
  | 0 => Nat.le_refl _
  | i + 1 => by
    have := kinds_le ks i
    unfold kinds
    split
    · split <;> omega
    · omega
theorem kinds_nodup {ks : List Key} (h : ks.Nodup) : ∀ i, i ≤ ks.length → kinds ks i = i
  | 0, _ => rfl
  | i + 1, hi => by
    have ih := kinds_nodup h i (by omega)
    unfold kinds
    rw [List.getElem?_eq_getElem (by omega : i < ks.length)]
    have : gone ks i ks[i] = false := by
      refine Bool.eq_false_iff.mpr fun m => ?_
      obtain ⟨j, hj, e⟩ := List.getElem_of_mem (gone_mem.mp m)
      rw [List.length_take] at hj
      rw [List.getElem_take] at e
      exact List.pairwise_iff_getElem.mp h j i (by omega) (by omega) (by omega) e
    simp only [this, ih]
    rfl
theorem kinds_lt {ks : List Key} : ∀ i, i ≤ ks.length → kinds ks i = i → (ks.take i).Nodup
  | 0, _, _ => by simp
  | i + 1, hi, e => by
    unfold kinds at e
    rw [List.getElem?_eq_getElem (by omega : i < ks.length)] at e
    have le := kinds_le ks i
    simp only at e
    by_cases g : gone ks i ks[i] = true
    · rw [if_pos g] at e
      omega
    · rw [if_neg g] at e
      have ih := kinds_lt (ks := ks) i (by omega) (by omega)
      rw [List.take_succ_eq_append_getElem (by omega : i < ks.length)]
      refine List.nodup_append.mpr ⟨ih, by simp, fun a ma b mb => ?_⟩
      rw [List.mem_singleton] at mb
      subst mb
      intro ee
      subst ee
      exact g (gone_mem.mpr ma)
theorem set_same {P : Program} {w : World} {h : Heap} {a : Addr} {S S2 : Key → Bool} {n m : Nat} (x : h.SetOf (mixKind P w) a S n) (e : ∀ k, S k = S2 k) (en : n = m) : h.SetOf (mixKind P w) a S2 m := by
  obtain rfl : S = S2 := funext e
  subst en
  exact x
theorem kinds_iff {ks : List Key} : kinds ks ks.length = ks.length ↔ ks.Nodup :=
  ⟨fun e => by simpa using kinds_lt ks.length (Nat.le_refl _) e, fun h => kinds_nodup h _ (Nat.le_refl _)⟩
theorem gone_next {ks : List Key} {i : Nat} {k j : Key} (h : ks[i]? = some k) : (gone ks i j || decide (j = k)) = gone ks (i + 1) j := by
  unfold gone
  rw [List.take_add_one, h]
  simp [List.any_append]
section
variable {P : Program} {w : World} {A : Around} {R : Result → Shared → Prop} {I : Addr} {fp wr : List Addr} {G : Array GenState → Array GenState → Prop} {n : Nat} {Pv : Nat → Value → Prop} {St : Nat → Shared → Prop}
theorem fill_keys (W : WalksS P w A.in1 I fp wr G n Pv St) {S : Addr} (out : S ∉ fp) {ks : List Key} (hn : n = ks.length) (room : n + 1 < scanBound) (at_ : ∀ i v, Pv i v → ∃ k, ks[i]? = some k ∧ RelV (kV k) v) (left : Nat) :
    ∀ (i : Nat) (s : Shared), n - i = left → i ≤ n → St i s → s.heap.SetOf (mixKind P w) S (gone ks i) (kinds ks i) →
      (∀ s2, Moved (S :: wr) G s s2 → s2.heap.SetOf (mixKind P w) S (gone ks n) (kinds ks n) → R (.ok (.ret .none)) s2) →
      codeAny (model P w) A (.builtin "set.update.loop" ⟨[.ref S, .ref I], []⟩) R s := by
  have noW : S ∉ wr := fun m => out (W.sub _ m)
  have more : ∀ x ∈ wr, x ∈ S :: wr := fun _ m => List.mem_cons_of_mem _ m
  induction left with
  | zero =>
    intro i s e1 e2 st hS kR
    obtain rfl : i = n := by omega
    refine codeAny_builtin F.entry_set_update_loop ?_
    rw [F.plain_set_update_loop |> (Around.under_plainId · _)]
    refine (wpAny_bind (W.done s _ _ st fun s2 mv => ?_) : wpAny _ _ (pyNext (.ref I) >>= _) _ _ _)
    exact wpAny_pure (kR s2 (mv.mono more) (setOf_at hS fun o e => mv.heap S o noW e))
  | succ left ih =>
    intro i s e1 e2 st hS kR
    have lt : i < n := by omega
    refine codeAny_builtin F.entry_set_update_loop ?_
    rw [F.plain_set_update_loop |> (Around.under_plainId · _)]
    refine (wpAny_bind (W.item i s _ _ lt st fun v s2 pv st2 mv => ?_) : wpAny _ _ (pyNext (.ref I) >>= _) _ _ _)
    obtain ⟨k, hk, rk⟩ := at_ i v pv
    have hS2 := setOf_at hS fun o e => mv.heap S o noW e
    refine (wpAny_bind (wpAny_holding ?_) : wpAny _ _ (holding [v] (setAdd S v) >>= _) _ _ _)
    unfold setAdd
    have le := kinds_le ks i
    refine wpAny_holding (wpAny_bind ((mixKind P w).pyHash (kV_is rk) ?_))
    refine wpAny_setAddHashed_of (knd := mixKind P w) (s := { s2 with toks := s2.toks + 1 }) (kV_is rk) (key_scan rk) hS2 (by omega) fun h3 sb hS3 => ?_
    have hS4 : h3.SetOf (mixKind P w) S (gone ks (i + 1)) (kinds ks (i + 1)) := set_same hS3 (fun j => gone_next hk) (by
      conv => rhs; unfold kinds
      rw [hk])
    refine wpAny_pure ⟨plainId_quiet F.plain_set_update_loop _, ih (i + 1) _ (by omega) lt (W.frame _ s2 _ _ st2 (Nat.le_succ _) fun b m o e => ?_) hS4 fun s4 mv4 hS5 => ?_⟩
    · have ne : b ≠ S := fun z => out (z ▸ m)
      exact (sb.2 b ne).trans e
    · refine kR s4 (Moved.trans W.gtrans ((mv.mono more).then_heap (Nat.le_succ _) fun b o hb e => ?_) mv4) hS5
      have ne : b ≠ S := fun z => hb (z ▸ List.mem_cons_self)
      exact (sb.2 b ne).trans e
end
section
variable {P : Program} {w : World} {A : Around} {E : Value → Shared → Prop} {s : Shared}
/-- the empty set as it is made -/
abbrev bare0 (led : Bool) : Obj := { cls := .type "set", dict := none, data := .set #[] 0 (.fresh 0 0 led) }
theorem vals_at : ∀ {ks : List Key} {us : List Value}, Vals (ks.map kV) us → ∀ (i : Nat) (v : Value), us[i]? = some v → ∃ k, ks[i]? = some k ∧ RelV (kV k) v
  | [], [], .nil, i, v, h => by simp at h
  | k :: ks, _ :: _, .cons r rs, 0, v, h => ⟨k, rfl, by
    simp only [List.getElem?_cons_zero, Option.some.injEq] at h
    exact h ▸ r⟩
  | k :: ks, _ :: _, .cons r rs, i + 1, v, h => vals_at rs i v (by simpa using h)
theorem call_set_keys {l : Addr} {its : Array Value} {ks : List Key} {Q : Value → Shared → Prop} (cold : A.handled = none) (hl : s.heap.IsList l its) (rv : Vals (ks.map kV) its.toList) (room : its.size + 1 < scanBound)
    (h : ∀ (h2 : Heap) (tk : Nat), h2.SetOf (mixKind P w) s.heap.objs.size (gone ks ks.length) (kinds ks ks.length) → (∀ b o, s.heap.get? b = some o → h2.get? b = some o) → Q (.ref s.heap.objs.size) { s with heap := h2, toks := tk }) :
    wpAny (model P w) A (call (.type "set") [.ref l]) Q E s := by
  obtain ⟨m1, m2, hmro⟩ := F.called_set.mro
  have made_ := F.called_set.made
  have sub_ := F.called_set.sub
  have notT := F.called_set.notType
  have canC := F.called_set.canCreate
  have tc := F.typeCall_set_1 (.ref l)
  have sz : its.size = ks.length := by
    have := rv.length
    rw [List.length_map] at this
    simp [this]
  refine wpAny_call (codeAny_of_tree ?_)
  change wpAny (model P w) _ (callAny (.type "set") _) _ _ _
  refine wpAny_pure ⟨Code.quiet_builtin _ (by decide +kernel), ?_⟩
  refine codeAny_builtin F.entry_type_call ?_
  rw [Around.under_plain (weight_type_call_type "set" [.ref l] []) rfl]
  repeat (any_goals (first | assumption | wp_step))
  refine codeAny_mono (code_set_new_1 (.ref l) (E := E) (Q₁ := fun x s1 => ∃ led : Bool, x = .ref s.heap.objs.size ∧ s1 = { s with heap := s.heap.push (bare0 led) }) fun led => ⟨led, rfl, rfl⟩) fun r s1 hr => ?_
  obtain e | (_ | _ | _ | x) := r
  · exact hr
  all_goals first | exact hr.elim | skip
  obtain ⟨led, rfl, rfl⟩ := hr
  have e0 : (s.heap.push (bare0 led)).get? s.heap.objs.size = some (bare0 led) := Heap.get?_push_size _ rfl
  have t0 : Shared.TypeIs { s with heap := s.heap.push (bare0 led) } (.ref s.heap.objs.size) "set" := ⟨_, e0, rfl⟩
  have look := F.called_set.init.lookup
  have bind_ := F.called_set.init.bind (.ref s.heap.objs.size)
  repeat (any_goals (first | assumption | wp_step))
  refine codeAny_mono (codeAny_call_builtin (R := wants (fun r s2 => r = .none ∧ ∃ h2 tk, s2 = { s with heap := h2, toks := tk } ∧ h2.SetOf (mixKind P w) s.heap.objs.size (gone ks ks.length) (kinds ks ks.length) ∧ (∀ b o, s.heap.get? b = some o → h2.get? b = some o)) E)
    F.called_set.init.plain F.entry_set_init (check_set_init_1 t0 ?_)) fun r s2 hr => ?_
  · obtain ⟨ol, hol, hcl, nl, hdl⟩ := hl
    obtain ⟨ocls, odict, odata, oslots⟩ := ol
    simp only at hcl hdl
    subst hcl hdl
    have hol' : (s.heap.push (bare0 led)).get? l = some { cls := .type "list", dict := odict, data := .seq its nl, slots := oslots } := Heap.get?_push_of_some _ hol
    have sl1 := F.sub_list_set
    have sl2 := F.sub_list_frozenset
    have nd : (Value.type "list" == Value.type "dict") = false := by decide
    have hl1 : (s.heap.push (bare0 led)).IsList l its := ⟨_, hol', rfl, nl, rfl⟩
    unfold Builtin.«set.__init__» noKeywords Builtin.Frozenset.updateFrom
    generalize hPI : pyIter = PI
    wp_walk
    subst hPI
    refine wpAny_pyIter_list hl1 (wpAny_bind (wpAny_runValue ?_))
    have lS : l < s.heap.objs.size := Heap.lt_size hol
    have cold3 : A.in1.in1.in1.handled = none := by simp [cold]
    have sz1 : (s.heap.push (bare0 led)).objs.size = s.heap.objs.size + 1 := Heap.size_push _ _
    have neI : l ≠ (s.heap.push (bare0 led)).objs.size := by rw [sz1]; exact Nat.ne_of_lt (Nat.lt_succ_of_lt lS)
    have neS : s.heap.objs.size ≠ (s.heap.push (bare0 led)).objs.size := by omega
    refine fill_keys ((Walks.list cold3 _ l neI its).toS) (ks := ks) (S := s.heap.objs.size) (by
      simp only [List.mem_cons, List.not_mem_nil, or_false, not_or]
      exact ⟨neS, Nat.ne_of_gt lS⟩) sz room (fun i v hv => vals_at rv i v (by rw [Array.getElem?_toList]; exact hv)) (its.size - 0) 0 _ (by omega) (Nat.zero_le _)
      ⟨⟨_, Heap.get?_push_size _ rfl, rfl, rfl⟩, (hl1.push _)⟩ ?start ?stop
    case start =>
      have g : ((s.heap.push (bare0 led)).push { cls := .type "list_iterator", data := .fields #[.ref l, .int 0 0] }).get? s.heap.objs.size = some (bare0 led) := Heap.get?_push_of_some _ e0
      refine set_same (S := fun _ => false) (n := 0) (by exact ⟨_, #[], 0, _, g, ⟨rfl, rfl, rfl⟩, rfl, (fun e he => by simp at he), (fun k => by simp), (by decide), (by rfl), rfl⟩) (fun k => by simp [gone]) rfl
    case stop =>
      intro s2 mv hS
      obtain ⟨h2, g2, d2, tk2, os2⟩ := s2
      obtain rfl : g2 = s.gens := mv.gens
      obtain rfl : d2 = s.drawn := mv.drawn
      obtain rfl : os2 = s.os := mv.os
      rw [sz] at hS
      refine (wpAny_pure ?_ : wpAny _ _ _ _ _ _)
      change wpAny _ _ (ret Value.none) _ _ _
      refine wpAny_pure ⟨rfl, h2, tk2, rfl, hS, ?_⟩
      intro b o e
      have lb : b < s.heap.objs.size := Heap.lt_size e
      refine mv.heap b o ?_ (Heap.get?_push_of_some _ (Heap.get?_push_of_some _ e))
      simp only [List.mem_cons, List.not_mem_nil, or_false, not_or]
      exact ⟨Nat.ne_of_lt lb, Nat.ne_of_lt (by rw [sz1]; exact Nat.lt_succ_of_lt lb)⟩
  · obtain e | (_ | _ | _ | x) := r
    · exact hr
    all_goals first | exact hr.elim | skip
    obtain ⟨rfl, h2, tk, rfl, hS, keep⟩ := hr
    repeat (any_goals (first | assumption | wp_step))
    exact h _ _ hS keep
end
/-- len(set(xs)): how many unlike ones -/
def tLenSetN (K : PySem.W.Frag) (ta : TE) : TE := fun σ H Q => ta σ H fun x H1 => ∃ (l : Addr) (ks : List Key), x = .ref l ∧ SqL K H1 l (ks.map kV) ∧ ks.length + 1 < scanBound ∧ Q (.int (kinds ks ks.length : Nat)) H1
theorem pe_lenSetN {X : Cx} {a : Expr} {ta : TE} {p p2 q pos : Pos} (hg : Gl X "len") (hm : X.mg "len" = none) (hg2 : Gl X "set") (hm2 : X.mg "set" = none) (ha : PE X a ta) (hc : X.calm = true := by rfl)
    (na : starEach [a] X.env = (false, eval a X.env) :: starEach [] X.env := by rfl) : PE X (.Call (.Name "len" p) [.Call (.Name "set" p2) [a] [] q] [] pos) (tLenSetN X.K ta) := by
  constructor
  intro pins s σ H Q I h
  refine Call_ (ld_blt I hg hm boot_len (callWith_builtin1 (args_cons ?_ rfl) rfl rfl))
  refine Call_ (ld_blt I hg2 hm2 boot_set (callWith_type1 (args_cons (thn (ha.run pins s σ H _ I h) fun v s1 ⟨x, H1, I1, r1, l, ks, ex, hq, room, q1⟩ => args_nil ?_) na) na rfl))
  subst ex
  cases r1
  obtain ⟨its, r, pl, hz⟩ := I1.list hq
  have sz : its.toArray.size = ks.length := by rw [List.size_toArray, ← r.length, List.length_map]
  refine call_set_keys (I1.ok.hd hc) pl.isList (by simpa using r) (by rw [sz]; exact room) fun h2 tk hS keep => args_nil ?_
  have I2 : Inv X pins σ H1 { s1 with heap := h2, toks := tk } := I1.kept keep
  obtain ⟨o, es, ep, t, ho, hex, hd, _, _, _, hf, hn⟩ := hS
  have le := kinds_le ks ks.length
  unfold scanBound at room
  exact call_len_set ho hex hd hf (by rw [hn] <;> omega) ⟨.int (kinds ks ks.length : Nat), H1, I2.tok _, ⟨_, by rw [hn]⟩, q1⟩
end L2
namespace L2
open PySem PySem.Spec PyProof.Rows Evl
/-! ### one rule or another -/
section
variable {X : Cx}
theorem pi_either {tg e : Expr} {t u : TI} (h : PI X tg e t) (k : PI X tg e u) : PI X tg e (fun σ H R => t σ H R ∨ u σ H R) :=
  ⟨fun pins s σ H R I q => q.elim (h.run pins s σ H R I) (k.run pins s σ H R I)⟩
theorem pe_either {e : Expr} {t u : TE} (h : PE X e t) (k : PE X e u) : PE X e (fun σ H R => t σ H R ∨ u σ H R) :=
  ⟨fun pins s σ H R I q => q.elim (h.run pins s σ H R I) (k.run pins s σ H R I)⟩
theorem op_either {f : Value → Value → Sem Value} {r q : R2} (h : OpR X f r) (k : OpR X f q) : OpR X f (fun x y H Q => r x y H Q ∨ q x y H Q) :=
  fun pins s σ H x y v u Q I rx ry z => z.elim (h pins s σ H x y v u Q I rx ry) (k pins s σ H x y v u Q I rx ry)
theorem cr_either {v : Value} {r q : List V → Hp → VK → Prop} (h : CallR X v r) (k : CallR X v q) : CallR X v (fun x H Q => r x H Q ∨ q x H Q) :=
  fun pins s σ H xs us Q I rx z => z.elim (h pins s σ H xs us Q I rx) (k pins s σ H xs us Q I rx)
end
/-! ### readings of data -/
section
variable {K : PySem.W.Frag} {σ : St} {H H' : Hp} {v x y : V} {d : PyData} {ta tb tc te : TE} {tt : TT}
theorem Dq.ex (e : Ex H H') (q : Dq K H v d) : Dq K H' v d := q.up e
theorem Dqs.ex {vs : List V} {ds : List PyData} (e : Ex H H') (q : Dqs K H vs ds) : Dqs K H' vs ds := q.up e
theorem ev_isD {n : String} (h : Ev ta σ H x) (q : Dq K H x d) (hn : n ∈ five := by decide) : Ev (tCB (rIsD K) (tCons ta (tCons (tC (.ty n)) tNil))) σ H (.bl (isD n d)) := fun H1 e Q k =>
  h H1 e _ fun H2 e2 => ⟨x, n, d, rfl, hn, q.ex (e.trans e2), k H2 e2⟩
theorem ev_isDT {n m : String} (h : Ev ta σ H x) (q : Dq K H x d) (hn : n ∈ five := by decide) (hm : m ∈ five := by decide) : Ev (tCB (rIsDT K) (tCons ta (tCons (tTup (tCons (tC (.ty n)) (tCons (tC (.ty m)) tNil))) tNil))) σ H (.bl (isD n d || isD m d)) := fun H1 e Q k =>
  h H1 e _ fun H2 e2 => ⟨(by show 2 ≤ sizeLine; decide), fun p hp => ⟨x, n, m, d, p, rfl, upd_same, hn, hm, q.ex ((e.trans e2).trans (Ex.new hp)), k _ (e2.trans (Ex.new hp))⟩⟩
theorem ev_eqS {b : Str} (h : Ev ta σ H x) (h2 : Ev tb σ H (.str b)) (q : Dq K H x d) : Ev (tOp (rEqS K) ta tb) σ H (.bl (eqS d b)) := ev_op h h2 fun H1 e Q k => ⟨d, b, q.ex e, rfl, k H1 (Ex.refl H1)⟩
theorem ev_chain {r r' : R2} {a b : Bool} {z : V} (h1 : Ev ta σ H x) (h2 : Ev tb σ H y) (h3 : Ev tc σ H z) (r1 : RV r x y H (.bl a)) (r2 : RV r' y z H (.bl b)) : Ev (tChain r r' ta tb tc) σ H (.bl (a && b)) := fun H1 e Q k =>
  h1 H1 e _ fun H2 e2 => h2 H2 (e.trans e2) _ fun H3 e3 => r1 H3 ((e.trans e2).trans e3) _ fun H4 e4 => ⟨a, rfl, by
    cases a with
    | false => exact k H4 ((e2.trans e3).trans e4)
    | true => exact h3 H4 (((e.trans e2).trans e3).trans e4) _ fun H5 e5 => r2 H5 ((((e.trans e2).trans e3).trans e4).trans e5) _ fun H6 e6 => Eq.mp (by rw [Bool.true_and]) (k H6 ((((e2.trans e3).trans e4).trans e5).trans e6))⟩
/-- how long data are -/
def lenD : PyData → Nat
  | .list xs => xs.length
  | .tuple xs => xs.length
  | .str x => x.length
  | _ => 0
def rLenD (K : PySem.W.Frag) : List V → Hp → VK → Prop := fun xs H Q => ∃ x d, xs = [x] ∧ Dq K H x d ∧ (isD "list" d || isD "tuple" d) = true ∧ Q (.int (lenD d : Nat)) H
theorem ev_lenT {p : Addr} {xs : List V} (ha : Ev ta σ H (.ref p)) (h : SqT K H p xs) : Ev (tCB (rLenS K) (tCons ta tNil)) σ H (.int (xs.length : Nat)) := fun H1 e Q k =>
  ha H1 e _ fun H2 e2 => ⟨p, xs, rfl, .inr (ex_t (e.trans e2) h), k H2 e2⟩
theorem ev_ixT {p : Addr} {xs : List V} {i : Int} (h1 : Ev ta σ H (.ref p)) (h2 : Ev tb σ H (.int i)) (h : SqT K H p xs) (ha : atI xs i = some v) : Ev (tOp (rIxT K) ta tb) σ H v := ev_op h1 h2 (rv_ixT h ha)
/-- a comprehension of settled values over any walk -/
theorem lcW {J : It} {n : Nat} {G : Hp → Prop} {Y : Nat → Hp → V → Hp → Prop} (w : Walk J n G Y) {g : TG} {vs : List Nat} {H1 : Hp} {D : Addr} {Qd : Hp → Prop} (f : Nat → Bool) (v : Nat → V) (hD : H1 D = none) (hz : n ≤ 40000) (hG : ∀ H, Ex H1 H → G H)
    (ht : ∀ i x H H', i < n → Ex H1 H → Y i H x H' → ∀ Q : St → Hp → Prop, (∀ σ2 H2, wipe σ2 vs = wipe σ vs → Ex H H2 → EvT tt σ2 H2 (f i) → (f i = true → Ev te σ2 H2 (v i)) → Q σ2 H2) → g x (wipe σ vs) H' Q)
    (k : ∀ H', Ex H1 H' → H' D = some (.lst (given n f v)) → Qd H') :
    ∃ W : Nat → Nat → Hp → Prop, (∃ m, W 0 m (upd H1 D (.lst []))) ∧ ∀ i m H, W i m H →
      (J.stop i H ∧ Qd H) ∨ (J.go i H ∧ ∃ Nx : Hp → Prop, (∀ H', Nx H' → ∃ m', m' < m ∧ W (i + 1) m' H') ∧ ∀ x H', J.yld i H x H' → g x (wipe σ vs) H' fun σ2 H2 => wipe σ2 vs = wipe σ vs ∧ tt σ2 H2 fun b H3 =>
        if b = true then te σ2 H3 fun y H4 => ∃ acc, H4 D = some (.lst acc) ∧ acc.length < sizeLine ∧ Nx (upd H4 D (.lst (acc ++ [y]))) else Nx H3) := by
  refine lc_it w (Cw H1 f v D) ⟨hD, Ex.new hD, upd_same⟩ (fun i H _ p => hG H p.2.1) (fun i x H H' hi p y => ?_) fun H p => k H p.2.1 p.2.2
  refine ht i x H H' hi p.2.1 y _ fun σ2 H2 hw e2 h1 h2 => ⟨hw, ?_⟩
  have p2 : Cw H1 f v D i H2 := ⟨p.1, p.2.1.trans e2, e2 D _ p.2.2⟩
  refine h1 H2 (Ex.refl _) _ fun H3 e3 => ?_
  cases hf : f i with
  | true =>
    rw [if_pos rfl]
    refine h2 hf H3 e3 _ fun H4 e4 => ⟨given i f v, e4 D _ (e3 D _ p2.2.2), sz_lt (by have := given_len i f v; omega), p.1, Ex.mut ((p2.2.1.trans e3).trans e4) p.1, ?_⟩
    rw [given_yes hf]
    exact upd_same
  | false =>
    rw [if_neg (by decide)]
    refine ⟨p.1, p2.2.1.trans e3, ?_⟩
    rw [given_no hf]
    exact e3 D _ p2.2.2
theorem given_all (n : Nat) (v : Nat → V) : given n (fun _ => true) v = (List.range n).map v := by
  unfold given
  rw [List.filter_eq_self.mpr fun _ _ => rfl]
/-- over the signs of a text -/
theorem el_lcS {z : Str} {j : Nat} {vs : List Nat} {tl : TE} (f : Nat → Bool) (v : Nat → V) (h : Ev tl σ H (.str z)) (hz : z.cps.size ≤ 40000) (hw : ∀ x, wipe ((wipe σ vs).set j (some x)) vs = wipe σ vs)
    (ht : ∀ (i c : Nat) H1, Ex H H1 → z.cps[i]? = some c → EvT tt ((wipe σ vs).set j (some (.str ⟨#[c]⟩))) H1 (f i)) (he : ∀ (i c : Nat) H1, Ex H H1 → z.cps[i]? = some c → f i = true → Ev te ((wipe σ vs).set j (some (.str ⟨#[c]⟩))) H1 (v i)) :
    EvL (tLc (iStr tl) (gName j) tt te vs) σ H (given z.cps.size f v) := fun H0 e Q q => h H0 e _ fun H1 e1 => ⟨z, rfl, fun D hD =>
  lcW walk_str f v hD hz (fun _ _ => True.intro) (fun i x H2 H3 hi e2 ⟨e3, c, hc, ex⟩ Q' k' => by
    subst e3 ex
    exact k' _ _ (hw _) (Ex.refl _) (ht i c H3 ((e.trans e1).trans e2) hc) (he i c H3 ((e.trans e1).trans e2) hc)) fun H' e2 hq => q D H' (fresh_back e1 hD) (e1.trans e2) hq⟩
/-- over a tuple -/
theorem el_lcT {a : Addr} {xs : List V} {tl : TE} {j : Nat} {vs : List Nat} (f : Nat → Bool) (v : Nat → V) (h : Ev tl σ H (.ref a)) (hx : SqT K H a xs) (hz : xs.length ≤ 40000) (hw : ∀ x, wipe ((wipe σ vs).set j (some x)) vs = wipe σ vs)
    (ht : ∀ (i : Nat) (x : V) H1, Ex H H1 → xs[i]? = some x → EvT tt ((wipe σ vs).set j (some x)) H1 (f i)) (he : ∀ (i : Nat) (x : V) H1, Ex H H1 → xs[i]? = some x → f i = true → Ev te ((wipe σ vs).set j (some x)) H1 (v i)) :
    EvL (tLc (iTup K tl) (gName j) tt te vs) σ H (given xs.length f v) := fun H0 e Q q => h H0 e _ fun H1 e1 => ⟨a, rfl, ⟨xs, ex_t (e.trans e1) hx⟩, fun D hD =>
  lcW walk_tup f v hD hz (fun H2 e2 => ex_t ((e.trans e1).trans e2) hx) (fun i x H2 H3 hi e2 ⟨e3, hc⟩ Q' k' => by
    subst e3
    exact k' _ _ (hw _) (Ex.refl _) (ht i x H3 ((e.trans e1).trans e2) hc) (he i x H3 ((e.trans e1).trans e2) hc)) fun H' e2 hq => q D H' (fresh_back e1 hD) (e1.trans e2) hq⟩
/-- over a list or a tuple of pairs, both halves named -/
theorem gpair {a : Addr} {u v : V} {j k : Nat} {Q : St → Hp → Prop} {ρ : St} (h : SqT K H a [u, v]) (q : Q ((ρ.set j (some u)).set k (some v)) H) : gTup K 2 (gCons (gName j) (gCons (gName k) gNil)) (.ref a) ρ H Q :=
  ⟨a, [u, v], rfl, h, rfl, u, [v], rfl, v, [], rfl, rfl, q⟩
theorem el_lcP {a : Addr} {xs : List V} {tl : TE} {j k : Nat} {vs : List Nat} (f : Nat → Bool) (v : Nat → V) (u1 u2 : Nat → V) (h : Ev tl σ H (.ref a)) (hx : SqT K H a xs) (hz : xs.length ≤ 40000) (hp : ∀ (i : Nat) (x : V), xs[i]? = some x → ∃ p, x = .ref p ∧ SqT K H p [u1 i, u2 i]) (hw : ∀ x y, wipe (((wipe σ vs).set j (some x)).set k (some y)) vs = wipe σ vs)
    (ht : ∀ (i : Nat) H1, Ex H H1 → i < xs.length → EvT tt (((wipe σ vs).set j (some (u1 i))).set k (some (u2 i))) H1 (f i)) (he : ∀ (i : Nat) H1, Ex H H1 → i < xs.length → f i = true → Ev te (((wipe σ vs).set j (some (u1 i))).set k (some (u2 i))) H1 (v i)) :
    EvL (tLc (iTup K tl) (gTup K 2 (gCons (gName j) (gCons (gName k) gNil))) tt te vs) σ H (given xs.length f v) := fun H0 e Q q => h H0 e _ fun H1 e1 => ⟨a, rfl, ⟨xs, ex_t (e.trans e1) hx⟩, fun D hD =>
  lcW walk_tup f v hD hz (fun H2 e2 => ex_t ((e.trans e1).trans e2) hx) (fun i x H2 H3 hi e2 ⟨e3, hc⟩ Q' k' => by
    subst e3
    obtain ⟨p, rfl, hq⟩ := hp i x hc
    exact gpair (ex_t ((e.trans e1).trans e2) hq) (k' _ _ (hw _ _) (Ex.refl _) (ht i H3 ((e.trans e1).trans e2) hi) (he i H3 ((e.trans e1).trans e2) hi))) fun H' e2 hq => q D H' (fresh_back e1 hD) (e1.trans e2) hq⟩
theorem el_lcPL {a : Addr} {xs : List V} {tl : TE} {j k : Nat} {vs : List Nat} (f : Nat → Bool) (v : Nat → V) (u1 u2 : Nat → V) (h : Ev tl σ H (.ref a)) (hx : SqL K H a xs) (hz : xs.length ≤ 40000) (hp : ∀ (i : Nat) (x : V), xs[i]? = some x → ∃ p, x = .ref p ∧ SqT K H p [u1 i, u2 i]) (hw : ∀ x y, wipe (((wipe σ vs).set j (some x)).set k (some y)) vs = wipe σ vs)
    (ht : ∀ (i : Nat) H1, Ex H H1 → i < xs.length → EvT tt (((wipe σ vs).set j (some (u1 i))).set k (some (u2 i))) H1 (f i)) (he : ∀ (i : Nat) H1, Ex H H1 → i < xs.length → f i = true → Ev te (((wipe σ vs).set j (some (u1 i))).set k (some (u2 i))) H1 (v i)) :
    EvL (tLc (iList K tl) (gTup K 2 (gCons (gName j) (gCons (gName k) gNil))) tt te vs) σ H (given xs.length f v) := fun H0 e Q q => h H0 e _ fun H1 e1 => ⟨a, rfl, ⟨xs, ex_l (e.trans e1) hx⟩, fun D hD =>
  lcW walk_list f v hD hz (fun H2 e2 => ex_l ((e.trans e1).trans e2) hx) (fun i x H2 H3 hi e2 ⟨e3, hc⟩ Q' k' => by
    subst e3
    obtain ⟨p, rfl, hq⟩ := hp i x hc
    exact gpair (ex_t ((e.trans e1).trans e2) hq) (k' _ _ (hw _ _) (Ex.refl _) (ht i H3 ((e.trans e1).trans e2) hi) (he i H3 ((e.trans e1).trans e2) hi))) fun H' e2 hq => q D H' (fresh_back e1 hD) (e1.trans e2) hq⟩
theorem ev_either {t u : TE} (h : Ev t σ H v ∨ Ev u σ H v) : Ev (fun σ H R => t σ H R ∨ u σ H R) σ H v := fun H1 e Q k => h.imp (fun h => h H1 e Q k) fun h => h H1 e Q k
theorem ev_all {bs : List Bool} (h : EvL te σ H (bs.map V.bl)) : Ev (tCB (rAll K) (tCons te tNil)) σ H (.bl (bs.all id)) := fun H1 e Q k =>
  h H1 e _ fun p H2 _ e2 hp => ⟨p, bs, rfl, sq_of hp, k H2 e2⟩
theorem ev_lenSet {ks : List Key} (h : Ev te σ H v) (hv : ∃ l, v = .ref l ∧ SqL K H l (ks.map kV)) (room : ks.length + 1 < scanBound) : Ev (tLenSetN K te) σ H (.int (kinds ks ks.length : Nat)) := fun H1 e Q k =>
  h H1 e _ fun H2 e2 => let ⟨l, q1, q2⟩ := hv; ⟨l, ks, q1, ex_l (e.trans e2) q2, room, k H2 e2⟩
end
end L2
namespace KW
open PySem PySem.Spec PyProof.Rows L2
def top (i : Nat) : Stmt := PySem.Challenge.pw_butthese_k50_texts_of_forms.main.body.getD i (.Pass ⟨0, 0, 0, 0⟩)
abbrev s_wall : Stmt := top 0
abbrev c_FormError : Stmt := top 2
abbrev c_BadSigns : Stmt := top 3
abbrev s_BadSigns___init__ : Stmt := inClass (top 3) 0
abbrev c_BadText : Stmt := top 4
abbrev s_BadText___init__ : Stmt := inClass (top 4) 0
abbrev s_form_text : Stmt := top 8
abbrev s_told_by : Stmt := top 9
abbrev s_number_or_name : Stmt := top 10
abbrev s_read_form : Stmt := top 11
abbrev s_read_tree : Stmt := top 12
abbrev s_is_integer : Stmt := top 18
abbrev s_is_name : Stmt := top 19
abbrev s_is_sign : Stmt := top 20
abbrev s_are_signs : Stmt := top 21
abbrev c_World : Stmt := top 22
abbrev s_World___init__ : Stmt := inClass (top 22) 0
abbrev s_World___eq__ : Stmt := inClass (top 22) 1
abbrev s_World_signs : Stmt := inClass (top 22) 2
abbrev s_World_more : Stmt := inClass (top 22) 3
abbrev s_World_endless : Stmt := inClass (top 22) 4
abbrev s_World_is_tree : Stmt := inClass (top 22) 5
abbrev s_World_is_form : Stmt := inClass (top 22) 6
abbrev s_World_is_plain : Stmt := inClass (top 22) 7
abbrev s_World_size : Stmt := inClass (top 22) 8
abbrev s_World_before : Stmt := inClass (top 22) 9
abbrev s_World__has_sign : Stmt := inClass (top 22) 10
abbrev s_World__is_further : Stmt := inClass (top 22) 11
abbrev s_World__is_open : Stmt := inClass (top 22) 12
abbrev s_World__order_of : Stmt := inClass (top 22) 13
abbrev s_law_source : Stmt := top 24
abbrev s_law_draw : Stmt := top 25
abbrev s_law_pick : Stmt := top 26
abbrev s_law_mixed : Stmt := top 27
abbrev s_law_word : Stmt := top 28
abbrev s_law_world : Stmt := top 29
abbrev s_law_made : Stmt := top 30
abbrev s_law_tree : Stmt := top 31
abbrev s_law_form : Stmt := top 32
abbrev s_law_is_form : Stmt := top 33
abbrev s_law_is_tree : Stmt := top 34
abbrev s_law_text : Stmt := top 35
abbrev s_law_read : Stmt := top 36
abbrev s_law_numbered : Stmt := top 37
abbrev s_law_due : Stmt := top 38
abbrev s_law_told : Stmt := top 39
abbrev s_law_bent : Stmt := top 40
abbrev s_law : Stmt := top 41
end KW
namespace KW
open PySem PySem.Spec PyProof.Rows L2 Evl
/-! ### what values are -/
def isIntD (d : PyData) : Bool := isD "int" d && !isD "bool" d
def alpha : Str := "abcdefghijklmnopqrstuvwxyz"
def nameS (x : Str) : Bool := (decide (1 ≤ (x.length : Int)) && decide ((x.length : Int) ≤ 8)) && x.cps.toList.all fun c => decide (c ∈ alpha.cps.toList)
def isNameD : PyData → Bool
  | .str x => nameS x
  | _ => false
def upTo3 : PyData → Bool
  | .int i => decide (0 ≤ i) && decide (i ≤ 3)
  | _ => false
def isSignD : PyData → Bool
  | .tuple [a, b] => isNameD a && (isIntD b && upTo3 b)
  | _ => false
/-- data whose texts and rows are within what the machine holds -/
inductive Fit : PyData → Prop
  | flat {d : PyData} (h : isD "str" d = false) (h2 : isD "tuple" d = false) (h3 : isD "list" d = false) : Fit d
  | str {x : Str} (h : x.length ≤ 100000) (k : PyData.strOk x = true) : Fit (.str x)
  | tuple {xs : List PyData} (h : xs.length ≤ 40000) (k : ∀ d ∈ xs, Fit d) : Fit (.tuple xs)
  | list {xs : List PyData} (h : xs.length ≤ 40000) (k : ∀ d ∈ xs, Fit d) : Fit (.list xs)
/-- a yes or no about data -/
def spB (K : PySem.W.Frag) (f : PyData → Bool) : Sp := fun vs H Q _ => ∃ x d, vs = [x] ∧ Dq K H x d ∧ Fit d ∧ ∀ H', Ex H H' → Q (.bl (f d)) H'
theorem spB_v {K : PySem.W.Frag} {f : PyData → Bool} {x : V} {d : PyData} {H : Hp} (q : Dq K H x d) (s : Fit d) : SpV (spB K f) ([x] ++ []) H (.bl (f d)) := fun H1 e Q k E => ⟨x, d, rfl, q.ex e, s, k⟩
theorem dq_str {K : PySem.W.Frag} {H : Hp} {x : V} {d : PyData} (q : Dq K H x d) (h : isD "str" d = true) : ∃ z, d = .str z ∧ x = .str z := by
  cases q <;> first | exact ⟨_, rfl, rfl⟩ | cases h
theorem fit_str {x : Str} (f : Fit (.str x)) : x.length ≤ 100000 := by
  cases f with
  | flat h => cases h
  | str h k => exact h
theorem fit_ok {x : Str} (f : Fit (.str x)) : PyData.strOk x = true := by
  cases f with
  | flat h => cases h
  | str h k => exact k
theorem fit_tuple {xs : List PyData} (f : Fit (.tuple xs)) : xs.length ≤ 40000 ∧ ∀ d ∈ xs, Fit d := by
  cases f with
  | flat h h2 => cases h2
  | tuple h k => exact ⟨h, k⟩
theorem fit_list {xs : List PyData} (f : Fit (.list xs)) : xs.length ≤ 40000 ∧ ∀ d ∈ xs, Fit d := by
  cases f with
  | flat h h2 h3 => cases h3
  | list h k => exact ⟨h, k⟩
theorem el_is {te : TE} {σ : L2.St} {H : Hp} {xs ys : List V} (h : EvL te σ H xs) (e : xs = ys) : EvL te σ H ys := e ▸ h
theorem range_map_str (z : Str) (f : Nat → V) : (List.range z.cps.size).map (fun i => f (z.cps.getD i 0)) = z.cps.toList.map f := by
  apply List.ext_getElem?
  intro i
  simp only [List.getElem?_map, List.getElem?_range]
  by_cases h : i < z.cps.size
  · simp [h, Array.getD_eq_getD_getElem?]
  · simp [h]
/-- the built-in names that the module leaves alone -/
structure Bt (mg : Str → Option Value) : Prop where
  isinstance : mg "isinstance" = none
  len : mg "len" = none
  int : mg "int" = none
  bool : mg "bool" = none
  str : mg "str" = none
  tuple : mg "tuple" = none
  list : mg "list" = none
  set : mg "set" = none
  all : mg "all" = none
  max : mg "max" = none
  min : mg "min" = none
  dict : mg "dict" = none
  enumerate : mg "enumerate" = none
  reversed : mg "reversed" = none
  range : mg "range" = none
  repr : mg "repr" = none
  zip : mg "zip" = none
  sum : mg "sum" = none
/-- the module's numbers -/
structure Nt (mg : Str → Option Value) : Prop where
  letters : ∃ t, mg "LETTERS" = some (.str alpha t)
  longest : ∃ t, mg "LONGEST_NAME" = some (.int 8 t)
  mostS : ∃ t, mg "MOST_SIGNS" = some (.int 6 t)
  mostP : ∃ t, mg "MOST_PARTS" = some (.int 3 t)
theorem pe_tyN {X : Cx} {x : Str} {pos : Pos} (n : String) (hg : Gl X x) (hm : X.mg x = none) (hv : bootBuiltins x = some (.type n)) (hn : x ≠ "__name__" := by decide) (hd : (x == ("__debug__" : Str)) = false := by decide) : PE X (.Name x pos) (tC (.ty n)) := pe_bltn (v := .ty n) hg hm hv rfl hn hd
section
variable {P : Program} {w : World} {K : PySem.W.Frag} {mg : Str → Option Value} {base : Heap}
theorem sc_is_integer : FnScope ["value"] ["value"] (defScope s_is_integer) := ⟨rfl, rfl, rfl, by decide +kernel, rfl, by decide +kernel, by decide +kernel⟩
theorem ok_is_integer {f : Addr} {fd : FuncData} (F : Fun K "is_integer" "is_integer" s_is_integer f fd) (B : Bt mg) : FnOk P w K mg base CX0 1 f fd ["value"] (spB K isIntD) := by
  refine F.ok sc_is_integer (fun vs H Q E h => ?_) (fun cdv A outer s H vs Q E hr h => ?_)
  · obtain ⟨x, d, rfl, _⟩ := h
    rfl
  · obtain ⟨x, d, rfl, q, s, k⟩ := h
    refine ⟨_, pss_one (ps_ret (pe_and (pe_callB call_isD (by rfl) B.isinstance boot_isinstance (pa_cons (pv 0) (pa_cons (pe_tyN "int" (by rfl) B.int boot_int) pa_nil))) (pe_one (pe_not (pe_callB call_isD (by rfl) B.isinstance boot_isinstance (pa_cons (pv 0) (pa_cons (pe_tyN "bool" (by rfl) B.bool boot_bool) pa_nil))))))), ?_⟩
    exact s_ret (ev_andV (ev_isD (ev_var rfl) q) fun _ => ev_notV (ev_isD (ev_var rfl) q)) fun H1 e => k H1 e
theorem sc_is_name : FnScope ["value", "letter"] ["value"] (defScope s_is_name) := ⟨rfl, rfl, rfl, by decide +kernel, rfl, by decide +kernel, by decide +kernel⟩
theorem ok_is_name {f : Addr} {fd : FuncData} (F : Fun K "is_name" "is_name" s_is_name f fd) (B : Bt mg) (M : Nt mg) : FnOk P w K mg base CX0 1 f fd ["value"] (spB K isNameD) := by
  refine F.ok sc_is_name (fun vs H Q E h => ?_) (fun cdv A outer s H vs Q E hr h => ?_)
  · obtain ⟨x, d, rfl, _⟩ := h
    rfl
  · obtain ⟨x, d, rfl, q, s, k⟩ := h
    obtain ⟨t1, m1⟩ := M.letters
    obtain ⟨t2, m2⟩ := M.longest
    refine ⟨_, pss_cons (ps_if (PW.pt (pw_or (pt_not (pt_val (pe_callB call_isD (by rfl) B.isinstance boot_isinstance (pa_cons (pv 0) (pa_cons (pe_tyN "str" (by rfl) B.str boot_str) pa_nil)))))
        (pw_or1 (pt_not (pt_chain op_le op_le pe_int (pe_callB call_len_str (by rfl) B.len PySem.boot_len (pa_cons (pv 0) pa_nil)) (pe_glob (v := .int 8) (by rfl) m2 ⟨_, rfl⟩)))))) (pss_one (ps_ret pe_bl)) pss_nil)
      (pss_one (ps_ret (pe_callB (cr_all rfl) (by rfl) B.all boot_all (pa_cons (pe_lc (own := [("letter", 1)]) (g := gName 1) (tt := tYes) (te := tOp (fun x y H Q => ∃ (c : Nat) (z : Str), x = .str ⟨#[c]⟩ ∧ y = .str z ∧ Q (.bl (decide (c ∈ z.cps.toList))) H) (tVar 1) (tC (.str alpha))) rfl sc_is_name.nd (pi_str (pv 0)) (blkOk_by (N := ["value", "letter"]) (sc := defScope s_is_name) (by decide +kernel))
        (fun _ _ _ _ _ => pg_name (i := 1) sc_is_name.nd rfl (Or.inl rfl)) (fun _ _ _ _ _ => pts_nil) (fun _ _ _ _ _ => by exact pe_cmpR op_in_sign (pv 1) (pe_glob (v := .str alpha) (by rfl) m1 ⟨_, rfl⟩) rfl)) pa_nil)))), ?_⟩
    cases hs : isD "str" d with
    | false =>
      have e0 : isNameD d = false := by cases d <;> first | rfl | cases hs
      rw [e0] at k
      refine q_when (b := true) (et_is (et_or (et_not (et_B (ev_isD (ev_var rfl) q))) (b := true) fun z => ?_) (by rw [hs]; rfl)) (fun _ H1 e => ?_) (fun z => nomatch z)
      · rw [hs] at z
        cases z
      · exact s_ret ev_c fun H2 e2 => k H2 (e.trans e2)
    | true =>
      obtain ⟨z, rfl, rfl⟩ := dq_str q hs
      have hz : z.length ≤ 100000 := fit_str s
      have lenE : Ev (tCB (fun xs H Q => ∃ z, xs = [.str z] ∧ z.length ≤ sizeLine ∧ Q (.int z.length) H) (tCons (tVar 0) tNil)) (start ["value", "letter"] [.str z]) H (.int z.length) := fun H1 e Q k => ⟨_, rfl, z, rfl, sz_of hz, k H1 (Ex.refl _)⟩
      refine q_when (b := !(decide (1 ≤ (z.length : Int)) && decide ((z.length : Int) ≤ 8))) (et_is (et_or (et_not (et_B (ev_isD (ev_var rfl) q))) fun _ => et_not (et_test (ev_chain ev_c lenE ev_c rv_I0 rv_I0))) (by rw [hs]; rfl)) (fun c H1 e => ?_) fun c H1 e => ?_
      · have e0 : isNameD (.str z) = false := by
          show nameS z = false
          unfold nameS
          rw [(by simpa only [Bool.not_eq_true'] using c : (decide (1 ≤ (z.length : Int)) && decide ((z.length : Int) ≤ 8)) = false)]
          rfl
        rw [e0] at k
        exact s_ret ev_c fun H2 e2 => k H2 (e.trans e2)
      · have c2 : (decide (1 ≤ (z.length : Int)) && decide ((z.length : Int) ≤ 8)) = true := by simpa only [Bool.not_eq_false'] using c
        have e0 : isNameD (.str z) = z.cps.toList.all fun c => decide (c ∈ alpha.cps.toList) := by
          show nameS z = _
          unfold nameS
          rw [c2, Bool.true_and]
        rw [e0] at k
        have hl : z.cps.size ≤ 40000 := by
          have : z.length = z.cps.size := rfl
          simp at c2
          omega
        refine s_ret (ev_is (ev_all (bs := z.cps.toList.map fun c => decide (c ∈ alpha.cps.toList)) ?_) (by rw [List.all_map]; rfl)) fun H2 e2 => k H2 (e.trans e2)
        have q := el_lcS (H := H1) (σ := start ["value", "letter"] [.str z]) (tl := tVar 0) (tt := tYes) (te := tOp (fun x y H Q => ∃ (c : Nat) (z : Str), x = .str ⟨#[c]⟩ ∧ y = .str z ∧ Q (.bl (decide (c ∈ z.cps.toList))) H) (tVar 1) (tC (.str alpha))) (j := 1) (vs := [1]) (fun _ => true) (fun i => .bl (decide (z.cps.getD i 0 ∈ alpha.cps.toList))) (ev_var rfl) hl (fun _ => rfl) (fun i c H1 e hc H2 e2 Q k => k H2 (Ex.refl _)) (fun i c H1 e hc _ => ?_)
        · refine el_is q ?_
          rw [given_all, List.map_map]
          exact range_map_str z fun c => V.bl (decide (c ∈ alpha.cps.toList))
        · refine ev_is (ev_op (ev_var rfl) ev_c (z := .bl (decide (c ∈ alpha.cps.toList))) fun H1 e Q k => ⟨c, alpha, rfl, rfl, k H1 (Ex.refl _)⟩) ?_
          rw [Array.getD_eq_getD_getElem?, hc]
          rfl
end
end KW
namespace KW
open PySem PySem.Spec PyProof.Rows L2 Evl
section
variable {K : PySem.W.Frag} {σ : L2.St} {H : Hp} {te : TE} {tz : TS} {D : Ends}
theorem q_asgP {p : Addr} {u v : V} {j k : Nat} (h : Ev te σ H (.ref p)) (hq : SqT K H p [u, v]) (z : ∀ H1, Ex H H1 → tz D ((σ.set j (some u)).set k (some v)) H1) :
    tSeq (tAsg te (gTup K 2 (gCons (gName j) (gCons (gName k) gNil)))) tz D σ H := h H (Ex.refl _) _ fun H1 e => gpair (ex_t e hq) (z H1 e)
theorem el_eitherL {t u : TI} {g : TG} {tt : TT} {vs : List Nat} {xs : List V} (h : EvL (tLc t g tt te vs) σ H xs) : EvL (tLc (fun σ H R => t σ H R ∨ u σ H R) g tt te vs) σ H xs := fun H1 e Q k => .inl (h H1 e Q k)
theorem el_eitherR {t u : TI} {g : TG} {tt : TT} {vs : List Nat} {xs : List V} (h : EvL (tLc u g tt te vs) σ H xs) : EvL (tLc (fun σ H R => t σ H R ∨ u σ H R) g tt te vs) σ H xs := fun H1 e Q k => .inr (h H1 e Q k)
theorem Dq.tuple {v : V} {ds : List PyData} (q : Dq K H v (.tuple ds)) : ∃ p xs, v = .ref p ∧ SqT K H p xs ∧ Dqs K H xs ds := by
  cases q with
  | tup q qs => exact ⟨_, _, rfl, q, qs⟩
theorem Dq.list {v : V} {ds : List PyData} (q : Dq K H v (.list ds)) : ∃ p xs, v = .ref p ∧ SqL K H p xs ∧ Dqs K H xs ds := by
  cases q with
  | lst q qs => exact ⟨_, _, rfl, q, qs⟩
theorem dqs_two {xs : List V} {a b : PyData} (q : Dqs K H xs [a, b]) : ∃ u v, xs = [u, v] ∧ Dq K H u a ∧ Dq K H v b := by
  cases q with
  | cons q1 q2 =>
    cases q2 with
    | cons q2 q3 =>
      cases q3
      exact ⟨_, _, rfl, q1, q2⟩
theorem two_of {ds : List PyData} (h : ds.length = 2) : ∃ a b, ds = [a, b] := by
  match ds, h with
  | [a, b], _ => exact ⟨a, b, rfl⟩
end
theorem signD_tuple {d : PyData} (h : isD "tuple" d = true) : ∃ ds, d = .tuple ds := by
  cases d <;> first | exact ⟨_, rfl⟩ | cases h
theorem signD_no {d : PyData} (h : isD "tuple" d = false) : isSignD d = false := by
  cases d <;> first | rfl | cases h
theorem signD_len {ds : List PyData} (h : ds.length ≠ 2) : isSignD (.tuple ds) = false := by
  match ds, h with
  | [], _ => rfl
  | [_], _ => rfl
  | [_, _], h => exact absurd rfl h
  | _ :: _ :: _ :: _, _ => rfl
theorem int_of {K : PySem.W.Frag} {H : Hp} {v : V} {d : PyData} (q : Dq K H v d) (h : isIntD d = true) : ∃ i, d = .int i ∧ v = .int i := by
  cases q <;> first | exact ⟨_, rfl, rfl⟩ | cases h
section
variable {P : Program} {w : World} {K : PySem.W.Frag} {mg : Str → Option Value} {base : Heap}
theorem sc_is_sign : FnScope ["value", "name", "number"] ["value"] (defScope s_is_sign) := ⟨rfl, rfl, rfl, by decide +kernel, rfl, by decide +kernel, by decide +kernel⟩
theorem ok_is_sign {f f1 f2 : Addr} {fd fd1 fd2 : FuncData} (F : Fun K "is_sign" "is_sign" s_is_sign f fd) (B : Bt mg) (M : Nt mg) (F1 : Fun K "is_name" "is_name" s_is_name f1 fd1) (b1 : Binds K fd1 ["value"] []) (g1 : mg "is_name" = some (.ref f1))
    (F2 : Fun K "is_integer" "is_integer" s_is_integer f2 fd2) (b2 : Binds K fd2 ["value"] []) (g2 : mg "is_integer" = some (.ref f2)) : FnOk P w K mg base CX0 2 f fd ["value"] (spB K isSignD) := by
  have G1 : FnOk P w K mg base CX0 1 f1 fd1 ["value"] (spB K isNameD) := ok_is_name F1 B M
  have G2 : FnOk P w K mg base CX0 1 f2 fd2 ["value"] (spB K isIntD) := ok_is_integer F2 B
  refine F.ok sc_is_sign (fun vs H Q E h => ?_) (fun cdv A outer s H vs Q E hr h => ?_)
  · obtain ⟨x, d, rfl, _⟩ := h
    rfl
  · obtain ⟨x, d, rfl, q, s, k⟩ := h
    obtain ⟨t2, m2⟩ := M.mostP
    refine ⟨_, pss_cons (ps_if (PW.pt (pw_or (pt_not (pt_val (pe_callB call_isD (by rfl) B.isinstance boot_isinstance (pa_cons (pv 0) (pa_cons (pe_tyN "tuple" (by rfl) B.tuple boot_tuple) pa_nil)))))
        (pw_or1 (pt_cmpR op_ne (pe_callB call_len_seq (by rfl) B.len PySem.boot_len (pa_cons (pv 0) pa_nil)) pe_int (nomark _))))) (pss_one (ps_ret pe_bl)) pss_nil)
      (pss_cons (ps_asg (pv 0) (pg_tup rfl (pgs_cons (pg_name (i := 1) sc_is_sign.nd rfl (.inl rfl)) (pgs_cons (pg_name (i := 2) sc_is_sign.nd rfl (.inl rfl)) pgs_nil))))
      (pss_one (ps_ret (pe_and (pe_call G1 hr (by rfl) g1 F1.kp b1 .nil pass0 (pa_cons (pv 1) pa_nil)) (pe_and (pe_call G2 hr (by rfl) g2 F2.kp b2 .nil pass0 (pa_cons (pv 2) pa_nil)) (pe_one (pe_chain op_le op_le pe_int (pv 2) (pe_glob (v := .int 3) (by rfl) m2 ⟨_, rfl⟩)))))))), ?_⟩
    cases hs : isD "tuple" d with
    | false =>
      rw [signD_no hs] at k
      refine q_when (b := true) (et_is (et_or (et_not (et_B (ev_isD (ev_var rfl) q))) (b := true) fun z => ?_) (by rw [hs]; rfl)) (fun _ H1 e => ?_) (fun z => nomatch z)
      · rw [hs] at z
        cases z
      · exact s_ret ev_c fun H2 e2 => k H2 (e.trans e2)
    | true =>
      obtain ⟨ds, rfl⟩ := signD_tuple hs
      obtain ⟨p, xs, rfl, hq, qs⟩ := Dq.tuple q
      have hl := qs.len
      refine q_when (b := !decide (V.int (xs.length : Nat) = .int 2)) (et_is (et_or (et_not (et_B (ev_isD (ev_var rfl) q))) fun _ => et_test (ev_op (ev_lenT (ev_var rfl) hq) ev_c (rv_ne rfl))) (by rw [hs]; rfl)) (fun c H1 e => ?_) fun c H1 e => ?_
      · have ne : ds.length ≠ 2 := by
          intro z
          rw [hl, z] at c
          cases c
        rw [signD_len ne] at k
        exact s_ret ev_c fun H2 e2 => k H2 (e.trans e2)
      · have l2 : ds.length = 2 := by
          have := of_decide_eq_true (by simpa only [Bool.not_eq_false'] using c : decide (V.int (xs.length : Nat) = .int 2) = true)
          injection this with this
          omega
        obtain ⟨a, b, rfl⟩ := two_of l2
        obtain ⟨u, v, rfl, qa, qb⟩ := dqs_two qs
        have sa := (fit_tuple s).2
        refine q_asgP (ev_var rfl) (ex_t e hq) fun H2 e2 => ?_
        refine s_ret (ev_is (ev_andV (ev_call (ea_cons (ev_var rfl) ea_nil) (spB_v (qa.ex (e.trans e2)) (sa a (by simp)))) fun _ => ev_andV (b := upTo3 b) (ev_call (ea_cons (ev_var rfl) ea_nil) (spB_v (qb.ex (e.trans e2)) (sa b (by simp)))) fun hi => ?_) rfl) fun H3 e3 => k H3 ((e.trans e2).trans e3)
        obtain ⟨i, rfl, rfl⟩ := int_of qb hi
        exact ev_chain ev_c (ev_var rfl) ev_c rv_I0 rv_I0
end
end KW
namespace KW
open PySem PySem.Spec PyProof.Rows L2 Evl
/-- a sign's name, its number -/
def nameOf : PyData → Str
  | .tuple (.str x :: _) => x
  | _ => ""
def numOf : PyData → Int
  | .tuple [_, .int i] => i
  | _ => 0
def seqD : PyData → Option (List PyData)
  | .list xs => some xs
  | .tuple xs => some xs
  | _ => none
def areSigns (xs : List PyData) : Bool := (decide (1 ≤ (xs.length : Int)) && decide ((xs.length : Int) ≤ 6)) && (xs.all isSignD && (decide ((xs.map nameOf).Nodup) && decide ((0 : Int) ∈ xs.map numOf)))
def signsD (d : PyData) : Bool := match seqD d with
  | some xs => areSigns xs
  | none => false
theorem sign_is {d : PyData} (h : isSignD d = true) : ∃ x i, d = .tuple [.str x, .int i] ∧ nameS x = true ∧ 0 ≤ i ∧ i ≤ 3 := by
  match d, h with
  | .tuple [.str x, .int i], h =>
    simp only [isSignD, isNameD, upTo3, Bool.and_eq_true, decide_eq_true_eq] at h
    exact ⟨x, i, rfl, h.1, h.2.2.1, h.2.2.2⟩
  | .tuple [.str x, .bool i], h => simp [isSignD, isIntD, isD, kindD] at h
  | .tuple [.str x, .str i], h => simp [isSignD, isIntD, isD, kindD] at h
  | .tuple [.str x, .none], h => simp [isSignD, isIntD, isD, kindD] at h
  | .tuple [.str x, .list i], h => simp [isSignD, isIntD, isD, kindD] at h
  | .tuple [.str x, .tuple i], h => simp [isSignD, isIntD, isD, kindD] at h
  | .tuple [.str x, .dict i], h => simp [isSignD, isIntD, isD, kindD] at h
  | .tuple [.none, _], h => simp [isSignD, isNameD] at h
  | .tuple [.bool _, _], h => simp [isSignD, isNameD] at h
  | .tuple [.int _, _], h => simp [isSignD, isNameD] at h
  | .tuple [.list _, _], h => simp [isSignD, isNameD] at h
  | .tuple [.tuple _, _], h => simp [isSignD, isNameD] at h
  | .tuple [.dict _, _], h => simp [isSignD, isNameD] at h
/-- the items of signs are pairs of a text and a whole number -/
theorem signs_pairs {K : PySem.W.Frag} {H : Hp} {xs : List V} {ds : List PyData} (q : Dqs K H xs ds) (h : ds.all isSignD = true) (i : Nat) (x : V) (e : xs[i]? = some x) : ∃ p, x = .ref p ∧ SqT K H p [.str ((ds.map nameOf).getD i ""), .int ((ds.map numOf).getD i 0)] := by
  obtain ⟨d, hd, qd⟩ := q.get i x e
  obtain ⟨n, k, rfl, _⟩ := sign_is (List.all_eq_true.mp h d (List.mem_of_getElem? hd))
  obtain ⟨p, ys, rfl, hp, qs⟩ := Dq.tuple qd
  obtain ⟨u, v, rfl, qa, qb⟩ := dqs_two qs
  cases qa
  cases qb
  refine ⟨p, rfl, ?_⟩
  have e1 : (ds.map nameOf).getD i "" = n := by
    rw [List.getD_eq_getElem?_getD, List.getElem?_map, hd]
    rfl
  have e2 : (ds.map numOf).getD i 0 = k := by
    rw [List.getD_eq_getElem?_getD, List.getElem?_map, hd]
    rfl
  rw [e1, e2]
  exact hp
theorem range_map_get {α : Type} (ds : List α) (z : α) (f : α → V) : (List.range ds.length).map (fun i => f (ds.getD i z)) = ds.map f := by
  apply List.ext_getElem?
  intro i
  simp only [List.getElem?_map, List.getElem?_range]
  by_cases h : i < ds.length
  · simp [h, List.getD_eq_getElem?_getD]
  · simp [h]
theorem keys_nodup (xs : List Str) : ((xs.map Sum.inr : List Key)).Nodup ↔ xs.Nodup := by
  constructor
  · intro h
    refine (List.pairwise_map.mp h).imp fun {a b} n e => n ?_
    rw [e]
  · intro h
    exact List.pairwise_map.mpr (h.imp fun n e => n (Sum.inr.inj e))
theorem inV_ints (k : Int) (ns : List Int) : inV (.int k) (ns.map V.int) = decide (k ∈ ns) := by
  unfold inV
  rw [Bool.eq_iff_iff, List.any_eq_true, decide_eq_true_eq]
  constructor
  · rintro ⟨y, m, e⟩
    obtain ⟨n, hn, rfl⟩ := List.mem_map.mp m
    have : n = k := by simpa [eqV] using e
    exact this ▸ hn
  · intro m
    exact ⟨_, List.mem_map_of_mem m, by simp [eqV]⟩
section
variable {P : Program} {w : World} {K : PySem.W.Frag} {mg : Str → Option Value} {base : Heap}
theorem seq_of {H : Hp} {x : V} {d : PyData} {ds : List PyData} (q : Dq K H x d) (h : seqD d = some ds) : ∃ p xs, x = .ref p ∧ Dqs K H xs ds ∧ ((d = .list ds ∧ SqL K H p xs) ∨ (d = .tuple ds ∧ SqT K H p xs)) := by
  cases q <;> simp only [seqD, Option.some.injEq] at h
  all_goals first | cases h | skip
  · rename_i a xs hq qs
    exact ⟨_, _, rfl, qs, .inl ⟨rfl, hq⟩⟩
  · rename_i a xs hq qs
    exact ⟨_, _, rfl, qs, .inr ⟨rfl, hq⟩⟩
theorem sc_are_signs : FnScope ["value", "names", "entry", "name", "_", "number"] ["value"] (defScope s_are_signs) := ⟨rfl, rfl, rfl, by decide +kernel, rfl, by decide +kernel, by decide +kernel⟩
theorem ok_are_signs {f f0 f1 f2 : Addr} {fd fd0 fd1 fd2 : FuncData} (F : Fun K "are_signs" "are_signs" s_are_signs f fd) (B : Bt mg) (M : Nt mg) (F0 : Fun K "is_sign" "is_sign" s_is_sign f0 fd0) (b0 : Binds K fd0 ["value"] []) (g0 : mg "is_sign" = some (.ref f0))
    (F1 : Fun K "is_name" "is_name" s_is_name f1 fd1) (b1 : Binds K fd1 ["value"] []) (g1 : mg "is_name" = some (.ref f1)) (F2 : Fun K "is_integer" "is_integer" s_is_integer f2 fd2) (b2 : Binds K fd2 ["value"] []) (g2 : mg "is_integer" = some (.ref f2)) : FnOk P w K mg base CX0 3 f fd ["value"] (spB K signsD) := by
  have G0 : FnOk P w K mg base CX0 2 f0 fd0 ["value"] (spB K isSignD) := ok_is_sign F0 B M F1 b1 g1 F2 b2 g2
  refine F.ok sc_are_signs (fun vs H Q E h => ?_) (fun cdv A outer s H vs Q E hr h => ?_)
  · obtain ⟨x, d, rfl, _⟩ := h
    rfl
  · obtain ⟨x, d, rfl, q, s, k⟩ := h
    obtain ⟨t2, m2⟩ := M.mostS
    refine ⟨_, pss_cons (ps_if (PW.pt (pw_or (pt_not (pt_val (pe_callB call_isDT (by rfl) B.isinstance boot_isinstance (pa_cons (pv 0) (pa_cons (pe_tup (pa_cons (pe_tyN "list" (by rfl) B.list boot_list) (pa_cons (pe_tyN "tuple" (by rfl) B.tuple boot_tuple) pa_nil))) pa_nil)))))
        (pw_or1 (pt_not (pt_chain op_le op_le pe_int (pe_callB call_len_seq (by rfl) B.len PySem.boot_len (pa_cons (pv 0) pa_nil)) (pe_glob (v := .int 6) (by rfl) m2 ⟨_, rfl⟩)))))) (pss_one (ps_ret pe_bl)) pss_nil)
      (pss_cons (ps_if (pt_not (pt_val (pe_callB (cr_all rfl) (by rfl) B.all boot_all (pa_cons (pe_lc (own := [("entry", 2)]) (g := gName 2) (tt := tYes) (te := tCall (spB K isSignD) [] (fun _ _ _ => False) (tCons (tVar 2) tNil)) rfl sc_are_signs.nd (pi_either (pi_list (pv 0)) (pi_tup (pv 0))) (blkOk_by (N := ["value", "names", "entry", "name", "_", "number"]) (sc := defScope s_are_signs) (by decide +kernel))
          (fun _ _ _ _ _ => pg_name (i := 2) sc_are_signs.nd rfl (Or.inl rfl)) (fun _ _ _ _ _ => pts_nil) (fun _ _ _ _ _ => by exact pe_call G0 hr (by rfl) g0 F0.kp b0 .nil pass0 (pa_cons (pv 2) pa_nil))) pa_nil)))) (pss_one (ps_ret pe_bl)) pss_nil)
      (pss_cons (ps_setLc (i := 1) (own := [("name", 3), ("_", 4)]) (g := gTup K 2 (gCons (gName 3) (gCons (gName 4) gNil))) (tt := tYes) (te := tVar 3) rfl sc_are_signs.nd rfl rfl (sw_true rfl rfl rfl (by decide +kernel)) (pi_either (pi_list (pv 0)) (pi_tup (pv 0))) (blkOk_by (N := ["value", "names", "entry", "name", "_", "number"]) (sc := defScope s_are_signs) (by decide +kernel))
          (fun _ _ _ _ _ => by exact pg_tup rfl (pgs_cons (pg_name (i := 3) sc_are_signs.nd rfl (Or.inl rfl)) (pgs_cons (pg_name (i := 4) sc_are_signs.nd rfl (Or.inl rfl)) pgs_nil))) (fun _ _ _ _ _ => pts_nil) (fun _ _ _ _ _ => by exact pv 3))
      (pss_one (ps_ret (pe_and (pe_cmpR op_eq (pe_lenSetN (by rfl) B.len (by rfl) B.set (pv 1)) (pe_callB call_len_seq (by rfl) B.len PySem.boot_len (pa_cons (pv 1) pa_nil)) (nomark _))
        (pe_one (pe_cmpR op_in_seq pe_int (pe_lc (own := [("_", 4), ("number", 5)]) (g := gTup K 2 (gCons (gName 4) (gCons (gName 5) gNil))) (tt := tYes) (te := tVar 5) rfl sc_are_signs.nd (pi_either (pi_list (pv 0)) (pi_tup (pv 0))) (blkOk_by (N := ["value", "names", "entry", "name", "_", "number"]) (sc := defScope s_are_signs) (by decide +kernel))
          (fun _ _ _ _ _ => by exact pg_tup rfl (pgs_cons (pg_name (i := 4) sc_are_signs.nd rfl (Or.inl rfl)) (pgs_cons (pg_name (i := 5) sc_are_signs.nd rfl (Or.inl rfl)) pgs_nil))) (fun _ _ _ _ _ => pts_nil) (fun _ _ _ _ _ => by exact pv 5)) rfl))))))), ?_⟩
    cases hs : (isD "list" d || isD "tuple" d) with
    | false =>
      have e0 : signsD d = false := by cases d <;> first | rfl | cases hs
      rw [e0] at k
      refine q_when (b := true) (et_is (et_or (et_not (et_B (ev_isDT (ev_var rfl) q))) (b := true) fun z => ?_) (by rw [hs]; rfl)) (fun _ H1 e => ?_) (fun z => nomatch z)
      · rw [hs] at z
        cases z
      · exact s_ret ev_c fun H2 e2 => k H2 (e.trans e2)
    | true =>
      obtain ⟨ds, hd⟩ : ∃ ds, seqD d = some ds := by cases d <;> first | exact ⟨_, rfl⟩ | cases hs
      have ek : signsD d = areSigns ds := by
        unfold signsD
        rw [hd]
      rw [ek] at k
      obtain ⟨p, xs, rfl, qs, hp⟩ := seq_of q hd
      have sd : ds.length ≤ 40000 ∧ ∀ d ∈ ds, Fit d := by
        rcases hp with ⟨rfl, _⟩ | ⟨rfl, _⟩
        · exact fit_list s
        · exact fit_tuple s
      have hl := qs.len
      have zl : xs.length ≤ 40000 := by omega
      have lenE : ∀ {σ : L2.St} {H1 : Hp} {i : Nat}, Ex H H1 → σ[i]? = some (some (.ref p)) → Ev (tCB (rLenS K) (tCons (tVar i) tNil)) σ H1 (.int (xs.length : Nat)) := fun e h => by
        rcases hp with ⟨_, hp⟩ | ⟨_, hp⟩
        · exact ev_len (ev_var h) (ex_l e hp)
        · exact ev_lenT (ev_var h) (ex_t e hp)
      refine q_when (b := !(decide (1 ≤ (ds.length : Int)) && decide ((ds.length : Int) ≤ 6))) (et_is (et_or (et_not (et_B (ev_isDT (ev_var rfl) q))) fun _ => et_not (et_test (ev_chain ev_c (lenE (Ex.refl _) rfl) ev_c rv_I0 rv_I0))) (by rw [hs, hl]; rfl)) (fun c H1 e => ?_) fun c H1 e => ?_
      · have e0 : areSigns ds = false := by
          unfold areSigns
          rw [(by simpa only [Bool.not_eq_true'] using c : (decide (1 ≤ (ds.length : Int)) && decide ((ds.length : Int) ≤ 6)) = false)]
          rfl
        rw [e0] at k
        exact s_ret ev_c fun H2 e2 => k H2 (e.trans e2)
      have c2 : (decide (1 ≤ (ds.length : Int)) && decide ((ds.length : Int) ≤ 6)) = true := by simpa only [Bool.not_eq_false'] using c
      have ea : areSigns ds = (ds.all isSignD && (decide ((ds.map nameOf).Nodup) && decide ((0 : Int) ∈ ds.map numOf))) := by
        unfold areSigns
        rw [c2, Bool.true_and]
      rw [ea] at k
      have comp1 : EvL (tLc (fun σ H R => iList K (tVar 0) σ H R ∨ iTup K (tVar 0) σ H R) (gName 2) tYes (tCall (spB K isSignD) [] (fun _ _ _ => False) (tCons (tVar 2) tNil)) [2]) (start ["value", "names", "entry", "name", "_", "number"] [.ref p]) H1 ((ds.map isSignD).map V.bl) := by
        have el : given xs.length (fun _ => true) (fun i => .bl (isSignD (ds.getD i .none))) = (ds.map isSignD).map V.bl := by
          rw [given_all, hl, List.map_map]
          exact range_map_get ds .none fun d => V.bl (isSignD d)
        have one : ∀ (i : Nat) (x : V) H2, Ex H1 H2 → xs[i]? = some x → true = true → Ev (tCall (spB K isSignD) [] (fun _ _ _ => False) (tCons (tVar 2) tNil)) ((wipe (start ["value", "names", "entry", "name", "_", "number"] [.ref p]) [2]).set 2 (some x)) H2 (.bl (isSignD (ds.getD i .none))) := fun i x H2 e2 hx _ => by
          obtain ⟨d', hd', qd⟩ := qs.get i x hx
          have : ds.getD i .none = d' := by rw [List.getD_eq_getElem?_getD, hd']; rfl
          rw [this]
          exact ev_call (ea_cons (ev_var rfl) ea_nil) (spB_v (qd.ex (e.trans e2)) (sd.2 d' (List.mem_of_getElem? hd')))
        rcases hp with ⟨_, hp⟩ | ⟨_, hp⟩
        · exact el_eitherL (el_is (el_lcL (fun _ => true) _ (ev_var rfl) (ex_l e hp) zl (fun _ => rfl) (fun i x H2 e2 hx H3 e3 Q k => k H3 (Ex.refl _)) one) el)
        · exact el_eitherR (el_is (el_lcT (fun _ => true) _ (ev_var rfl) (ex_t e hp) zl (fun _ => rfl) (fun i x H2 e2 hx H3 e3 Q k => k H3 (Ex.refl _)) one) el)
      refine q_when (b := !ds.all isSignD) (et_is (et_not (et_B (ev_all comp1))) (by rw [List.all_map]; rfl)) (fun c H2 e2 => ?_) fun c H2 e2 => ?_
      · rw [(by simpa only [Bool.not_eq_true'] using c : ds.all isSignD = false)] at k
        exact s_ret ev_c fun H3 e3 => k H3 ((e.trans e2).trans e3)
      have ca : ds.all isSignD = true := by simpa only [Bool.not_eq_false'] using c
      rw [ca, Bool.true_and] at k
      have pr := fun {H' : Hp} (e' : Ex H H') => signs_pairs (K := K) (H := H') (xs := xs) (qs.ex e') ca
      have e12 := e.trans e2
      have comp2 : EvL (tLc (fun σ H R => iList K (tVar 0) σ H R ∨ iTup K (tVar 0) σ H R) (gTup K 2 (gCons (gName 3) (gCons (gName 4) gNil))) tYes (tVar 3) [3, 4]) (start ["value", "names", "entry", "name", "_", "number"] [.ref p]) H2 ((ds.map nameOf).map V.str) := by
        have el : given xs.length (fun _ => true) (fun i => .str ((ds.map nameOf).getD i "")) = (ds.map nameOf).map V.str := by
          rw [given_all, hl, ← List.length_map (f := nameOf)]
          exact range_map_get _ ("" : Str) V.str
        rcases hp with ⟨_, hp⟩ | ⟨_, hp⟩
        · exact el_eitherL (el_is (el_lcPL (fun _ => true) _ (fun i => .str ((ds.map nameOf).getD i "")) (fun i => .int ((ds.map numOf).getD i 0)) (ev_var rfl) (ex_l e12 hp) zl (pr e12) (fun _ _ => rfl) (fun i H3 e3 hi H4 e4 Q k => k H4 (Ex.refl _)) (fun i H3 e3 hi _ => ev_var rfl)) el)
        · exact el_eitherR (el_is (el_lcP (fun _ => true) _ (fun i => .str ((ds.map nameOf).getD i "")) (fun i => .int ((ds.map numOf).getD i 0)) (ev_var rfl) (ex_t e12 hp) zl (pr e12) (fun _ _ => rfl) (fun i H3 e3 hi H4 e4 Q k => k H4 (Ex.refl _)) (fun i H3 e3 hi _ => ev_var rfl)) el)
      refine q_asgL comp2 fun l H3 hl3 e3 hL => ?_
      have e123 := e12.trans e3
      have comp3 : EvL (tLc (fun σ H R => iList K (tVar 0) σ H R ∨ iTup K (tVar 0) σ H R) (gTup K 2 (gCons (gName 4) (gCons (gName 5) gNil))) tYes (tVar 5) [4, 5]) ((start ["value", "names", "entry", "name", "_", "number"] [.ref p]).set 1 (some (.ref l))) H3 ((ds.map numOf).map V.int) := by
        have el : given xs.length (fun _ => true) (fun i => .int ((ds.map numOf).getD i 0)) = (ds.map numOf).map V.int := by
          rw [given_all, hl, ← List.length_map (f := numOf)]
          exact range_map_get _ 0 V.int
        rcases hp with ⟨_, hp⟩ | ⟨_, hp⟩
        · exact el_eitherL (el_is (el_lcPL (fun _ => true) _ (fun i => .str ((ds.map nameOf).getD i "")) (fun i => .int ((ds.map numOf).getD i 0)) (ev_var rfl) (ex_l e123 hp) zl (pr e123) (fun _ _ => rfl) (fun i H3 e3 hi H4 e4 Q k => k H4 (Ex.refl _)) (fun i H3 e3 hi _ => ev_var rfl)) el)
        · exact el_eitherR (el_is (el_lcP (fun _ => true) _ (fun i => .str ((ds.map nameOf).getD i "")) (fun i => .int ((ds.map numOf).getD i 0)) (ev_var rfl) (ex_t e123 hp) zl (pr e123) (fun _ _ => rfl) (fun i H3 e3 hi H4 e4 Q k => k H4 (Ex.refl _)) (fun i H3 e3 hi _ => ev_var rfl)) el)
      have hk : SqL K H3 l (((ds.map nameOf).map Sum.inr : List Key).map kV) := by
        rw [List.map_map]
        exact sq_of hL
      have room : ((ds.map nameOf).map Sum.inr : List Key).length + 1 < scanBound := by
        have : (ds.length : Int) ≤ 6 := by
          rw [Bool.and_eq_true] at c2
          exact of_decide_eq_true c2.2
        rw [List.length_map, List.length_map]
        unfold scanBound
        omega
      refine s_ret (ev_is (ev_andV (ev_op (ev_lenSet (ev_var rfl) ⟨l, rfl, hk⟩ room) (ev_len (ev_var rfl) (sq_of hL)) (rv_eq rfl)) fun _ => ev_opL ev_c comp3 (fun p H4 hp4 _ => rv_isL (sq_of hp4) rfl (by rw [List.all_map]; exact List.all_eq_true.mpr fun _ _ => rfl))) ?_) fun H4 e4 => k H4 (e123.trans e4)
      rw [inV_ints]
      have : decide (V.int (kinds ((ds.map nameOf).map Sum.inr : List Key) ((ds.map nameOf).map Sum.inr : List Key).length : Nat) = V.int (((ds.map nameOf).map V.str).length : Nat)) = decide ((ds.map nameOf).Nodup) := by
        rw [decide_eq_decide, ← keys_nodup, ← kinds_iff]
        constructor
        · intro z
          injection z with z
          simp only [List.length_map] at z ⊢
          omega
        · intro z
          rw [z]
          simp only [List.length_map]
      rw [this]
end
end KW
/-! list.extend by a tuple; t[:0:-1] -/
namespace L2
open PySem PySem.Spec PyProof.Rows
/-! ### list.extend by a tuple -/
open AutoSeq1 in
theorem extend_by_tuple (l : Addr) (xs : Array Value) (n : Nat) (b : Addr) (ys : Array Value) (m : Nat) (dd : Option Addr) (sl : Array (Option Value)) (short : ¬(!xs.isEmpty && Builtin.List.listTooLong (xs.size + ys.size)) = true) (h1 : xs.size ≤ sizeLine) (h2 : xs.size + ys.size ≤ sizeLine + 1) :
    Meets (Builtin.«list.extend» ⟨[.ref l, .ref b], []⟩) (fun _ R s => s.heap.get? l = some { cls := .type "list", dict := none, data := .seq xs n, slots := #[] } ∧ s.heap.get? b = some { cls := .type "tuple", dict := dd, data := .seq ys m, slots := sl } ∧
      R (.ok (.ret Value.none)) { s with heap := s.heap.update l (Obj.mapSeq fun x => x ++ ys), toks := s.toks }) := by
  refine .of_wp fun prog w A R s ⟨hl, hb, h⟩ => ?_
  obtain ⟨hp, g, d, tk, os⟩ := s
  have f1 := idx_int
  have f2 := AutoSeq1.sub_tuple_tuple
  have f3 := AutoSeq1.sub_list_list
  have f4 := AutoSeq1.sub_tuple_list
  have f5 := AutoSeq1.sub_list_tuple
  have hz' : (xs ++ ys).size ≤ sizeLine + 1 := by
    rw [Array.size_append]
    exact h2
  wp_walk using (wpAny_updateSeq hl rfl (hz := h1) (_hz' := hz')), wpAny_loadPart' hl, wpAny_loadPart' hb
  exact ⟨_, rfl, h⟩
section
variable {X : Cx}
def rExtT (K : PySem.W.Frag) : V → List V → Hp → VK → Prop := fun x vs H Q => ∃ l b xs zs, x = .ref l ∧ vs = [.ref b] ∧ H l = some (.lst xs) ∧ SqT K H b zs ∧ xs.length + zs.length ≤ sizeLine ∧ Q .non (upd H l (.lst (xs ++ zs)))
theorem mt_extendT : MtM X "list.extend" (rExtT X.K) := by
  intro pins s σ H x vs v us Q I rx rv ⟨l, b, xs, zs, ex, ev, hH, hB, room, q⟩
  subst ex ev
  cases rx
  obtain ⟨u, rfl, ru⟩ := rv.one
  cases ru
  obtain ⟨z, its, n, r, hl, e⟩ := I.lstM hH
  obtain ⟨its2, r2, p2, hl2⟩ := I.tuple hB
  obtain ⟨⟨oc, od, odt, osl⟩, e2, ec, m, ed⟩ := (show s.heap.IsTuple b its2.toArray from p2)
  simp only at ec ed
  subst ec ed
  have k1 := r2.length
  have fits : its.toArray.size + its2.toArray.size ≤ sizeLine := by simp only [List.size_toArray]; omega
  have short : ¬ (!its.toArray.isEmpty && Builtin.List.listTooLong (its.toArray.size + its2.toArray.size)) = true := by
    rw [notLongL fits, Bool.and_false]
    decide
  refine call_meets F.slot_list_extend ⟨_, e, rfl⟩ F.entry_list_extend (F.args_list_extend_2 _ _) (extend_by_tuple l its.toArray n b its2.toArray m od osl short (by simp only [List.size_toArray]; omega) (by omega)) ⟨e, e2, ?_⟩
  exact ⟨.non, _, I.lset (its' := its ++ its2) hH e (by simp) (r.append r2) (by rw [List.length_append]; omega), rfl, q⟩
end
/-! ### t[:0:-1]: the tail from behind -/
theorem adjust_tail (n : Nat) : Builtin.Slice.sliceAdjust none (some 0) (-1) (n : Int) = ((n : Int) - 1, if n = 0 then -1 else 0) := by
  unfold Builtin.Slice.sliceAdjust
  simp only [show ((-1 : Int) < 0) = True by simp, if_true, show ((0 : Int) < 0) = False by simp, if_false]
  refine Prod.ext rfl ?_
  show min 0 ((n : Int) - 1) = _
  split <;> omega
theorem places_tail (n : Nat) : Builtin.Slice.slicePlaces ((n : Int) - 1) (if n = 0 then -1 else 0) (-1) = n - 1 := by
  unfold Builtin.Slice.slicePlaces
  simp only [show ((-1 : Int) > 0) = False by simp, if_false, Int.neg_neg, Int.ediv_one]
  split <;> split <;> omega
theorem fm_map {α β : Type} (f : α → Option β) (g : α → β) : ∀ (l : List α), (∀ x ∈ l, f x = some (g x)) → l.filterMap f = l.map g
  | [], _ => rfl
  | x :: l, h => by
    rw [List.filterMap_cons_some (h x (List.mem_cons_self ..)), List.map_cons, fm_map f g l fun y m => h y (List.mem_cons_of_mem _ m)]
theorem pick_tail (xs : Array Value) : ((List.range (xs.size - 1)).filterMap fun (k : Nat) => xs[(((xs.size : Int) - 1) + (k : Int) * (-1)).toNat]?) = (xs.toList.drop 1).reverse := by
  apply List.ext_getElem?
  intro i
  have key : ((List.range (xs.size - 1)).filterMap fun (k : Nat) => xs[(((xs.size : Int) - 1) + (k : Int) * (-1)).toNat]?) = (List.range (xs.size - 1)).map fun k => xs.getD (xs.size - 1 - k) .none := by
    refine fm_map _ _ _ fun k hk => ?_
    have hk := List.mem_range.mp hk
    have e : (((xs.size : Int) - 1) + (k : Int) * (-1)).toNat = xs.size - 1 - k := by omega
    have lt : xs.size - 1 - k < xs.size := by omega
    simp only [e, Array.getD_eq_getD_getElem?, Array.getElem?_eq_getElem lt, Option.getD_some]
  rw [key, List.getElem?_map]
  by_cases h : i < xs.size - 1
  · have lt : xs.size - 1 - i < xs.size := by omega
    rw [List.getElem?_reverse (by simpa using h)]
    simp only [List.getElem?_range h, List.getElem?_drop, List.length_drop, Array.length_toList, Option.map_some, Array.getD_eq_getD_getElem?, Array.getElem?_eq_getElem lt, Option.getD_some, Array.getElem?_toList]
    rw [show 1 + (xs.size - 1 - 1 - i) = xs.size - 1 - i by omega, Array.getElem?_eq_getElem lt]
  · rw [List.getElem?_eq_none (by simp; omega), List.getElem?_eq_none (by simp; omega)]
    rfl
section
variable {prog : Program} {w : World} {A : Around} {E : Value → Shared → Prop} {s : Shared}
theorem tuple_tail {t sl : Addr} {items : Array Value} {vu vs : Value} {Q : Value → Shared → Prop} (ht : IsTup s.heap t items) (hs : s.heap.IsSliceOf sl .none vu vs) (pu : IsPart vu (some 0)) (ps : IsPart vs (some (-1)))
    (h : Q (.ref s.heap.objs.size) { s with heap := s.heap.push { cls := .type "tuple", data := .seq (items.toList.drop 1).reverse.toArray } }) (room : items.size ≤ sizeLine) : wpAny (model prog w) A (getItem (.ref t) (.ref sl)) Q E s := by
  obtain ⟨os, hos, hcs, hds⟩ := id hs
  have isS : s.TypeIs (.ref sl) "slice" := ⟨os, hos, hcs⟩
  have fits : sizeOk (.seq (items.toList.drop 1).reverse.toArray) := by
    change (items.toList.drop 1).reverse.toArray.size ≤ sizeLine
    simp
    omega
  unfold getItem
  try with_reducible refine wpAny_holding ?_
  first | refine wpAny_bind (wpAny_pure ?_) | skip
  refine wpAny_bind (wpAny_sequenceKey ht.typeIs (by decide) ?_)
  refine wpAny_bind (wpAny_callSpecial?_slot (name := Str.ofString "__getitem__") ht.typeIs PyProof.Rows.slot_tuple_getitem (wpAny_call_entry PyProof.Rows.slot_tuple_getitem ht.typeIs PySem.F.entry_tuple_getitem ?_ (PySem.F.args_tuple_getitem_2 _ _)))
  change wpAny _ _ (Builtin.Tuple.tupleItemsOf (.ref t) >>= _) _ _ s
  refine wpAny_bind (tupleItemsOf_ ht (wpAny_bind (wpAny_typeOf isS ?_)))
  rw [if_pos (by decide)]
  refine wpAny_bind (m := Builtin.Slice.sliceApplied _ _) ?_
  unfold Builtin.Slice.sliceApplied Builtin.Slice.sliceFields
  refine wpAny_bind (wpAny_bind (wpAny_field hos hds (x := .none) rfl (wpAny_bind (wpAny_field hos hds (x := vu) rfl (wpAny_bind (wpAny_field hos hds (x := vs) rfl (wpAny_pure ?_)))))))
  refine wpAny_bind (HT.slicePart_ ps ?_)
  change wpAny _ _ (if ((-1 : Int) == 0) = true then _ else _) _ _ s
  rw [if_neg (by decide)]
  refine wpAny_bind (HT.slicePart_ .none (wpAny_bind (HT.slicePart_ pu (wpAny_bind (wpAny_pure ?_)))))
  change wpAny _ _ (match Builtin.Slice.sliceAdjust none (some 0) (-1) (items.size : Int) with | (lo, hi) => pure (lo, (-1 : Int), Builtin.Slice.slicePlaces lo hi (-1))) _ _ s
  rw [adjust_tail]
  change wpAny _ _ (pure (((items.size : Int) - 1), (-1 : Int), Builtin.Slice.slicePlaces ((items.size : Int) - 1) (if items.size = 0 then -1 else 0) (-1))) _ _ s
  rw [places_tail]
  refine wpAny_pure ?_
  change wpAny _ _ (if (((items.size : Int) - 1) == 0 && (-1 : Int) == 1 && (items.size - 1) == items.size) = true then _ else _) _ _ s
  rw [if_neg (by simp), pick_tail]
  first
    | exact wpAny_bind (m := Builtin.Tuple.tupleExact _) (wpAny_newObj_type (wpAny_pure ⟨_, rfl, wpAny_pure h⟩) fits)
    | exact wpAny_bind (wpAny_bind (m := Builtin.Tuple.tupleExact _) (wpAny_newObj_type (wpAny_pure ⟨_, rfl, wpAny_pure h⟩) fits))
    | exact wpAny_bind (m := Builtin.Tuple.tupleExact _) (wpAny_newObj_type (wpAny_bind (wpAny_pure (wpAny_pure ⟨_, rfl, wpAny_pure h⟩))) fits)
end
def tTail (K : PySem.W.Frag) (te : TE) : TE := fun σ H Q => te σ H fun x H1 => ∃ a xs, x = .ref a ∧ SqT K H1 a xs ∧ ∀ p, H1 p = none → Q (.ref p) (upd H1 p (.tup (xs.drop 1).reverse))
theorem pe_tail {X : Cx} {e : Expr} {te : TE} {k j : Nat} {p0 p1 p2 p3 pos : Pos} (he : PE X e te) :
    PE X (.Subscript e (.Slice none (some (.Constant (.int 0) j p0)) (some (.UnaryOp .USub (.Constant (.int 1) k p1) p2)) p3) pos) (tTail X.K te) := by
  constructor
  intro pins s σ H Q I h
  refine Subscript_ (thn (he.run pins s σ H _ I h) fun v s1 ⟨x, H1, I1, r1, a, xs, ex, hx, q⟩ => ?_)
  subst ex
  cases r1
  have up : PO X (some (.Constant (.int 0) j p0)) (tPart (tC (.int 0))) := po_some pe_int
  have st : PO X (some (.UnaryOp .USub (.Constant (.int 1) k p1) p2)) (tPart (tUn (rU fun i => .int (-i)) (tC (.int 1)))) := po_some (pe_un un_neg pe_int)
  refine wpAny_Slice (thn (po_none.run pins s1 σ H1 (fun o H2 => o = none ∧ H2 = H1) I1 ⟨rfl, rfl⟩) fun vl s2 ⟨l, H2, I2, pl, el, e2⟩ => ?_)
  subst el e2
  refine thn (up.run pins s2 σ H2 (fun o H3 => o = some 0 ∧ H3 = H2) I2 ⟨0, rfl, rfl, rfl⟩) fun vu s3 ⟨u, H3, I3, pu, eu, e3⟩ => ?_
  subst eu e3
  refine thn (st.run pins s3 σ H3 (fun o H4 => o = some (-1) ∧ H4 = H3) I3 ⟨1, rfl, -1, rfl, rfl, rfl⟩) fun vs s4 ⟨o, H4, I4, ps, eo, e4⟩ => ?_
  subst eo e4
  cases pl
  have I5 : Inv X pins σ H4 { s4 with heap := s4.heap.push { cls := .type "slice", data := .fields #[.none, vu, vs] } } := I4.kept (t' := s4.toks) fun b ob q => Heap.get?_push_of_some _ q
  obtain ⟨its, r, ht, hz⟩ := I5.tuple hx
  have hlen := r.length
  change wpAny (model X.prog X.w) X.A (subscriptTail e (.Slice none (some (.Constant (.int 0) j p0)) (some (.UnaryOp .USub (.Constant (.int 1) k p1) p2)) p3) (.ref a) (.ref s4.heap.objs.size)) (EP X pins σ Q) X.xe { s4 with heap := s4.heap.push { cls := .type "slice", data := .fields #[.none, vu, vs] } }
  refine tail_any (ops := [.ref a, .ref s4.heap.objs.size]) ht.typeIs (PyProof.Rows.slot_tuple_getitem.lookup) ?_ (by with_unfolding_all rfl)
  refine tuple_tail ht (Heap.IsSliceOf.new _ .none vu vs) pu ps ?_ (by rw [List.size_toArray]; omega)
  refine ⟨.ref _, _, I5.laid (t' := s4.toks) (o := .tup (xs.drop 1).reverse) (fun b ob q => Heap.get?_push_of_some _ q) (Nat.le_refl _) ?_, rfl, q _ (I5.hok.fresh (Nat.le_refl _))⟩
  exact ⟨by rw [List.length_reverse, List.length_drop]; omega, _, (r.drop 1).reverse, IsTup.new _ _⟩
end L2
namespace KW
open PySem PySem.Spec PyProof.Rows L2 Evl
def star : Str := "*"
mutual
/-- the nodes from the front -/
def nodesD : PyData → List PyData
  | .tuple (.str x :: ds) => .tuple (.str x :: ds) :: (if x = star then [] else nodesDs ds)
  | d => [d]
def nodesDs : List PyData → List PyData
  | [] => []
  | d :: ds => nodesD d ++ nodesDs ds
end
mutual
/-- all tuples within begin with a text -/
def walkD : PyData → Bool
  | .tuple (.str x :: ds) => decide (x = star) || walkDs ds
  | .tuple _ => false
  | _ => true
def walkDs : List PyData → Bool
  | [] => true
  | d :: ds => walkD d && walkDs ds
end
theorem nodesDs_app : ∀ (a b : List PyData), nodesDs (a ++ b) = nodesDs a ++ nodesDs b
  | [], b => rfl
  | d :: a, b => by
    show nodesD d ++ nodesDs (a ++ b) = nodesD d ++ nodesDs a ++ nodesDs b
    rw [nodesDs_app a b, List.append_assoc]
theorem walkDs_app : ∀ (a b : List PyData), walkDs (a ++ b) = (walkDs a && walkDs b)
  | [], b => by simp [walkDs]
  | d :: a, b => by
    show (walkD d && walkDs (a ++ b)) = (walkD d && walkDs a && walkDs b)
    rw [walkDs_app a b, Bool.and_assoc]
theorem walkDs_mem {ds : List PyData} : walkDs ds = true ↔ ∀ d ∈ ds, walkD d = true := by
  induction ds with
  | nil => simp [walkDs]
  | cons d ds ih =>
    rw [walkDs, Bool.and_eq_true, ih]
    simp
theorem walkDs_rev {ds : List PyData} (h : walkDs ds = true) : walkDs ds.reverse = true := walkDs_mem.mpr fun d m => walkDs_mem.mp h d (List.mem_reverse.mp m)
theorem one_node (d : PyData) : 1 ≤ (nodesD d).length := by
  unfold nodesD
  split <;> simp
theorem len_nodesDs : ∀ ds : List PyData, ds.length ≤ (nodesDs ds).length
  | [] => Nat.le_refl _
  | d :: ds => by
    have := one_node d
    have := len_nodesDs ds
    simp only [nodesDs, List.length_append, List.length_cons]
    omega
/-- a value's nodes, in a new list -/
def spNodes (K : PySem.W.Frag) : Sp := fun vs H Q _ => ∃ x d J, vs = [x] ∧ Ex J H ∧ Dq K J x d ∧ walkD d = true ∧ (nodesD d).length ≤ 4000 ∧ ∀ p ys H', H p = none → Ex H H' → H' p = some (.lst ys) → Dqs K J ys (nodesD d) → Q (.ref p) H'
theorem _root_.L2.Dqs.app {K : PySem.W.Frag} {H : Hp} : ∀ {vs ws : List V} {ds es : List PyData}, Dqs K H vs ds → Dqs K H ws es → Dqs K H (vs ++ ws) (ds ++ es)
  | _, _, _, _, .nil, r => r
  | _, _, _, _, .cons q qs, r => .cons q (L2.Dqs.app qs r)
theorem _root_.L2.Dqs.rev {K : PySem.W.Frag} {H : Hp} : ∀ {vs : List V} {ds : List PyData}, Dqs K H vs ds → Dqs K H vs.reverse ds.reverse
  | _, _, .nil => .nil
  | _, _, .cons q qs => by
    rw [List.reverse_cons, List.reverse_cons]
    exact (L2.Dqs.rev qs).app (.cons q .nil)
/-- the last of them -/
theorem _root_.L2.Dqs.last {K : PySem.W.Frag} {H : Hp} {vs : List V} {ds : List PyData} (q : Dqs K H vs ds) (ne : vs ≠ []) : ∃ v d es, vs[vs.length - 1]? = some v ∧ ds = es ++ [d] ∧ Dq K H v d ∧ Dqs K H vs.dropLast es := by
  have r := q.rev
  have hl := q.len
  cases hv : vs.reverse with
  | nil => exact absurd (List.reverse_eq_nil_iff.mp hv) ne
  | cons v us =>
    rw [hv] at r
    cases hd : ds.reverse with
    | nil =>
      rw [hd] at r
      cases r
    | cons d es =>
      rw [hd] at r
      cases r with
      | cons r1 r2 =>
        have ev : vs = us.reverse ++ [v] := by rw [← List.reverse_reverse vs, hv, List.reverse_cons]
        have ed : ds = es.reverse ++ [d] := by rw [← List.reverse_reverse ds, hd, List.reverse_cons]
        refine ⟨v, d, es.reverse, ?_, ed, r1, ?_⟩
        · rw [ev]
          simp
        · rw [ev, List.dropLast_concat]
          exact r2.rev
section
variable {P : Program} {w : World} {K : PySem.W.Frag} {mg : Str → Option Value} {base : Heap}
end
end KW
namespace KW
open PySem PySem.Spec PyProof.Rows L2 Evl
/-! ### worlds -/
structure Wd where
  signs : List (Str × Int)
  more : Bool
def signD (p : Str × Int) : PyData := .tuple [.str p.1, .int p.2]
def Wd.nums (W : Wd) : List (Key × V) := W.signs.map fun p => (Sum.inr p.1, V.int p.2)
def Wd.names (W : Wd) : List Str := W.signs.map (·.1)
def rankFrom : List Str → Nat → List (Key × V)
  | [], _ => []
  | x :: xs, n => (Sum.inr x, V.int n) :: rankFrom xs (n + 1)
def Wd.ranks (W : Wd) : List (Key × V) := rankFrom (W.names ++ [star]) 0
/-- what World takes -/
structure Wd.Ok (W : Wd) : Prop where
  fit : areSigns (W.signs.map signD) = true
def Wd.flds (W : Wd) (sg nb rk : Addr) : List (Str × V) := [("_signs", .ref sg), ("_more", .bl W.more), ("_numbers", .ref nb), ("_ranks", .ref rk)]
/-- a World stands at a -/
def WAt (K : PySem.W.Frag) (C : Addr) (H : Hp) (a : Addr) (W : Wd) : Prop := ∃ dx sg nb rk xs, H a = some (.ins C dx (W.flds sg nb rk)) ∧ H dx = some (.own a) ∧ SqT K H sg xs ∧ Dqs K H xs (W.signs.map signD) ∧ H nb = some (.dK W.nums) ∧ H rk = some (.dK W.ranks)
theorem WAt.ex {K : PySem.W.Frag} {C : Addr} {H H' : Hp} {a : Addr} {W : Wd} (e : Ex H H') (h : WAt K C H a W) : WAt K C H' a W := by
  obtain ⟨dx, sg, nb, rk, xs, h1, h2, h3, h4, h5, h6⟩ := h
  exact ⟨dx, sg, nb, rk, xs, e _ _ h1, e _ _ h2, ex_t e h3, h4.ex e, e _ _ h5, e _ _ h6⟩
/-- the class's facts -/
structure WC (K : PySem.W.Frag) (C : Addr) : Prop where
  cl : Cls K C
  nS : NoAttr K C "_signs"
  nM : NoAttr K C "_more"
  nN : NoAttr K C "_numbers"
  nR : NoAttr K C "_ranks"
def Wd.num (W : Wd) (x : Str) : Option Int := (W.signs.find? fun p => decide (p.1 = x)).map (·.2)
theorem num_val (W : Wd) (x : Str) : valV W.nums (Sum.inr x) = (W.num x).map V.int := by
  unfold valV Wd.nums Wd.num
  rw [List.find?_map]
  have : ((fun kv : Key × V => decide (kv.1 = Sum.inr x)) ∘ fun p : Str × Int => ((Sum.inr p.1 : Key), V.int p.2)) = fun p => decide (p.1 = x) := by
    funext p
    exact key_rr p.1 x
  rw [this, Option.map_map, Option.map_map]
  rfl
/-- a sign of the world with as many parts as it has -/
def hasSign (W : Wd) : PyData → Bool
  | .tuple (.str x :: ds) => decide (W.num x = some (ds.length : Int))
  | _ => false
def ge0 : PyData → Bool
  | .int i => decide (0 ≤ i)
  | _ => false
def isFurther (W : Wd) : PyData → Bool
  | .tuple [a, b] => W.more && (eqS a star && (isIntD b && ge0 b))
  | _ => false
def isOpen (W : Wd) (d : PyData) : Bool := match d with
  | .tuple [a] => W.more && eqS a star
  | .tuple _ => false
  | d => eqS d "_" || isNameD d
/-- a yes or no about data, asked of a world -/
def spW (K : PySem.W.Frag) (C : Addr) (f : Wd → PyData → Bool) : Sp := fun vs H Q _ => ∃ a W x d, vs = [.ref a, x] ∧ WAt K C H a W ∧ W.Ok ∧ Dq K H x d ∧ Fit d ∧ ∀ H', Ex H H' → Q (.bl (f W d)) H'
theorem spW_v {K : PySem.W.Frag} {C : Addr} {f : Wd → PyData → Bool} {a : Addr} {W : Wd} {x : V} {d : PyData} {H : Hp} (h : WAt K C H a W) (ok : W.Ok) (q : Dq K H x d) (s : Fit d) : SpV (spW K C f) (.ref a :: ([x] ++ [])) H (.bl (f W d)) := fun H1 e Q k E => ⟨a, W, x, d, rfl, h.ex e, ok, q.ex e, s, k⟩
section
variable {K : PySem.W.Frag} {C : Addr} {σ : L2.St} {H : Hp} {ta tb : TE} {a : Addr} {v : V} {W : Wd}
/-- a field -/
theorem ev_fld {f : Str} {C dx : Addr} {fs : List (Str × V)} (h : Ev ta σ H (.ref a)) (ha : H a = some (.ins C dx fs)) (c : Cls K C) (n : NoAttr K C f) (l : fs.lookup f = some v) : Ev (tFld K ta f) σ H v := fun H1 e Q k =>
  h H1 e _ fun H2 e2 => ⟨a, C, dx, fs, v, rfl, e2 _ _ (e _ _ ha), c, n, l, k H2 e2⟩
theorem ev_get {d : Addr} {kvs : List (Key × V)} {x : Str} (h : Ev ta σ H (.ref d)) (h2 : Ev tb σ H (.str x)) (hd : H d = some (.dK kvs)) : Ev (tDGet1 ta tb) σ H ((valV kvs (Sum.inr x)).getD .non) := fun H1 e Q k =>
  h H1 e _ fun H2 e2 => ⟨d, rfl, .inl ⟨kvs, .inl (e2 _ _ (e _ _ hd))⟩, h2 H2 (e.trans e2) _ fun H3 e3 => ⟨_, DGet.k (k := Sum.inr x) (e3 _ _ (e2 _ _ (e _ _ hd))), k H3 (e2.trans e3)⟩⟩
end
section
variable {P : Program} {w : World} {K : PySem.W.Frag} {mg : Str → Option Value} {base : Heap} {C : Addr}
theorem hasSign_no {W : Wd} {d : PyData} (h : isD "tuple" d = false) : hasSign W d = false := by
  cases d <;> first | rfl | cases h
theorem hasSign_no1 {W : Wd} {d : PyData} {ds : List PyData} (h : isD "str" d = false) : hasSign W (.tuple (d :: ds)) = false := by
  cases d <;> first | rfl | cases h
theorem sc_has_sign : FnScope ["self", "value"] ["self", "value"] (defScope s_World__has_sign) := ⟨rfl, rfl, rfl, by decide +kernel, rfl, by decide +kernel, by decide +kernel⟩
theorem ok_has_sign {f : Addr} {fd : FuncData} (F : Fun K "_has_sign" "World._has_sign" s_World__has_sign f fd) (B : Bt mg) (T : WC K C) : FnOk P w K mg base CX0 1 f fd ["self", "value"] (spW K C hasSign) := by
  refine F.ok sc_has_sign (fun vs H Q E h => ?_) (fun cdv A outer s H vs Q E hr h => ?_)
  · obtain ⟨a, W, x, d, rfl, _⟩ := h
    rfl
  · obtain ⟨a, W, x, d, rfl, hW, ok, q, s, k⟩ := h
    have hu := hu_of hr
    refine ⟨_, pss_cons (ps_if (PW.pt (pw_or (pt_not (pt_val (pe_callB call_isD (by rfl) B.isinstance boot_isinstance (pa_cons (pv 1) (pa_cons (pe_tyN "tuple" (by rfl) B.tuple boot_tuple) pa_nil)))))
        (pw_or (pt_cmpR op_eq (pe_callB call_len_seq (by rfl) B.len PySem.boot_len (pa_cons (pv 1) pa_nil)) pe_int (nomark _))
        (pw_or1 (pt_not (pt_val (pe_callB call_isD (by rfl) B.isinstance boot_isinstance (pa_cons (pe_ix ix_tup (pv 1) pe_int (fun _ _ => rfl)) (pa_cons (pe_tyN "str" (by rfl) B.str boot_str) pa_nil))))))))) (pss_one (ps_ret pe_bl)) pss_nil)
      (pss_one (ps_ret (pe_cmpR op_eq (pe_dget1 hu (pe_fld (pv 0) rfl) (pe_ix ix_tup (pv 1) pe_int (fun _ _ => rfl)) ⟨rfl, rfl, rfl, rfl⟩) (pe_op op_sub (pe_callB call_len_seq (by rfl) B.len PySem.boot_len (pa_cons (pv 1) pa_nil)) pe_int) (nomark _)))), ?_⟩
    cases ht : isD "tuple" d with
    | false =>
      rw [hasSign_no ht] at k
      refine q_when (b := true) (et_is (et_or (et_not (et_B (ev_isD (ev_var rfl) q))) (b := true) fun z => ?_) (by rw [ht]; rfl)) (fun _ H1 e => ?_) (fun z => nomatch z)
      · rw [ht] at z
        cases z
      · exact s_ret ev_c fun H2 e2 => k H2 (e.trans e2)
    | true =>
      obtain ⟨ds, rfl⟩ := signD_tuple ht
      obtain ⟨p, xs, rfl, hp, qs⟩ := Dq.tuple q
      have hl := qs.len
      match ds, xs, qs with
      | [], [], _ =>
        refine q_when (b := true) (et_is (et_or (et_not (et_B (ev_isD (ev_var rfl) q))) fun _ => et_or (a := true) (b := true) (et_is (et_test (ev_op (ev_lenT (ev_var rfl) hp) ev_c (rv_eq rfl))) rfl) fun z => nomatch z) (by rw [ht]; rfl)) (fun _ H1 e => ?_) (fun z => nomatch z)
        exact s_ret ev_c fun H2 e2 => k H2 (e.trans e2)
      | d0 :: ds, v0 :: vs, .cons q0 qs =>
        have at0 : atI (v0 :: vs) 0 = some v0 := atI_nat (j := 0) rfl
        have l0 : decide (V.int ((v0 :: vs).length : Nat) = V.int 0) = false := by
          refine decide_eq_false fun z => ?_
          injection z with z
          rw [List.length_cons] at z
          omega
        refine q_when (b := !isD "str" d0) (et_is (et_or (et_not (et_B (ev_isD (ev_var rfl) q))) fun _ => et_or (et_test (ev_op (ev_lenT (ev_var rfl) hp) ev_c (rv_eq rfl))) fun _ => et_not (et_B (ev_isD (ev_ixT (i := 0) (ev_var rfl) ev_c hp at0) q0))) (by rw [ht, l0]; rfl)) (fun c H1 e => ?_) (fun c H1 e => ?_)
        · rw [hasSign_no1 (by simpa only [Bool.not_eq_true'] using c)] at k
          exact s_ret ev_c fun H2 e2 => k H2 (e.trans e2)
        · obtain ⟨z, rfl, rfl⟩ := dq_str q0 (by simpa only [Bool.not_eq_false'] using c)
          obtain ⟨dx, sg, nb, rk, ys, h1, h2, h3, h4, h5, h6⟩ := hW
          refine s_ret (ev_is (ev_op (ev_get (kvs := W.nums) (ev_fld (v := .ref nb) (ev_var rfl) (e _ _ h1) T.cl T.nN rfl) (ev_ixT (i := 0) (ev_var rfl) ev_c (ex_t e hp) at0) (e _ _ h5)) (ev_op (ev_lenT (ev_var rfl) (ex_t e hp)) ev_c (rv_I0)) (rv_eq ?_)) ?_) fun H2 e2 => k H2 (e.trans e2)
          · rw [num_val]
            cases W.num z <;> rfl
          · rw [num_val]
            show V.bl _ = V.bl (decide (W.num z = some (ds.length : Int)))
            rw [V.bl.injEq, decide_eq_decide]
            have e1 : (((V.str z :: vs).length : Nat) : Int) - 1 = (ds.length : Int) := by
              rw [hl, List.length_cons]
              omega
            rw [e1]
            cases W.num z with
            | none => simp
            | some n => simp
end
end KW
namespace KW
open PySem PySem.Spec PyProof.Rows L2 Evl
theorem isFurther_no {W : Wd} {d : PyData} (h : isD "tuple" d = false) : isFurther W d = false := by
  cases d <;> first | rfl | cases h
theorem isFurther_len {W : Wd} {ds : List PyData} (h : ds.length ≠ 2) : isFurther W (.tuple ds) = false := by
  match ds, h with
  | [], _ => rfl
  | [_], _ => rfl
  | [_, _], h => exact absurd rfl h
  | _ :: _ :: _ :: _, _ => rfl
theorem isOpen_len {W : Wd} {ds : List PyData} (h : ds.length ≠ 1) : isOpen W (.tuple ds) = false := by
  match ds, h with
  | [], _ => rfl
  | [_], h => exact absurd rfl h
  | _ :: _ :: _, _ => rfl
theorem isOpen_no {W : Wd} {d : PyData} (h : isD "tuple" d = false) : isOpen W d = (eqS d "_" || isNameD d) := by
  cases d <;> first | rfl | cases h
theorem isFurther_more {W : Wd} {d : PyData} (h : W.more = false) : isFurther W d = false := by
  unfold isFurther
  split
  · rw [h]
    rfl
  · rfl
section
variable {P : Program} {w : World} {K : PySem.W.Frag} {mg : Str → Option Value} {base : Heap} {C : Addr}
theorem sc_is_further : FnScope ["self", "value"] ["self", "value"] (defScope s_World__is_further) := ⟨rfl, rfl, rfl, by decide +kernel, rfl, by decide +kernel, by decide +kernel⟩
theorem ok_is_further {f f2 : Addr} {fd fd2 : FuncData} (F : Fun K "_is_further" "World._is_further" s_World__is_further f fd) (B : Bt mg) (T : WC K C) (F2 : Fun K "is_integer" "is_integer" s_is_integer f2 fd2) (b2 : Binds K fd2 ["value"] []) (g2 : mg "is_integer" = some (.ref f2)) :
    FnOk P w K mg base CX0 2 f fd ["self", "value"] (spW K C isFurther) := by
  have G2 : FnOk P w K mg base CX0 1 f2 fd2 ["value"] (spB K isIntD) := ok_is_integer F2 B
  refine F.ok sc_is_further (fun vs H Q E h => ?_) (fun cdv A outer s H vs Q E hr h => ?_)
  · obtain ⟨a, W, x, d, rfl, _⟩ := h
    rfl
  · obtain ⟨a, W, x, d, rfl, hW, ok, q, s, k⟩ := h
    have hu := hu_of hr
    refine ⟨_, pss_cons (ps_if (PW.pt (pw_or (pt_not (pt_val (pe_fld (pv 0) rfl)))
        (pw_or (pt_not (pt_val (pe_callB call_isD (by rfl) B.isinstance boot_isinstance (pa_cons (pv 1) (pa_cons (pe_tyN "tuple" (by rfl) B.tuple boot_tuple) pa_nil)))))
        (pw_or1 (pt_cmpR op_ne (pe_callB call_len_seq (by rfl) B.len PySem.boot_len (pa_cons (pv 1) pa_nil)) pe_int (nomark _)))))) (pss_one (ps_ret pe_bl)) pss_nil)
      (pss_one (ps_ret (pe_and (pe_cmpR (op_eqS (Nat.lt_of_succ_lt hu)) (pe_ix ix_tup (pv 1) pe_int (fun _ _ => rfl)) pe_str (nomark _)) (pe_and (pe_call G2 hr (by rfl) g2 F2.kp b2 .nil pass0 (pa_cons (pe_ix ix_tup (pv 1) pe_int (fun _ _ => rfl)) pa_nil)) (pe_one (pe_cmpR op_ge (pe_ix ix_tup (pv 1) pe_int (fun _ _ => rfl)) pe_int (nomark _))))))), ?_⟩
    obtain ⟨dx, sg, nb, rk, ys, h1, h2, h3, h4, h5, h6⟩ := hW
    have fm : ∀ {H1}, Ex H H1 → Ev (tFld K (tVar 0) "_more") (start ["self", "value"] [.ref a, x]) H1 (.bl W.more) := fun e => ev_fld (ev_var rfl) (e _ _ h1) T.cl T.nM rfl
    cases hm : W.more with
    | false =>
      rw [isFurther_more hm] at k
      refine q_when (b := true) (et_is (et_or (et_not (et_B (fm (Ex.refl _)))) (b := true) fun z => ?_) (by rw [hm]; rfl)) (fun _ H1 e => ?_) (fun z => nomatch z)
      · rw [hm] at z
        cases z
      · exact s_ret ev_c fun H2 e2 => k H2 (e.trans e2)
    | true =>
    cases ht : isD "tuple" d with
    | false =>
      rw [isFurther_no ht] at k
      refine q_when (b := true) (et_is (et_or (et_not (et_B (fm (Ex.refl _)))) fun _ => et_or (et_not (et_B (ev_isD (ev_var rfl) q))) (b := true) fun z => ?_) (by rw [hm, ht]; rfl)) (fun _ H1 e => ?_) (fun z => nomatch z)
      · rw [ht] at z
        cases z
      · exact s_ret ev_c fun H2 e2 => k H2 (e.trans e2)
    | true =>
      obtain ⟨ds, rfl⟩ := signD_tuple ht
      obtain ⟨p, xs, rfl, hp, qs⟩ := Dq.tuple q
      have hl := qs.len
      refine q_when (b := !decide (V.int (xs.length : Nat) = .int 2)) (et_is (et_or (et_not (et_B (fm (Ex.refl _)))) fun _ => et_or (et_not (et_B (ev_isD (ev_var rfl) q))) fun _ => et_test (ev_op (ev_lenT (ev_var rfl) hp) ev_c (rv_ne rfl))) (by rw [hm, ht]; rfl)) (fun c H1 e => ?_) fun c H1 e => ?_
      · have ne : ds.length ≠ 2 := by
          intro z
          rw [hl, z] at c
          cases c
        rw [isFurther_len ne] at k
        exact s_ret ev_c fun H2 e2 => k H2 (e.trans e2)
      · have l2 : ds.length = 2 := by
          have := of_decide_eq_true (by simpa only [Bool.not_eq_false'] using c : decide (V.int (xs.length : Nat) = .int 2) = true)
          injection this with this
          omega
        obtain ⟨d1, d2, rfl⟩ := two_of l2
        obtain ⟨u, v, rfl, qa, qb⟩ := dqs_two qs
        have sa := (fit_tuple s).2
        have i0 : atI [u, v] 0 = some u := atI_nat (j := 0) rfl
        have i1 : atI [u, v] 1 = some v := atI_nat (j := 1) rfl
        have hp1 := ex_t e hp
        refine s_ret (ev_is (ev_andV (ev_eqS (ev_ixT (i := 0) (ev_var rfl) ev_c hp1 i0) ev_c (qa.ex e)) fun _ => ev_andV (b := ge0 d2) (ev_call (ea_cons (ev_ixT (i := 1) (ev_var rfl) ev_c hp1 i1) ea_nil) (spB_v (qb.ex e) (sa d2 (by simp)))) fun hi => ?_) ?_) fun H2 e2 => k H2 (e.trans e2)
        · obtain ⟨i, rfl, rfl⟩ := int_of qb hi
          exact ev_op (ev_ixT (i := 1) (ev_var rfl) ev_c hp1 i1) ev_c rv_I0
        · show V.bl _ = V.bl (W.more && (eqS d1 star && (isIntD d2 && ge0 d2)))
          rw [hm]
          rfl
theorem sc_is_open : FnScope ["self", "value"] ["self", "value"] (defScope s_World__is_open) := ⟨rfl, rfl, rfl, by decide +kernel, rfl, by decide +kernel, by decide +kernel⟩
theorem ok_is_open {f f1 : Addr} {fd fd1 : FuncData} (F : Fun K "_is_open" "World._is_open" s_World__is_open f fd) (B : Bt mg) (M : Nt mg) (T : WC K C) (F1 : Fun K "is_name" "is_name" s_is_name f1 fd1) (b1 : Binds K fd1 ["value"] []) (g1 : mg "is_name" = some (.ref f1)) :
    FnOk P w K mg base CX0 2 f fd ["self", "value"] (spW K C isOpen) := by
  have G1 : FnOk P w K mg base CX0 1 f1 fd1 ["value"] (spB K isNameD) := ok_is_name F1 B M
  refine F.ok sc_is_open (fun vs H Q E h => ?_) (fun cdv A outer s H vs Q E hr h => ?_)
  · obtain ⟨a, W, x, d, rfl, _⟩ := h
    rfl
  · obtain ⟨a, W, x, d, rfl, hW, ok, q, s, k⟩ := h
    have hu := hu_of hr
    refine ⟨_, pss_cons (ps_if (pt_val (pe_callB call_isD (by rfl) B.isinstance boot_isinstance (pa_cons (pv 1) (pa_cons (pe_tyN "tuple" (by rfl) B.tuple boot_tuple) pa_nil))))
        (pss_one (ps_ret (pe_and (pe_fld (pv 0) rfl) (pe_and (pe_cmpR op_eq (pe_callB call_len_seq (by rfl) B.len PySem.boot_len (pa_cons (pv 1) pa_nil)) pe_int (nomark _)) (pe_one (pe_cmpR (op_eqS (Nat.lt_of_succ_lt hu)) (pe_ix ix_tup (pv 1) pe_int (fun _ _ => rfl)) pe_str (nomark _))))))) pss_nil)
      (pss_one (ps_ret (pe_or (pe_cmpR (op_eqS (Nat.lt_of_succ_lt hu)) (pv 1) pe_str (nomark _)) (pe_one (pe_call G1 hr (by rfl) g1 F1.kp b1 .nil pass0 (pa_cons (pv 1) pa_nil)))))), ?_⟩
    obtain ⟨dx, sg, nb, rk, ys, h1, h2, h3, h4, h5, h6⟩ := hW
    refine q_when (b := isD "tuple" d) (et_B (ev_isD (ev_var rfl) q)) (fun ht H1 e => ?_) fun ht H1 e => ?_
    · obtain ⟨ds, rfl⟩ := signD_tuple ht
      obtain ⟨p, xs, rfl, hp, qs⟩ := Dq.tuple q
      have hl := qs.len
      have hp1 := ex_t e hp
      have fm : Ev (tFld K (tVar 0) "_more") (start ["self", "value"] [.ref a, .ref p]) H1 (.bl W.more) := ev_fld (ev_var rfl) (e _ _ h1) T.cl T.nM rfl
      by_cases l1 : ds.length = 1
      · obtain ⟨d1, rfl⟩ : ∃ d1, ds = [d1] := by
          match ds, l1 with
          | [d1], _ => exact ⟨d1, rfl⟩
        obtain ⟨u, rfl, qa⟩ : ∃ u, xs = [u] ∧ Dq K H u d1 := by
          cases qs with
          | cons qa q2 =>
            cases q2
            exact ⟨_, rfl, qa⟩
        have i0 : atI [u] 0 = some u := atI_nat (j := 0) rfl
        have eo : isOpen W (.tuple [d1]) = (W.more && (true && eqS d1 star)) := by
          rw [Bool.true_and]
          rfl
        rw [eo] at k
        have l1 : decide (V.int (([u] : List V).length : Nat) = V.int 1) = true := decide_eq_true rfl
        refine s_ret (ev_andV fm fun _ => ev_andV (ev_is (ev_op (ev_lenT (ev_var rfl) hp1) ev_c (rv_eq rfl)) (congrArg V.bl l1)) fun _ => ev_eqS (ev_ixT (i := 0) (ev_var rfl) ev_c hp1 i0) ev_c (qa.ex e)) fun H2 e2 => k H2 (e.trans e2)
      · rw [isOpen_len l1] at k
        have ln : decide (V.int (xs.length : Nat) = V.int 1) = false := by
          refine decide_eq_false fun z => ?_
          injection z with z
          omega
        refine s_ret (ev_is (ev_andV fm fun _ => ev_andV (b := true) (ev_op (ev_lenT (ev_var rfl) hp1) ev_c (rv_eq rfl)) fun z => ?_) ?_) fun H2 e2 => k H2 (e.trans e2)
        · rw [ln] at z
          cases z
        · rw [ln]
          cases W.more <;> rfl
    · rw [isOpen_no ht] at k
      exact s_ret (ev_orV (ev_eqS (ev_var rfl) ev_c (q.ex e)) fun _ => ev_call (ea_cons (ev_var rfl) ea_nil) (spB_v (q.ex e) s)) fun H2 e2 => k H2 (e.trans e2)
end
end KW
namespace KW
open PySem PySem.Spec PyProof.Rows L2 Evl
mutual
/-- a sign with its parts, or what leaf says -/
def fitsD (W : Wd) (leaf : PyData → Bool) : PyData → Bool
  | .tuple (.str x :: ds) => if W.num x = some (ds.length : Int) then fitsDs W leaf ds else leaf (.tuple (.str x :: ds))
  | d => leaf d
def fitsDs (W : Wd) (leaf : PyData → Bool) : List PyData → Bool
  | [] => true
  | d :: ds => fitsD W leaf d && fitsDs W leaf ds
end
mutual
/-- how much there is to look at -/
def wtD : PyData → Nat
  | .tuple (.str _ :: ds) => 1 + wtDs ds
  | _ => 1
def wtDs : List PyData → Nat
  | [] => 0
  | d :: ds => wtD d + wtDs ds
end
theorem wt_pos (d : PyData) : 1 ≤ wtD d := by
  unfold wtD
  split <;> omega
theorem wtDs_app : ∀ (a b : List PyData), wtDs (a ++ b) = wtDs a + wtDs b
  | [], b => by simp [wtDs]
  | d :: a, b => by
    simp only [List.cons_append, wtDs]
    rw [wtDs_app a b]
    omega
theorem wtDs_len : ∀ ds : List PyData, ds.length ≤ wtDs ds
  | [] => Nat.le_refl _
  | d :: ds => by
    have := wt_pos d
    have := wtDs_len ds
    simp only [wtDs, List.length_cons]
    omega
theorem fitsDs_app {W : Wd} {leaf : PyData → Bool} : ∀ (a b : List PyData), fitsDs W leaf (a ++ b) = (fitsDs W leaf a && fitsDs W leaf b)
  | [], b => by simp [fitsDs]
  | d :: a, b => by
    simp only [List.cons_append, fitsDs]
    rw [fitsDs_app a b, Bool.and_assoc]
theorem fitsD_sign {W : Wd} {leaf : PyData → Bool} {x : Str} {ds : List PyData} (h : hasSign W (.tuple (.str x :: ds)) = true) : fitsD W leaf (.tuple (.str x :: ds)) = fitsDs W leaf ds := by
  have e : W.num x = some (ds.length : Int) := of_decide_eq_true h
  rw [fitsD, if_pos e]
theorem fitsD_leaf {W : Wd} {leaf : PyData → Bool} {d : PyData} (h : hasSign W d = false) : fitsD W leaf d = leaf d := by
  unfold fitsD
  split
  · have e := of_decide_eq_false h
    rw [if_neg e]
  · rfl
theorem sign_shape {W : Wd} {d : PyData} (h : hasSign W d = true) : ∃ x ds, d = .tuple (.str x :: ds) := by
  unfold hasSign at h
  split at h
  · exact ⟨_, _, rfl⟩
  · cases h
def isTreeD (W : Wd) : PyData → Bool := fitsD W (isFurther W)
def isFormD (W : Wd) : PyData → Bool := fitsD W (isOpen W)
/-- a yes or no about data of some size, asked of a world -/
def spWw (K : PySem.W.Frag) (C : Addr) (f : Wd → PyData → Bool) : Sp := fun vs H Q _ => ∃ a W x d, vs = [.ref a, x] ∧ WAt K C H a W ∧ W.Ok ∧ Dq K H x d ∧ Fit d ∧ wtD d ≤ 4000 ∧ ∀ H', Ex H H' → Q (.bl (f W d)) H'
theorem spWw_v {K : PySem.W.Frag} {C : Addr} {f : Wd → PyData → Bool} {a : Addr} {W : Wd} {x : V} {d : PyData} {H : Hp} (h : WAt K C H a W) (ok : W.Ok) (q : Dq K H x d) (s : Fit d) (z : wtD d ≤ 4000) : SpV (spWw K C f) (.ref a :: ([x] ++ [])) H (.bl (f W d)) := fun H1 e Q k E => ⟨a, W, x, d, rfl, h.ex e, ok, q.ex e, s, z, k⟩
section
variable {K : PySem.W.Frag} {C : Addr} {σ : L2.St} {H : Hp} {ta tb : TE} {a : Addr} {v : V} {W : Wd}
theorem ev_meth {m : Str} {sp : Sp} {E : XK} {dvs vs : List V} {t : TA} {dx : Addr} {fs : List (Str × V)} {z : V} (h : Ev ta σ H (.ref a)) (ha : H a = some (.ins C dx fs)) (n : fs.lookup m = none) (hv : EvA t σ H vs) (hs : SpV sp (.ref a :: (vs ++ dvs)) H z) : Ev (tMeth C m sp dvs E ta t) σ H z := fun H1 e Q k =>
  h H1 e _ fun H2 e2 => ⟨a, dx, fs, rfl, e2 _ _ (e _ _ ha), n, hv H2 (e.trans e2) _ fun H3 e3 => hs H3 ((e.trans e2).trans e3) Q (fun H4 e4 => k H4 ((e2.trans e3).trans e4)) E⟩
theorem WAt.ins (h : WAt K C H a W) : ∃ dx sg nb rk, H a = some (.ins C dx (W.flds sg nb rk)) := let ⟨dx, sg, nb, rk, _, h1, _⟩ := h; ⟨dx, sg, nb, rk, h1⟩
end
section
variable {P : Program} {w : World} {K : PySem.W.Frag} {mg : Str → Option Value} {base : Heap} {C : Addr}
theorem sc_is_tree : FnScope ["self", "value", "waiting", "node"] ["self", "value"] (defScope s_World_is_tree) := ⟨rfl, rfl, rfl, by decide +kernel, rfl, by decide +kernel, by decide +kernel⟩
theorem ok_is_tree {f fh fl : Addr} {fd fdh fdl : FuncData} (F : Fun K "is_tree" "World.is_tree" s_World_is_tree f fd) (T : WC K C) (mh : Meth K C "_has_sign" fh) (bh : Binds K fdh ["self", "value"] []) (Gh : FnOk P w K mg base CX0 2 fh fdh ["self", "value"] (spW K C hasSign))
    (ml : Meth K C "_is_further" fl) (bl : Binds K fdl ["self", "value"] []) (Gl : FnOk P w K mg base CX0 2 fl fdl ["self", "value"] (spW K C isFurther)) : FnOk P w K mg base CX0 3 f fd ["self", "value"] (spWw K C isTreeD) := by
  refine F.ok sc_is_tree (fun vs H Q E h => ?_) (fun cdv A outer s H vs Q E hr h => ?_)
  · obtain ⟨a, W, x, d, rfl, _⟩ := h
    rfl
  · obtain ⟨a, W, x, d, rfl, hW, ok, q, s, z, k⟩ := h
    refine ⟨_, pss_cons (ps_set (i := 2) sc_is_tree.nd rfl (Or.inl rfl) (pe_lst (pa_cons (pv 1) pa_nil)))
      (pss_cons (ps_while PassesOwn.never (pt_truth (pv 2) (fun _ => rfl))
        (pss_cons (ps_set (i := 3) sc_is_tree.nd rfl (Or.inl rfl) (pe_bm0 PySem.F.plainAttrs_list PySem.F.slot_list_pop PySem.F.type_list_pop mt_pop (pv 2)))
        (pss_one (ps_if (pt_val (pe_meth (pv 0) T.cl mh Gh hr bh .nil pass0 (pa_cons (pv 3) pa_nil)))
          (pss_one (ps_expr (pe_bm PySem.F.plainAttrs_list PySem.F.slot_list_extend PySem.F.type_list_extend mt_extendT (pv 2) (pa_cons (pe_slice sl_tup (pv 3) (po_some pe_int) po_none) pa_nil))))
          (pss_one (ps_if (pt_not (pt_val (pe_meth (pv 0) T.cl ml Gl hr bl .nil pass0 (pa_cons (pv 3) pa_nil)))) (pss_one (ps_ret pe_bl)) pss_nil))))))
      (pss_one (ps_ret pe_bl))), ?_⟩
    refine q_asgL (el_lst (ea_cons (ev_var rfl) ea_nil) (by simp)) fun wt H2 hwt e2 h2 => ?_
    obtain ⟨dx, sg, nb, rk, hins⟩ := hW.ins
    refine q_while (fun m σ H' => ∃ (o : Option V) (ws : List V) (todo : List PyData), σ = [some (.ref a), some x, some (.ref wt), o] ∧ Ex H H' ∧ H' wt = some (.lst ws) ∧ Dqs K H ws todo ∧ (∀ d ∈ todo, Fit d) ∧ fitsDs W (isFurther W) todo = isTreeD W d ∧ wtDs todo ≤ 4000 ∧ m = wtDs todo) _
      ⟨none, [x], [d], rfl, e2, h2, .cons q .nil, (fun d' m => by rw [List.mem_singleton] at m; rw [m]; exact s), by simp [fitsDs, isTreeD], by simpa [wtDs] using z, rfl⟩ ?_
    rintro m σ H' ⟨o, ws, todo, rfl, e3, h4, q2, fit, hd, zt, rfl⟩
    refine ⟨!ws.isEmpty, fun H5 e5 Q' k' => ⟨.ref wt, rfl, _, .inl ⟨ws, sq_of (e5 _ _ h4), rfl⟩, k' H5 (Ex.refl _)⟩, fun c H5 e5 => ?_, fun c H5 e5 => ?_⟩
    · have wne : ws ≠ [] := by
        intro z
        rw [z] at c
        cases c
      obtain ⟨v, d0, es, hv, rfl, qv, qr⟩ := q2.last wne
      have f0 : Fit d0 := fit d0 (by simp)
      have fe : ∀ d ∈ es, Fit d := fun d m => fit d (by simp [m])
      have hd2 : (fitsDs W (isFurther W) es && fitsD W (isFurther W) d0) = isTreeD W d := by
        rw [← hd, fitsDs_app]
        simp [fitsDs]
      have w1 : wtDs (es ++ [d0]) = wtDs es + wtD d0 := by
        rw [wtDs_app]
        simp [wtDs]
      have p0 := wt_pos d0
      have lw := qr.len
      have le := wtDs_len es
      refine ⟨fun σ2 H2 => ∃ m', m' < wtDs (es ++ [d0]) ∧ ∃ (o : Option V) (ws : List V) (todo : List PyData), σ2 = [some (.ref a), some x, some (.ref wt), o] ∧ Ex H H2 ∧ H2 wt = some (.lst ws) ∧ Dqs K H ws todo ∧ (∀ d ∈ todo, Fit d) ∧ fitsDs W (isFurther W) todo = isTreeD W d ∧ wtDs todo ≤ 4000 ∧ m' = wtDs todo, fun σ2 H2 z => z, ?_⟩
      refine ⟨_, rfl, .inl ⟨rfl, ws, sq_of (e5 _ _ h4)⟩, wt, ws, v, rfl, rfl, e5 _ _ h4, hv, ?_⟩
      have hH6 : Ex H (upd H5 wt (.lst ws.dropLast)) := Ex.mut (e3.trans e5) hwt
      have hw6 : upd H5 wt (.lst ws.dropLast) wt = some (.lst ws.dropLast) := upd_same
      generalize upd H5 wt (.lst ws.dropLast) = H6 at hH6 hw6
      refine s_if (b := hasSign W d0) (et_B (ev_meth (ev_var rfl) (hH6 _ _ hins) rfl (ea_cons (ev_var rfl) ea_nil) (spW_v (hW.ex hH6) ok (qv.ex hH6) f0))) (fun ht H7 e7 => ?_) fun ht H7 e7 => ?_
      · obtain ⟨y, ds, rfl⟩ := sign_shape ht
        obtain ⟨p, xs, rfl, hp, qs⟩ := Dq.tuple qv
        obtain ⟨us, rfl, qu⟩ : ∃ us, xs = V.str y :: us ∧ Dqs K H us ds := by
          cases qs with
          | cons qa qs =>
            cases qa
            exact ⟨_, rfl, qs⟩
        have lu := qu.len
        have lk := wtDs_len ds
        have w2 : wtD (.tuple (.str y :: ds)) = 1 + wtDs ds := by simp [wtD]
        have sx : HT.sIx (V.str y :: us).length 0 (some 1) = 1 := by
          refine (HT.sIx_nat _ 0 1).trans ?_
          simp
        refine ⟨_, rfl, .inl ⟨rfl, _, sq_of (e7 _ _ hw6)⟩, _, rfl, 1, rfl, p, _, rfl, ex_t (hH6.trans e7) hp, (fun z => by rw [sx] at z; exact absurd z.1 (by decide)), fun t7 ht7 => ?_⟩
        have ec : cutV (V.str y :: us) (some 1) none = us := by
          unfold cutV
          rw [sx]
          simp [HT.sIx]
        rw [ec]
        have net : t7 ≠ wt := fun z => by rw [z, e7 _ _ hw6] at ht7; cases ht7
        refine ⟨wt, t7, ws.dropLast, us, rfl, rfl, (upd_ne (Ne.symm net)).trans (e7 _ _ hw6), SqT.of upd_same, sz_of (by omega), ?_⟩
        refine ⟨wtDs (es ++ ds), ?_, some (.ref p), ws.dropLast ++ us, es ++ ds, rfl, Ex.mut ((hH6.trans e7).trans (Ex.new ht7)) hwt, upd_same, qr.app qu, ?_, ?_, ?_, rfl⟩
        · rw [w1, wtDs_app]
          omega
        · intro d m
          rcases List.mem_append.mp m with m | m
          · exact fe d m
          · exact (fit_tuple f0).2 d (List.mem_cons_of_mem _ m)
        · rw [fitsDs_app, ← fitsD_sign ht]
          exact hd2
        · rw [wtDs_app]
          omega
      · rw [fitsD_leaf ht] at hd2
        refine s_when (b := !isFurther W d0) (et_not (et_B (ev_meth (ev_var rfl) ((hH6.trans e7) _ _ hins) rfl (ea_cons (ev_var rfl) ea_nil) (spW_v (hW.ex (hH6.trans e7)) ok (qv.ex (hH6.trans e7)) f0)))) (fun c8 H8 e8 => ?_) fun c8 H8 e8 => ?_
        · have c9 : isFurther W d0 = false := by simpa only [Bool.not_eq_true'] using c8
          rw [c9, Bool.and_false] at hd2
          rw [← hd2] at k
          exact s_ret ev_c fun H9 e9 => k H9 (((hH6.trans e7).trans e8).trans e9)
        · have c9 : isFurther W d0 = true := by simpa only [Bool.not_eq_false'] using c8
          rw [c9, Bool.and_true] at hd2
          exact ⟨wtDs es, by omega, some v, ws.dropLast, es, rfl, (hH6.trans e7).trans e8, e8 _ _ (e7 _ _ hw6), qr, fe, hd2, by omega, rfl⟩
    · have w0 : ws = [] := by
        cases ws with
        | nil => rfl
        | cons a b => cases c
      subst w0
      cases q2
      have : isTreeD W d = true := by rw [← hd]; rfl
      rw [this] at k
      exact s_ret ev_c fun H9 e9 => k H9 ((e3.trans e5).trans e9)
theorem sc_is_form : FnScope ["self", "value", "waiting", "node"] ["self", "value"] (defScope s_World_is_form) := ⟨rfl, rfl, rfl, by decide +kernel, rfl, by decide +kernel, by decide +kernel⟩
theorem ok_is_form {f fh fl : Addr} {fd fdh fdl : FuncData} (F : Fun K "is_form" "World.is_form" s_World_is_form f fd) (T : WC K C) (mh : Meth K C "_has_sign" fh) (bh : Binds K fdh ["self", "value"] []) (Gh : FnOk P w K mg base CX0 2 fh fdh ["self", "value"] (spW K C hasSign))
    (ml : Meth K C "_is_open" fl) (bl : Binds K fdl ["self", "value"] []) (Gl : FnOk P w K mg base CX0 2 fl fdl ["self", "value"] (spW K C isOpen)) : FnOk P w K mg base CX0 3 f fd ["self", "value"] (spWw K C isFormD) := by
  refine F.ok sc_is_form (fun vs H Q E h => ?_) (fun cdv A outer s H vs Q E hr h => ?_)
  · obtain ⟨a, W, x, d, rfl, _⟩ := h
    rfl
  · obtain ⟨a, W, x, d, rfl, hW, ok, q, s, z, k⟩ := h
    refine ⟨_, pss_cons (ps_set (i := 2) sc_is_form.nd rfl (Or.inl rfl) (pe_lst (pa_cons (pv 1) pa_nil)))
      (pss_cons (ps_while PassesOwn.never (pt_truth (pv 2) (fun _ => rfl))
        (pss_cons (ps_set (i := 3) sc_is_form.nd rfl (Or.inl rfl) (pe_bm0 PySem.F.plainAttrs_list PySem.F.slot_list_pop PySem.F.type_list_pop mt_pop (pv 2)))
        (pss_one (ps_if (pt_val (pe_meth (pv 0) T.cl mh Gh hr bh .nil pass0 (pa_cons (pv 3) pa_nil)))
          (pss_one (ps_expr (pe_bm PySem.F.plainAttrs_list PySem.F.slot_list_extend PySem.F.type_list_extend mt_extendT (pv 2) (pa_cons (pe_slice sl_tup (pv 3) (po_some pe_int) po_none) pa_nil))))
          (pss_one (ps_if (pt_not (pt_val (pe_meth (pv 0) T.cl ml Gl hr bl .nil pass0 (pa_cons (pv 3) pa_nil)))) (pss_one (ps_ret pe_bl)) pss_nil))))))
      (pss_one (ps_ret pe_bl))), ?_⟩
    refine q_asgL (el_lst (ea_cons (ev_var rfl) ea_nil) (by simp)) fun wt H2 hwt e2 h2 => ?_
    obtain ⟨dx, sg, nb, rk, hins⟩ := hW.ins
    refine q_while (fun m σ H' => ∃ (o : Option V) (ws : List V) (todo : List PyData), σ = [some (.ref a), some x, some (.ref wt), o] ∧ Ex H H' ∧ H' wt = some (.lst ws) ∧ Dqs K H ws todo ∧ (∀ d ∈ todo, Fit d) ∧ fitsDs W (isOpen W) todo = isFormD W d ∧ wtDs todo ≤ 4000 ∧ m = wtDs todo) _
      ⟨none, [x], [d], rfl, e2, h2, .cons q .nil, (fun d' m => by rw [List.mem_singleton] at m; rw [m]; exact s), by simp [fitsDs, isFormD], by simpa [wtDs] using z, rfl⟩ ?_
    rintro m σ H' ⟨o, ws, todo, rfl, e3, h4, q2, fit, hd, zt, rfl⟩
    refine ⟨!ws.isEmpty, fun H5 e5 Q' k' => ⟨.ref wt, rfl, _, .inl ⟨ws, sq_of (e5 _ _ h4), rfl⟩, k' H5 (Ex.refl _)⟩, fun c H5 e5 => ?_, fun c H5 e5 => ?_⟩
    · have wne : ws ≠ [] := by
        intro z
        rw [z] at c
        cases c
      obtain ⟨v, d0, es, hv, rfl, qv, qr⟩ := q2.last wne
      have f0 : Fit d0 := fit d0 (by simp)
      have fe : ∀ d ∈ es, Fit d := fun d m => fit d (by simp [m])
      have hd2 : (fitsDs W (isOpen W) es && fitsD W (isOpen W) d0) = isFormD W d := by
        rw [← hd, fitsDs_app]
        simp [fitsDs]
      have w1 : wtDs (es ++ [d0]) = wtDs es + wtD d0 := by
        rw [wtDs_app]
        simp [wtDs]
      have p0 := wt_pos d0
      have lw := qr.len
      have le := wtDs_len es
      refine ⟨fun σ2 H2 => ∃ m', m' < wtDs (es ++ [d0]) ∧ ∃ (o : Option V) (ws : List V) (todo : List PyData), σ2 = [some (.ref a), some x, some (.ref wt), o] ∧ Ex H H2 ∧ H2 wt = some (.lst ws) ∧ Dqs K H ws todo ∧ (∀ d ∈ todo, Fit d) ∧ fitsDs W (isOpen W) todo = isFormD W d ∧ wtDs todo ≤ 4000 ∧ m' = wtDs todo, fun σ2 H2 z => z, ?_⟩
      refine ⟨_, rfl, .inl ⟨rfl, ws, sq_of (e5 _ _ h4)⟩, wt, ws, v, rfl, rfl, e5 _ _ h4, hv, ?_⟩
      have hH6 : Ex H (upd H5 wt (.lst ws.dropLast)) := Ex.mut (e3.trans e5) hwt
      have hw6 : upd H5 wt (.lst ws.dropLast) wt = some (.lst ws.dropLast) := upd_same
      generalize upd H5 wt (.lst ws.dropLast) = H6 at hH6 hw6
      refine s_if (b := hasSign W d0) (et_B (ev_meth (ev_var rfl) (hH6 _ _ hins) rfl (ea_cons (ev_var rfl) ea_nil) (spW_v (hW.ex hH6) ok (qv.ex hH6) f0))) (fun ht H7 e7 => ?_) fun ht H7 e7 => ?_
      · obtain ⟨y, ds, rfl⟩ := sign_shape ht
        obtain ⟨p, xs, rfl, hp, qs⟩ := Dq.tuple qv
        obtain ⟨us, rfl, qu⟩ : ∃ us, xs = V.str y :: us ∧ Dqs K H us ds := by
          cases qs with
          | cons qa qs =>
            cases qa
            exact ⟨_, rfl, qs⟩
        have lu := qu.len
        have lk := wtDs_len ds
        have w2 : wtD (.tuple (.str y :: ds)) = 1 + wtDs ds := by simp [wtD]
        have sx : HT.sIx (V.str y :: us).length 0 (some 1) = 1 := by
          refine (HT.sIx_nat _ 0 1).trans ?_
          simp
        refine ⟨_, rfl, .inl ⟨rfl, _, sq_of (e7 _ _ hw6)⟩, _, rfl, 1, rfl, p, _, rfl, ex_t (hH6.trans e7) hp, (fun z => by rw [sx] at z; exact absurd z.1 (by decide)), fun t7 ht7 => ?_⟩
        have ec : cutV (V.str y :: us) (some 1) none = us := by
          unfold cutV
          rw [sx]
          simp [HT.sIx]
        rw [ec]
        have net : t7 ≠ wt := fun z => by rw [z, e7 _ _ hw6] at ht7; cases ht7
        refine ⟨wt, t7, ws.dropLast, us, rfl, rfl, (upd_ne (Ne.symm net)).trans (e7 _ _ hw6), SqT.of upd_same, sz_of (by omega), ?_⟩
        refine ⟨wtDs (es ++ ds), ?_, some (.ref p), ws.dropLast ++ us, es ++ ds, rfl, Ex.mut ((hH6.trans e7).trans (Ex.new ht7)) hwt, upd_same, qr.app qu, ?_, ?_, ?_, rfl⟩
        · rw [w1, wtDs_app]
          omega
        · intro d m
          rcases List.mem_append.mp m with m | m
          · exact fe d m
          · exact (fit_tuple f0).2 d (List.mem_cons_of_mem _ m)
        · rw [fitsDs_app, ← fitsD_sign ht]
          exact hd2
        · rw [wtDs_app]
          omega
      · rw [fitsD_leaf ht] at hd2
        refine s_when (b := !isOpen W d0) (et_not (et_B (ev_meth (ev_var rfl) ((hH6.trans e7) _ _ hins) rfl (ea_cons (ev_var rfl) ea_nil) (spW_v (hW.ex (hH6.trans e7)) ok (qv.ex (hH6.trans e7)) f0)))) (fun c8 H8 e8 => ?_) fun c8 H8 e8 => ?_
        · have c9 : isOpen W d0 = false := by simpa only [Bool.not_eq_true'] using c8
          rw [c9, Bool.and_false] at hd2
          rw [← hd2] at k
          exact s_ret ev_c fun H9 e9 => k H9 (((hH6.trans e7).trans e8).trans e9)
        · have c9 : isOpen W d0 = true := by simpa only [Bool.not_eq_false'] using c8
          rw [c9, Bool.and_true] at hd2
          exact ⟨wtDs es, by omega, some v, ws.dropLast, es, rfl, (hH6.trans e7).trans e8, e8 _ _ (e7 _ _ hw6), qr, fe, hd2, by omega, rfl⟩
    · have w0 : ws = [] := by
        cases ws with
        | nil => rfl
        | cons a b => cases c
      subst w0
      cases q2
      have : isFormD W d = true := by rw [← hd]; rfl
      rw [this] at k
      exact s_ret ev_c fun H9 e9 => k H9 ((e3.trans e5).trans e9)
end
end KW
namespace KW
open PySem PySem.Spec PyProof.Rows L2 Evl
/-- the letters of a form -/
def nameIn : PyData → Option Str
  | .str x => if nameS x then some x else none
  | _ => none
def lettersN (d : PyData) : List Str := (nodesD d).filterMap nameIn
def isPlainD (W : Wd) (d : PyData) : Bool := isFormD W d && decide (lettersN d).Nodup
theorem given_names {K : PySem.W.Frag} {H : Hp} : ∀ {ys : List V} {ds : List PyData}, Dqs K H ys ds → given ys.length (fun i => isNameD (ds.getD i .none)) (fun i => ys.getD i .non) = (ds.filterMap nameIn).map V.str
  | _, _, .nil => rfl
  | y :: ys, d :: ds, .cons q qs => by
    have ih := given_names qs
    unfold given at ih ⊢
    rw [List.length_cons, List.range_succ_eq_map, List.filter_cons, List.filter_map]
    have e1 : ((fun i => isNameD ((d :: ds).getD i .none)) ∘ Nat.succ) = fun i => isNameD (ds.getD i .none) := by
      funext i
      simp
    rw [e1]
    have e2 : ((fun i => (y :: ys).getD i V.non) ∘ Nat.succ) = fun i => ys.getD i V.non := by
      funext i
      simp
    have e3 : (d :: ds).getD 0 PyData.none = d := rfl
    cases hn : isNameD d with
    | true =>
      obtain ⟨z, rfl⟩ : ∃ z, d = .str z := by cases d <;> first | exact ⟨_, rfl⟩ | cases hn
      cases q
      have hs : nameIn (.str z) = some z := if_pos hn
      rw [if_pos (by rw [e3]; exact hn), List.map_cons, List.map_map, e2, ih, List.filterMap_cons_some hs, List.map_cons]
      rfl
    | false =>
      have hs : nameIn d = none := by
        cases d <;> first | rfl | exact if_neg (by rw [show nameS _ = isNameD (.str _) from rfl, hn]; decide)
      rw [if_neg (by rw [e3, hn]; decide), List.map_map, e2, ih, List.filterMap_cons_none hs]
mutual
theorem nodes_wt : ∀ d : PyData, (nodesD d).length ≤ wtD d
  | .tuple (.str x :: ds) => by
    rw [nodesD, wtD, List.length_cons]
    split
    · simp
    · have := nodes_wts ds
      omega
  | .none => by simp [nodesD, wtD]
  | .bool _ => by simp [nodesD, wtD]
  | .int _ => by simp [nodesD, wtD]
  | .str _ => by simp [nodesD, wtD]
  | .list _ => by simp [nodesD, wtD]
  | .dict _ => by simp [nodesD, wtD]
  | .tuple [] => by simp [nodesD, wtD]
  | .tuple (.none :: _) => by simp [nodesD, wtD]
  | .tuple (.bool _ :: _) => by simp [nodesD, wtD]
  | .tuple (.int _ :: _) => by simp [nodesD, wtD]
  | .tuple (.list _ :: _) => by simp [nodesD, wtD]
  | .tuple (.tuple _ :: _) => by simp [nodesD, wtD]
  | .tuple (.dict _ :: _) => by simp [nodesD, wtD]
theorem nodes_wts : ∀ ds : List PyData, (nodesDs ds).length ≤ wtDs ds
  | [] => Nat.le_refl _
  | d :: ds => by
    have := nodes_wt d
    have := nodes_wts ds
    simp only [nodesDs, wtDs, List.length_append]
    omega
end
mutual
/-- what fits may be walked -/
theorem fits_walk {W : Wd} {leaf : PyData → Bool} (hl : ∀ d, leaf d = true → walkD d = true) : ∀ d : PyData, fitsD W leaf d = true → walkD d = true
  | .tuple (.str x :: ds), h => by
    rw [fitsD] at h
    split at h
    · rw [walkD, fits_walks hl ds h, Bool.or_true]
    · exact hl _ h
  | .none, h => rfl
  | .bool _, h => rfl
  | .int _, h => rfl
  | .str _, h => rfl
  | .list _, h => rfl
  | .dict _, h => rfl
  | .tuple [], h => hl _ h
  | .tuple (.none :: _), h => hl _ h
  | .tuple (.bool _ :: _), h => hl _ h
  | .tuple (.int _ :: _), h => hl _ h
  | .tuple (.list _ :: _), h => hl _ h
  | .tuple (.tuple _ :: _), h => hl _ h
  | .tuple (.dict _ :: _), h => hl _ h
theorem fits_walks {W : Wd} {leaf : PyData → Bool} (hl : ∀ d, leaf d = true → walkD d = true) : ∀ ds : List PyData, fitsDs W leaf ds = true → walkDs ds = true
  | [], _ => rfl
  | d :: ds, h => by
    rw [fitsDs, Bool.and_eq_true] at h
    rw [walkDs, fits_walk hl d h.1, fits_walks hl ds h.2]
    rfl
end
theorem eqS_star {a : PyData} (h : eqS a star = true) : a = .str star := by
  unfold eqS at h
  split at h
  · rw [eq_of_beq h]
  · cases h
theorem open_walk {W : Wd} (d : PyData) (h : isOpen W d = true) : walkD d = true := by
  cases ht : isD "tuple" d with
  | false => cases d <;> first | rfl | cases ht
  | true =>
    obtain ⟨ds, rfl⟩ := signD_tuple ht
    by_cases l : ds.length = 1
    · obtain ⟨a, rfl⟩ : ∃ a, ds = [a] := by
        match ds, l with
        | [a], _ => exact ⟨a, rfl⟩
      have h2 : (W.more && eqS a star) = true := h
      rw [Bool.and_eq_true] at h2
      rw [eqS_star h2.2]
      simp [walkD]
    · rw [isOpen_len l] at h
      cases h
theorem further_walk {W : Wd} (d : PyData) (h : isFurther W d = true) : walkD d = true := by
  cases ht : isD "tuple" d with
  | false => rw [isFurther_no ht] at h; cases h
  | true =>
    obtain ⟨ds, rfl⟩ := signD_tuple ht
    by_cases l : ds.length = 2
    · obtain ⟨a, b, rfl⟩ := two_of l
      have h2 : (W.more && (eqS a star && (isIntD b && ge0 b))) = true := h
      rw [Bool.and_eq_true, Bool.and_eq_true] at h2
      rw [eqS_star h2.2.1]
      simp [walkD]
    · rw [isFurther_len l] at h
      cases h
section
variable {P : Program} {w : World} {K : PySem.W.Frag} {mg : Str → Option Value} {base : Heap} {C : Addr}
theorem node_fit : ∀ {n : Nat} {d : PyData}, wtD d ≤ n → Fit d → ∀ e ∈ nodesD d, Fit e := by
  intro n
  induction n with
  | zero =>
    intro d h
    have := wt_pos d
    omega
  | succ n ih =>
    intro d h f e m
    unfold nodesD at m
    split at m
    · rename_i x ds
      rcases List.mem_cons.mp m with rfl | m
      · exact f
      · split at m
        · cases m
        · have hk : ∀ d ∈ ds, Fit d := fun d m => (fit_tuple f).2 d (List.mem_cons_of_mem _ m)
          have hw : wtDs ds ≤ n := by
            rw [wtD] at h
            omega
          have all : ∀ ds : List PyData, wtDs ds ≤ n → (∀ d ∈ ds, Fit d) → ∀ e ∈ nodesDs ds, Fit e := by
            intro ds
            induction ds with
            | nil => intro _ _ e m; cases m
            | cons d ds ihd =>
              intro hw hk e m
              rw [nodesDs, List.mem_append] at m
              rw [wtDs] at hw
              rcases m with m | m
              · exact ih (by omega) (hk d (List.mem_cons_self ..)) e m
              · exact ihd (by omega) (fun d m => hk d (List.mem_cons_of_mem _ m)) e m
          exact all ds hw hk e m
    · rw [List.mem_singleton] at m
      rw [m]
      exact f
end
end KW
namespace KW
open PySem PySem.Spec PyProof.Rows L2 Evl
/-! ### errors with a value -/
def spKeep (K : PySem.W.Frag) (fld : Str) : Sp := fun vs H Q _ => ∃ (a C : Addr) (v : V), vs = [.ref a, v] ∧ OexC K C ∧ PySem.W.findIn K (.ref C) fld = some none ∧ H a = some (exo a C none) ∧ ∀ d, H d = none → d ≠ a → Q .non (upd (upd H d (exd d [(fld, v)])) a (exo a C (some d)))
/-- what is known of an error class -/
structure EC (P : Program) (w : World) (K : PySem.W.Frag) (mg : Str → Option Value) (base : Heap) (x : Str) (C fI : Addr) (fd : FuncData) : Prop where
  T : OexC K C
  iC : PySem.W.findIn K (.ref C) "__init__" = some (some (.ref fI))
  tI : PySem.W.typeIn K (.ref fI) = some (.type "function")
  b : Binds K fd ["self", "value"] []
  g : mg x = some (.ref C)
  no : PySem.W.findIn K (.ref C) "value" = some none
  G : FnOk P w K mg base CX0 1 fI fd ["self", "value"] (spKeep K "value")
theorem raise_value {K : PySem.W.Frag} {C : Addr} {σ : L2.St} {H : Hp} {te : TE} {v : V} {Wk : XK} (T : OexC K C) (no : PySem.W.findIn K (.ref C) "value" = some none) (h : Ev te σ H v) (k : ∀ d H2, H d = none → Ex H H2 → H2 d = some (.xd [("value", v)]) → Wk (.ref C) (some d) H2) :
    tMkO C (spKeep K "value") [] (tCons te tNil) σ H Wk := h H (Ex.refl _) _ fun H1 e1 => by
  refine ⟨(by show 1 ≤ 1000; decide), fun a ha => ⟨a, C, v, rfl, T, no, upd_same, fun d hd ne => ?_⟩⟩
  have hd1 : H1 d = none := (upd_ne ne).symm.trans hd
  refine ⟨rfl, d, [("value", v)], upd_same, (upd_ne ne).trans upd_same, hd1, k d _ (fresh_back e1 hd1) (fun b o hb => ?_) upd_same⟩
  have hb1 := e1 b o hb
  have na : b ≠ a := fun z => by rw [z, ha] at hb1; cases hb1
  have nd : b ≠ d := fun z => by rw [z, hd1] at hb1; cases hb1
  rw [upd_ne nd, del_ne na, upd_ne na, upd_ne nd, upd_ne na]
  exact hb1
/-- a number told of a tree, or the value raised -/
def spSize (K : PySem.W.Frag) (C CB : Addr) : Sp := fun vs H Q E => ∃ a W x d, vs = [.ref a, x] ∧ WAt K C H a W ∧ W.Ok ∧ Dq K H x d ∧ Fit d ∧ wtD d ≤ 4000 ∧ (isTreeD W d = true → ∀ H', Ex H H' → Q (.int (nodesD d).length) H') ∧
  (isTreeD W d = false → ∀ e H', H e = none → Ex H H' → H' e = some (.xd [("value", x)]) → E (.ref CB) (some e) H')
section
variable {P : Program} {w : World} {K : PySem.W.Frag} {mg : Str → Option Value} {base : Heap} {C CB : Addr}
theorem sc_bad_signs : FnScope ["self", "value"] ["self", "value"] (defScope s_BadSigns___init__) := ⟨rfl, rfl, rfl, by decide +kernel, rfl, by decide +kernel, by decide +kernel⟩
theorem ok_bad_signs {f : Addr} {fd : FuncData} (F : Fun K "__init__" "BadSigns.__init__" s_BadSigns___init__ f fd) : FnOk P w K mg base CX0 1 f fd ["self", "value"] (spKeep K "value") := by
  refine F.ok sc_bad_signs (fun vs H Q E h => ?_) (fun cdv A outer s H vs Q E hr h => ?_)
  · obtain ⟨a, C, v, rfl, _⟩ := h
    rfl
  · obtain ⟨a, C, v, rfl, T, hno, ha, k⟩ := h
    exact ⟨_, pss_one (ps_ost (pv 0) (pv 1)), _, rfl, _, rfl, a, C, rfl, T, hno, .inl ⟨ha, k⟩⟩
end
end KW
/-! tuples without a dict of their own: tuple(xs), dict(t) -/
namespace L2
open PySem PySem.Spec PyProof.Rows
/-- at p a tuple of xs that has no dict of its own -/
def PlT (H : Hp) (p : Addr) (xs : List V) : Prop := ∃ o, H p = some (.frz o (.tup xs)) ∧ o.dict = none
theorem PlT.sq {K : PySem.W.Frag} {H : Hp} {p : Addr} {xs : List V} (h : PlT H p xs) : SqT K H p xs := .inl (.inr ⟨_, h.choose_spec.1⟩)
theorem PlT.ex {H H' : Hp} {p : Addr} {xs : List V} (e : ∀ b o, H b = some o → H' b = some o) (h : PlT H p xs) : PlT H' p xs := let ⟨o, a, b⟩ := h; ⟨o, e _ _ a, b⟩
section
variable {X : Cx}
/-- a new tuple, laid -/
theorem lay_plain {pins : List (Addr × Obj)} {σ : St} {H : Hp} {s : Shared} {xs : List V} {its : List Value} (I : Inv X pins σ H s) (r : Vals xs its) (hz : xs.length ≤ sizeLine) :
    Inv X pins σ (upd H s.heap.objs.size (.frz { cls := .type "tuple", data := .seq its.toArray } (.tup xs))) { s with heap := s.heap.push { cls := .type "tuple", data := .seq its.toArray } } :=
  I.laid (t' := s.toks) (fun b o e => Heap.get?_push_of_some _ e) (Nat.le_refl _) (show ObjOk X.prog X.w _ _ _ (.frz _ (.tup xs)) from ⟨Heap.get?_push_size _ rfl, hz, its, r, IsTup.new _ _⟩)
/-- tuple(xs): a new one of a list, the very one of a tuple -/
def rTupP (K : PySem.W.Frag) : List V → Hp → VK → Prop := fun xs H Q => ∃ p ys, xs = [.ref p] ∧ ((SqL K H p ys ∧ ∀ l o, H l = none → o.dict = none → Q (.ref l) (upd H l (.frz o (.tup ys)))) ∨ (SqT K H p ys ∧ Q (.ref p) H))
theorem call_tupleP : CallR X (.type "tuple") (rTupP X.K) := by
  intro pins s σ H xs us Q I r ⟨p, ys, ex, h⟩
  subst ex
  obtain ⟨u, rfl, rx⟩ := vals1 r
  cases rx
  rcases h with ⟨hq, q⟩ | ⟨hq, q⟩
  · obtain ⟨its, r', pl, hz⟩ := I.list hq
    have hlen := r'.length
    refine call_tuple_list pl.isList (fun h' kp => ?_) (by simp only [List.size_toArray] <;> omega)
    have I1 : Inv X pins σ H { s with heap := h' } := I.kept (t' := s.toks) kp
    exact ⟨.ref h'.objs.size, _, lay_plain I1 r' hz, rfl, q _ _ (I1.hok.fresh (Nat.le_refl _)) rfl⟩
  · obtain ⟨its, r', pl, hz⟩ := I.tuple hq
    exact call_tuple_same pl ⟨.ref p, H, I, rfl, q⟩
theorem pairsV {pins : List (Addr × Obj)} {σ : St} {H : Hp} {s : Shared} (I : Inv X pins σ H s) : ∀ {ps : List Addr} {kvs : List (Key × V)}, Paired (fun p kv => SqT X.K H p [kV kv.1, kv.2]) ps kvs →
    ∃ (pvs : List (Value × Value)) (prs : List (Key × Value)), KV kvs prs ∧ pvs.length = ps.length ∧ prs.length = ps.length ∧ ∀ (j : Nat) (u v : Value), pvs[j]? = some (u, v) → ∃ (b : Addr) (k : Key), ps[j]? = some b ∧ IsTup s.heap b #[u, v] ∧ prs[j]? = some (k, v) ∧ keyIs k u = true
  | _, _, .nil => ⟨[], [], .nil, rfl, rfl, fun j u v e => by simp at e⟩
  | _, _, .cons (a := p) (b := kv) h t => by
    obtain ⟨pvs, prs, r, l1, l2, hp⟩ := pairsV I t
    obtain ⟨its, rv, ht, _⟩ := I.tuple h
    obtain ⟨u, y, rfl, ru, ry⟩ := vals2 rv
    refine ⟨(u, y) :: pvs, (kv.1, y) :: prs, .cons ⟨rfl, ry⟩ r, by simp [l1], by simp [l2], fun j u' v' e => ?_⟩
    cases j with
    | zero =>
      simp only [List.getElem?_cons_zero, Option.some.injEq, Prod.mk.injEq] at e
      obtain ⟨rfl, rfl⟩ := e
      exact ⟨p, kv.1, rfl, ht, rfl, kV_is (P := X.prog) (w := X.w) ru⟩
    | succ j =>
      obtain ⟨b, k, e1, e2, e3, e4⟩ := hp j u' v' (by simpa using e)
      exact ⟨b, k, by simpa using e1, e2, by simpa using e3, e4⟩
/-- dict(t) of a tuple of pairs -/
def rDictT (K : PySem.W.Frag) : List V → Hp → VK → Prop := fun xs H Q => ∃ (a : Addr) (ps : List Addr) (kvs : List (Key × V)), xs = [.ref a] ∧ PlT H a (ps.map V.ref) ∧ Paired (fun p kv => SqT K H p [kV kv.1, kv.2]) ps kvs ∧ ∀ p, H p = none → Q (.ref p) (upd H p (.dK (mergeK [] kvs)))
theorem call_dictT (cold : X.calm = true) : CallR X (.type "dict") (rDictT X.K) := by
  intro pins s σ H xs us Q I r ⟨a, ps, kvs, ex, ⟨o, ha, hd⟩, hp, q⟩
  subst ex
  obtain ⟨u, eu, rx⟩ := vals1 r
  subst eu
  cases rx
  obtain ⟨h1, hz, its, rv, o2, h2, hc, n, hdat⟩ := I.hok a _ ha
  rw [h1] at h2
  cases h2
  have ei := refs_at rv
  subst ei
  rw [List.length_map] at hz
  obtain ⟨pvs, prs, rel, lv, lp, hpr⟩ := pairsV I hp
  refine PySem.call_dict_pairs (knd := mixKind X.prog X.w) (kvs := prs) (PairArg.tuple a (ps.map Value.ref).toArray (fun j => ps.getD j 0) pvs) (I.ok.hd cold) ⟨⟨o, n, h1, hc, hd, hdat⟩, ?_, ?_⟩ ⟨by omega, ?_⟩ (by omega) fun h' tk hd' k => ?_
  · simp [lv]
  · intro j u v e
    obtain ⟨b, k, e1, e2, e3, e4⟩ := hpr j u v e
    have g : ps.getD j 0 = b := by rw [List.getD_eq_getElem?_getD, e1]; rfl
    refine ⟨by simp [e1, g], .inl ?_⟩
    show IsTup s.heap (ps.getD j 0) #[u, v]
    rw [g]
    exact e2
  · intro j u v e
    obtain ⟨b, k, e1, e2, e3, e4⟩ := hpr j u v e
    exact ⟨k, e3, e4⟩
  · have hm : (s.heap.objs.size == sysModules) = false := beq_eq_false_iff_ne.mpr (Nat.ne_of_gt I.big)
    have hlen : (mergeK [] kvs).length ≤ sizeLine := by
      have := length_mergeK kvs []
      have := rel.length
      simp only [List.length_nil] at *
      omega
    exact ⟨.ref s.heap.objs.size, upd H s.heap.objs.size (.dK (mergeK [] kvs)), I.laid (t' := tk) (fun b o e => k b o (by simp) e) (Nat.le_refl _) (show ObjOk X.prog X.w _ _ _ (.dK (mergeK [] kvs)) from ⟨hlen, hm, merged [] prs, KV.merge rel .nil, hd'⟩), rfl, q _ (I.hok.fresh (Nat.le_refl _))⟩
end
end L2
namespace KW
open PySem PySem.Spec PyProof.Rows L2 Evl
/-! ### data apart from instances -/
def noIns (H : Hp) : Hp := fun b => match H b with
  | some (.ins ..) => none
  | o => o
theorem noIns_of {H : Hp} {b : Addr} {o : HO} (e : H b = some o) (n : ∀ C dx fs, o ≠ .ins C dx fs) : noIns H b = some o := by
  unfold noIns
  rw [e]
  cases o <;> first | rfl | exact absurd rfl (n _ _ _)
theorem noIns_sub {H : Hp} {b : Addr} {o : HO} (e : noIns H b = some o) : H b = some o ∧ ∀ C dx fs, o ≠ .ins C dx fs := by
  unfold noIns at e
  split at e
  · cases e
  · rename_i n
    exact ⟨e, fun C dx fs z => n C dx fs (z ▸ e)⟩
theorem sqL_noIns {K : PySem.W.Frag} {H : Hp} {a : Addr} {xs : List V} (h : SqL K H a xs) : SqL K (noIns H) a xs := by
  rcases h with (h | ⟨o, h⟩) | h
  · exact .inl (.inl (noIns_of h fun _ _ _ z => nomatch z))
  · exact .inl (.inr ⟨o, noIns_of h fun _ _ _ z => nomatch z⟩)
  · exact .inr h
theorem sqT_noIns {K : PySem.W.Frag} {H : Hp} {a : Addr} {xs : List V} (h : SqT K H a xs) : SqT K (noIns H) a xs := by
  rcases h with (h | ⟨o, h⟩) | h
  · exact .inl (.inl (noIns_of h fun _ _ _ z => nomatch z))
  · exact .inl (.inr ⟨o, noIns_of h fun _ _ _ z => nomatch z⟩)
  · exact .inr h
mutual
theorem dq_noIns {K : PySem.W.Frag} {H : Hp} : ∀ {v : V} {d : PyData}, Dq K H v d → Dq K (noIns H) v d
  | _, _, .non => .non
  | _, _, .bl b => .bl b
  | _, _, .int i => .int i
  | _, _, .str x => .str x
  | _, _, .lst q qs => .lst (sqL_noIns q) (dqs_noIns qs)
  | _, _, .tup q qs => .tup (sqT_noIns q) (dqs_noIns qs)
  | _, _, .dct q qs => .dct (noIns_of q fun _ _ _ z => nomatch z) (dkv_noIns qs)
theorem dqs_noIns {K : PySem.W.Frag} {H : Hp} : ∀ {v : List V} {d : List PyData}, Dqs K H v d → Dqs K (noIns H) v d
  | _, _, .nil => .nil
  | _, _, .cons q qs => .cons (dq_noIns q) (dqs_noIns qs)
theorem dkv_noIns {K : PySem.W.Frag} {H : Hp} : ∀ {v : List (Key × V)} {d : List (PyData × PyData)}, Dkv K H v d → Dkv K (noIns H) v d
  | _, _, .nil => .nil
  | _, _, .cons q qs => .cons (dq_noIns q) (dkv_noIns qs)
end
/-! ### dicts with unlike keys -/
theorem merge_nodup : ∀ (kvs acc : List (Key × V)), (acc ++ kvs).map (·.1) |>.Nodup → mergeK acc kvs = acc ++ kvs
  | [], acc, _ => by simp [mergeK]
  | kv :: kvs, acc, h => by
    have no : valV acc kv.1 = none := by
      unfold valV
      have : acc.find? (fun q => decide (q.1 = kv.1)) = none := by
        refine List.find?_eq_none.mpr fun q m z => ?_
        have e := of_decide_eq_true z
        rw [List.map_append, List.map_cons] at h
        exact (List.nodup_append.mp h).2.2 q.1 (List.mem_map_of_mem m) kv.1 (List.mem_cons_self ..) e
      rw [this]
      rfl
    have st : putK acc kv.1 kv.2 = acc ++ [kv] := putK_new kv.2 no
    show mergeK (putK acc kv.1 kv.2) kvs = _
    rw [st, merge_nodup kvs (acc ++ [kv]) (by rw [List.append_assoc]; exact h), List.append_assoc]
    rfl
theorem val_take {kvs : List (Key × V)} {i : Nat} {k : Key} {v : V} (h : (kvs.map (·.1)).Nodup) (e : kvs[i]? = some (k, v)) : valV (kvs.take i) k = none := by
  unfold valV
  have : (kvs.take i).find? (fun q => decide (q.1 = k)) = none := by
    refine List.find?_eq_none.mpr fun q m z => ?_
    have ek := of_decide_eq_true z
    obtain ⟨j, hj, eq⟩ := List.getElem_of_mem m
    rw [List.length_take] at hj
    rw [List.getElem_take] at eq
    obtain ⟨hi, ei⟩ := List.getElem?_eq_some_iff.mp e
    have := List.pairwise_iff_getElem.mp h j i (by rw [List.length_map]; omega) (by rw [List.length_map]; omega) (by omega)
    rw [List.getElem_map, List.getElem_map, eq, ei] at this
    exact this ek
  rw [this]
  rfl
/-- a dict comprehension of settled pairs, all keys unlike, over any walk -/
theorem dcW {J : It} {n : Nat} {G : Hp → Prop} {Y : Nat → Hp → V → Hp → Prop} (w : Walk J n G Y) {g : TG} {tk tv : TE} {vs : List Nat} {σ : L2.St} {H1 : Hp} {D : Addr} {Qd : Hp → Prop} (kvs : List (Key × V)) (hn : n = kvs.length) (nd : (kvs.map (·.1)).Nodup) (hz : n ≤ 40000) (hD : H1 D = none) (hG : ∀ H, Ex H1 H → G H)
    (ht : ∀ i x H H' k v, kvs[i]? = some (k, v) → Ex H1 H → Y i H x H' → ∀ Q : L2.St → Hp → Prop, (∀ σ2 H2, wipe σ2 vs = wipe σ vs → Ex H H2 → Ev tk σ2 H2 (kV k) → Ev tv σ2 H2 v → Q σ2 H2) → g x (wipe σ vs) H' Q)
    (kq : ∀ H', Ex H1 H' → H' D = some (.dK kvs) → Qd H') :
    ∃ W : Nat → Nat → Hp → Prop, (∃ m, W 0 m (upd H1 D (.dK []))) ∧ ∀ i m H, W i m H →
      (J.stop i H ∧ Qd H) ∨ (J.go i H ∧ ∃ Nx : Hp → Prop, (∀ H', Nx H' → ∃ m', m' < m ∧ W (i + 1) m' H') ∧ ∀ x H', J.yld i H x H' → g x (wipe σ vs) H' fun σ2 H2 => wipe σ2 vs = wipe σ vs ∧ tYes σ2 H2 fun b H3 =>
        if b = true then tk σ2 H3 fun y H4 => tv σ2 H4 fun z H5 => ∃ kvs k, y = kV k ∧ H5 D = some (.dK kvs) ∧ kvs.length < sizeLine ∧ Nx (upd H5 D (.dK (putK kvs k z))) else Nx H3) := by
  refine ⟨fun i m H => m = n - i ∧ i ≤ n ∧ Ex H1 H ∧ H D = some (.dK (kvs.take i)), ⟨n, rfl, Nat.zero_le _, Ex.new hD, upd_same⟩, ?_⟩
  rintro i m H ⟨rfl, hi, ex, hd⟩
  by_cases lt : i < n
  · refine .inr ⟨w.goes i H lt (hG H ex), fun H' => (i + 1 ≤ n) ∧ Ex H1 H' ∧ H' D = some (.dK (kvs.take (i + 1))), fun H' h => ⟨n - (i + 1), by omega, rfl, h⟩, fun x H' y => ?_⟩
    obtain ⟨⟨k, v⟩, hk⟩ : ∃ kv, kvs[i]? = some kv := ⟨_, List.getElem?_eq_getElem (by omega)⟩
    refine ht i x H H' k v hk ex (w.yields i H x H' lt (hG H ex) y) _ fun σ2 H2 hw e2 h1 h2 => ⟨hw, ?_⟩
    unfold tYes
    dsimp only
    rw [if_pos rfl]
    refine h1 H2 (Ex.refl _) _ fun H3 e3 => h2 H3 e3 _ fun H4 e4 => ⟨kvs.take i, k, rfl, e4 _ _ (e3 _ _ (e2 _ _ hd)), ?_, lt, Ex.mut (((ex.trans e2).trans e3).trans e4) hD, ?_⟩
    · exact sz_lt (by rw [List.length_take]; omega)
    · rw [upd_same, putK_new v (val_take nd hk), List.take_succ, hk]
      rfl
  · have e : i = n := by omega
    subst e
    refine .inl ⟨w.stops H (hG H ex), kq H ex ?_⟩
    rw [hd, List.take_of_length_le (by omega)]
end KW
namespace KW
open PySem PySem.Spec PyProof.Rows L2 Evl
/-- the world that signs tell -/
def wOf (ds : List PyData) (m : Bool) : Wd := ⟨ds.map fun d => (nameOf d, numOf d), m⟩
theorem wOf_signs {ds : List PyData} (m : Bool) (h : ds.all isSignD = true) : (wOf ds m).signs.map signD = ds := by
  unfold wOf
  rw [List.map_map]
  conv => rhs; rw [← List.map_id ds]
  refine List.map_congr_left fun d hd => ?_
  obtain ⟨x, i, rfl, _⟩ := sign_is (List.all_eq_true.mp h d hd)
  rfl
theorem areSigns_all {ds : List PyData} (h : areSigns ds = true) : ds.all isSignD = true ∧ (ds.map nameOf).Nodup ∧ ds.length ≤ 6 ∧ 1 ≤ ds.length ∧ (0 : Int) ∈ ds.map numOf := by
  unfold areSigns at h
  simp only [Bool.and_eq_true, decide_eq_true_eq] at h
  exact ⟨h.2.1, h.2.2.1, by omega, by omega, h.2.2.2⟩
theorem wOf_ok {ds : List PyData} (m : Bool) (h : areSigns ds = true) : (wOf ds m).Ok := ⟨by rw [wOf_signs m (areSigns_all h).1]; exact h⟩
theorem star_no : nameS star = false := by decide
theorem rank_keys : ∀ (xs : List Str) (n : Nat), (rankFrom xs n).map (·.1) = xs.map Sum.inr
  | [], _ => rfl
  | x :: xs, n => by
    show Sum.inr x :: (rankFrom xs (n + 1)).map (·.1) = _
    rw [rank_keys xs (n + 1)]
    rfl
theorem rank_get : ∀ (xs : List Str) (n i : Nat), (rankFrom xs n)[i]? = xs[i]?.map fun x => ((Sum.inr x : Key), V.int ((n + i : Nat) : Int))
  | [], _, i => by simp [rankFrom]
  | x :: xs, n, 0 => rfl
  | x :: xs, n, i + 1 => by
    show (rankFrom xs (n + 1))[i]? = _
    rw [rank_get xs (n + 1) i]
    simp only [List.getElem?_cons_succ]
    congr 1
    funext y
    congr 2
    omega
theorem rank_len : ∀ (xs : List Str) (n : Nat), (rankFrom xs n).length = xs.length
  | [], _ => rfl
  | x :: xs, n => congrArg (· + 1) (rank_len xs (n + 1))
theorem signs_refs {K : PySem.W.Frag} {H : Hp} : ∀ {ys : List V} {ds : List PyData}, Dqs K H ys ds → ds.all isSignD = true → ∃ ps : List Addr, ys = ps.map V.ref ∧ Paired (fun p (kv : Key × V) => SqT K H p [kV kv.1, kv.2]) ps (ds.map fun d => ((Sum.inr (nameOf d) : Key), V.int (numOf d)))
  | _, _, .nil, _ => ⟨[], rfl, .nil⟩
  | _, d :: ds, .cons q qs, h => by
    rw [List.all_cons, Bool.and_eq_true] at h
    obtain ⟨ps, e, pr⟩ := signs_refs qs h.2
    obtain ⟨x, i, rfl, _⟩ := sign_is h.1
    obtain ⟨p, zs, rfl, hp, qz⟩ := Dq.tuple q
    obtain ⟨u, v, rfl, qa, qb⟩ := dqs_two qz
    cases qa
    cases qb
    exact ⟨p :: ps, by rw [e]; rfl, .cons hp pr⟩
theorem areSigns_names {ds : List PyData} (h : ds.all isSignD = true) : star ∉ ds.map nameOf := by
  intro m
  obtain ⟨d, hd, e⟩ := List.mem_map.mp m
  obtain ⟨x, i, rfl, hx, _⟩ := sign_is (List.all_eq_true.mp h d hd)
  have : x = star := e
  rw [this, star_no] at hx
  cases hx
theorem ins_off {H' : Hp} {a b C dx : Addr} {fs fs' : List (Str × V)} {o : HO} (ha : H' a = some (.ins C dx fs)) (hb : H' b = some o) (n : ∀ C dx fs, o ≠ .ins C dx fs) : upd H' a (.ins C dx fs') b = some o := by
  have ne : b ≠ a := fun z => by rw [z, ha] at hb; exact n _ _ _ (Option.some.inj hb).symm
  rw [upd_ne ne]
  exact hb
theorem pl_off {H' : Hp} {a b C dx : Addr} {fs fs' : List (Str × V)} {xs : List V} (ha : H' a = some (.ins C dx fs)) : PlT H' b xs → PlT (upd H' a (.ins C dx fs')) b xs := fun ⟨o, hb, hd⟩ => ⟨o, ins_off ha hb (fun _ _ _ z => nomatch z), hd⟩
/-- World(signs, more=..): a world, or the very value raised -/
def spWorld (K : PySem.W.Frag) (C CB : Addr) : Sp := fun vs H Q E => ∃ a dx x m d, vs = [.ref a, x, .bl m] ∧ H a = some (.ins C dx []) ∧ H dx = some (.own a) ∧ Dq K H x d ∧ Fit d ∧ (∀ ds, d = .tuple ds → areSigns ds = true → ∃ p ys, x = .ref p ∧ PlT H p ys ∧ Dqs K H ys ds) ∧
  (∀ ds, seqD d = some ds → areSigns ds = true → ∀ H', Kept (fun b => b = a) H H' → WAt K C H' a (wOf ds m) → Q .non H') ∧
  (signsD d = false → ∀ e H', H e = none → Ex H H' → H' e = some (.xd [("value", x)]) → E (.ref CB) (some e) H')
section
variable {P : Program} {w : World} {K : PySem.W.Frag} {mg : Str → Option Value} {base : Heap} {C CB : Addr}
theorem sc_world : FnScope ["self", "signs", "more", "names", "name", "_", "rank"] ["self", "signs", "more"] (defScope s_World___init__) := ⟨rfl, rfl, rfl, by decide +kernel, rfl, by decide +kernel, by decide +kernel⟩
theorem ok_world {f fs fI : Addr} {fd fds fdI : FuncData} (F : Fun K "__init__" "World.__init__" s_World___init__ f fd) (B : Bt mg) (T : WC K C) (ks : PySem.W.keepIn K (.ref fs) = true) (bs : Binds K fds ["value"] []) (gs : mg "are_signs" = some (.ref fs)) (Gs : FnOk P w K mg base CX0 3 fs fds ["value"] (spB K signsD))
    (EB : EC P w K mg base "BadSigns" CB fI fdI) : FnOk P w K mg base (CX P w) 4 f fd ["self", "signs", "more"] (spWorld K C CB) := by
  refine F.okX sc_world (fun vs H Q E h => ?_) (fun cdv A outer s H vs Q E hr h => ?_)
  · obtain ⟨a, dx, x, m, d, rfl, _⟩ := h
    rfl
  · obtain ⟨a, dx, x, m, d, rfl, hins, hown, q, s, hpl, k1, k2⟩ := h
    refine ⟨_, pss_cons (ps_if (pt_not (pt_val (pe_call Gs hr (by rfl) gs ks bs .nil pass0 (pa_cons (pv 1) pa_nil)))) (pss_one (ps_raise rfl (takes_of rfl rfl rfl rfl) (pmk_oex EB.T EB.iC EB.tI EB.G (hr.mono (by decide)) EB.b .nil pass0 (by rfl) EB.g (pa_cons (pv 1) pa_nil)))) pss_nil)
      (PSs.nox (pss_cons (ps_fld (pv 0) (pe_callTy call_tupleP (by rfl) B.tuple boot_tuple (pa_cons (pv 1) pa_nil)) rfl)
      (pss_cons (ps_fld (pv 0) (pe_callTy call_bool1 (by rfl) B.bool boot_bool (pa_cons (pv 2) pa_nil)) rfl)
      (pss_cons (ps_fld (pv 0) (pe_callTy (call_dictT rfl) (by rfl) B.dict boot_dict (pa_cons (pe_fld (pv 0) rfl) pa_nil)) rfl)
      (pss_cons (ps_setLc (i := 3) (own := [("name", 4), ("_", 5)]) (g := gTup K 2 (gCons (gName 4) (gCons (gName 5) gNil))) (tt := tYes) (te := tVar 4) rfl sc_world.nd rfl rfl (sw_true rfl rfl rfl (by decide +kernel)) (pi_tup (pe_fld (pv 0) rfl)) (blkOk_by (N := ["self", "signs", "more", "names", "name", "_", "rank"]) (sc := defScope s_World___init__) (by decide +kernel))
          (fun _ _ _ _ _ => by exact pg_tup rfl (pgs_cons (pg_name (i := 4) sc_world.nd rfl (Or.inl rfl)) (pgs_cons (pg_name (i := 5) sc_world.nd rfl (Or.inl rfl)) pgs_nil))) (fun _ _ _ _ _ => pts_nil) (fun _ _ _ _ _ => by exact pv 4))
      (pss_one (ps_fld (pv 0) (pe_dc (own := [("rank", 6), ("name", 4)]) (g := gTup K 2 (gCons (gName 6) (gCons (gName 4) gNil))) (tt := tYes) (tk := tVar 4) (tv := tVar 6) rfl sc_world.nd (pi_enum (by rfl) B.enumerate (pa_cons (pe_lst (StX.pa_star (pv 3) (pa_cons pe_str pa_nil))) pa_nil)) (blkOk_by (N := ["self", "signs", "more", "names", "name", "_", "rank"]) (sc := defScope s_World___init__) (by decide +kernel))
          (fun _ _ _ _ _ => by exact pg_tup rfl (pgs_cons (pg_name (i := 6) sc_world.nd rfl (Or.inl rfl)) (pgs_cons (pg_name (i := 4) sc_world.nd rfl (Or.inl rfl)) pgs_nil))) (fun _ _ _ _ _ => pts_nil) (fun _ _ _ _ _ => by exact pv 4) (fun _ _ _ _ _ => by exact pv 6)) rfl))))))), ?_⟩
    have hne : dx ≠ a := fun z => by rw [z, hins] at hown; cases hown
    -- what stands apart from a
    have hJa : noIns H a = none := by
      unfold noIns
      rw [hins]
    have exJ : ∀ {H'}, Kept (fun b => b = a) H H' → Ex (noIns H) H' := fun k b o e => k b o (noIns_sub e).1 fun z => by rw [z, hJa] at e; cases e
    refine q_when (b := !signsD d) (et_not (et_B (ev_call (ea_cons (ev_var rfl) ea_nil) (spB_v q s)))) (fun c H1 e => ?_) fun c H1 e => ?_
    · refine raise_value EB.T EB.no (ev_var rfl) fun dd H2 hd e2 h2 => ?_
      exact k2 (by simpa only [Bool.not_eq_true'] using c) dd H2 (fresh_back e hd) (e.trans e2) h2
    have c2 : signsD d = true := by simpa only [Bool.not_eq_false'] using c
    obtain ⟨ds, hd, har⟩ : ∃ ds, seqD d = some ds ∧ areSigns ds = true := by
      unfold signsD at c2
      split at c2
      · rename_i xs hx
        exact ⟨xs, hx, c2⟩
      · cases c2
    obtain ⟨hall, hnd, hlen6, hlen1, hzero⟩ := areSigns_all har
    have kk := k1 ds hd har
    have key : ∀ (sg : Addr) (ys : List V) (H2 : Hp), Ex H1 H2 → PlT H2 sg ys → Dqs K H ys ds → (H2 a = some (.ins C dx [])) →
        tSeq (sFld K (tVar 0) (tCB (fun xs H Q => (∃ i, xs = [.int i] ∧ Q (.bl (i != 0)) H) ∨ ∃ k, xs = [.bl k] ∧ Q (.bl k) H) (tCons (tVar 2) tNil)) "_more")
          (tSeq (sFld K (tVar 0) (tCB (rDictT K) (tCons (tFld K (tVar 0) "_signs") tNil)) "_numbers")
          (tSeq (tAsg (tLc (iTup K (tFld K (tVar 0) "_signs")) (gTup K 2 (gCons (gName 4) (gCons (gName 5) gNil))) tYes (tVar 4) [4, 5]) (gName 3))
          (sFld K (tVar 0) (tDc (iEnum K (tCons (tLst (StX.tStar K (tVar 3) (tCons (tC (.str star)) tNil))) tNil)) (gTup K 2 (gCons (gName 6) (gCons (gName 4) gNil))) tYes (tVar 4) (tVar 6) [6, 4]) "_ranks")))
          { nx := fun _ H' => Q .non H', rt := Q } (start ["self", "signs", "more", "names", "name", "_", "rank"] [.ref a, x, .bl m]) (upd H2 a (.ins C dx [("_signs", .ref sg)])) := by
      intro sg ys H2 e2 hsg qs h2a
      have h3 : upd H2 a (.ins C dx [("_signs", .ref sg)]) a = some (.ins C dx [("_signs", .ref sg)]) := upd_same
      have kp3 : Kept (fun b => b = a) H (upd H2 a (.ins C dx [("_signs", .ref sg)])) := Kept.trans (fun b o hb _ => (e.trans e2) b o hb) (Kept.upd rfl)
      have sg3 := pl_off (fs' := [("_signs", .ref sg)]) h2a hsg
      generalize upd H2 a (.ins C dx [("_signs", .ref sg)]) = H3 at h3 kp3 sg3
      refine ⟨_, rfl, .inr ⟨m, rfl, _, rfl, a, C, dx, _, rfl, h3, T.cl, T.nM, (by show 1 < 1000; decide), ?_⟩⟩
      have h4 : upd H3 a (.ins C dx (putF "_more" (.bl m) [("_signs", .ref sg)])) a = some (.ins C dx [("_signs", .ref sg), ("_more", .bl m)]) := upd_same
      have kp4 := kp3.trans (Kept.upd (o := .ins C dx (putF "_more" (.bl m) [("_signs", .ref sg)])) (rfl : (fun b => b = a) a))
      have sg4 := pl_off (fs' := putF "_more" (.bl m) [("_signs", .ref sg)]) h3 sg3
      generalize upd H3 a (.ins C dx (putF "_more" (.bl m) [("_signs", .ref sg)])) = H4 at h4 kp4 sg4
      have qJ := dqs_noIns qs
      obtain ⟨ps, rfl, pr⟩ := signs_refs (qJ.up (exJ kp4)) hall
      refine ⟨_, rfl, a, C, dx, _, .ref sg, rfl, h4, T.cl, T.nS, rfl, sg, ps, _, rfl, sg4, pr, fun nb hnb => ?_⟩
      rw [merge_nodup _ [] (by
        rw [List.nil_append, List.map_map]
        exact (keys_nodup _).mpr hnd |> fun z => by rw [List.map_map] at z; exact z), List.nil_append]
      have hnba : nb ≠ a := fun z => by rw [z, h4] at hnb; cases hnb
      have h4b : upd H4 nb (.dK (ds.map fun d => ((Sum.inr (nameOf d) : Key), V.int (numOf d)))) a = some (.ins C dx [("_signs", .ref sg), ("_more", .bl m)]) := (upd_ne (Ne.symm hnba)).trans h4
      refine ⟨_, rfl, a, C, dx, _, rfl, h4b, T.cl, T.nN, (by show 2 < 1000; decide), ?_⟩
      have kp5 := kp4.trans (Kept.new (N := fun b => b = a) (o := .dK (ds.map fun d => ((Sum.inr (nameOf d) : Key), V.int (numOf d)))) hnb)
      have sg5 : PlT (upd H4 nb (.dK (ds.map fun d => ((Sum.inr (nameOf d) : Key), V.int (numOf d))))) sg (ps.map V.ref) := sg4.ex fun b o hb => Ex.new hnb b o hb
      have nb5 : upd H4 nb (.dK (ds.map fun d => ((Sum.inr (nameOf d) : Key), V.int (numOf d)))) nb = some (.dK (ds.map fun d => ((Sum.inr (nameOf d) : Key), V.int (numOf d)))) := upd_same
      generalize upd H4 nb (.dK (ds.map fun d => ((Sum.inr (nameOf d) : Key), V.int (numOf d)))) = H5 at h4b kp5 sg5 nb5
      have h6 : upd H5 a (.ins C dx (putF "_numbers" (.ref nb) [("_signs", .ref sg), ("_more", .bl m)])) a = some (.ins C dx [("_signs", .ref sg), ("_more", .bl m), ("_numbers", .ref nb)]) := upd_same
      have kp6 := kp5.trans (Kept.upd (o := .ins C dx (putF "_numbers" (.ref nb) [("_signs", .ref sg), ("_more", .bl m)])) (rfl : (fun b => b = a) a))
      have sg6 := pl_off (fs' := putF "_numbers" (.ref nb) [("_signs", .ref sg), ("_more", .bl m)]) h4b sg5
      have nb6 := ins_off (fs' := putF "_numbers" (.ref nb) [("_signs", .ref sg), ("_more", .bl m)]) h4b nb5 (fun _ _ _ z => nomatch z)
      generalize upd H5 a (.ins C dx (putF "_numbers" (.ref nb) [("_signs", .ref sg), ("_more", .bl m)])) = H6 at h6 kp6 sg6 nb6
      have q6 := qJ.up (exJ kp6)
      have l6 := q6.len
      have comp : EvL (tLc (iTup K (tFld K (tVar 0) "_signs")) (gTup K 2 (gCons (gName 4) (gCons (gName 5) gNil))) tYes (tVar 4) [4, 5]) (start ["self", "signs", "more", "names", "name", "_", "rank"] [.ref a, x, .bl m]) H6 ((ds.map nameOf).map V.str) := by
        have el : given (ps.map V.ref).length (fun _ => true) (fun i => .str ((ds.map nameOf).getD i "")) = (ds.map nameOf).map V.str := by
          rw [given_all, l6, ← List.length_map (f := nameOf)]
          exact range_map_get _ ("" : Str) V.str
        exact el_is (el_lcP (fun _ => true) _ (fun i => .str ((ds.map nameOf).getD i "")) (fun i => .int ((ds.map numOf).getD i 0)) (ev_fld (ev_var rfl) h6 T.cl T.nS rfl) sg6.sq (by omega) (signs_pairs q6 hall) (fun _ _ => rfl) (fun i H3 e3 hi H4 e4 Q k => k H4 (Ex.refl _)) (fun i H3 e3 hi _ => ev_var rfl)) el
      refine q_asgL comp fun l H7 hl7 e7 h7 => ?_
      have xlen : ((ds.map nameOf).map V.str).length ≤ 6 := by simpa using hlen6
      have rk : (wOf ds m).ranks = rankFrom (ds.map nameOf ++ [star]) 0 := by
        unfold Wd.ranks Wd.names wOf
        rw [List.map_map]
        rfl
      have nd2 : ((wOf ds m).ranks.map (·.1)).Nodup := by
        rw [rk, rank_keys]
        refine (keys_nodup _).mpr (List.nodup_append.mpr ⟨hnd, by simp, fun x hx y hy => ?_⟩)
        rw [List.mem_singleton] at hy
        rw [hy]
        exact fun z => areSigns_names hall (z ▸ hx)
      refine ⟨_, rfl, l, _, rfl, .inr (sq_of h7), (by
        show (((ds.map nameOf).map V.str) ++ [V.str star]).length ≤ sizeLine
        exact sz_of (by rw [List.length_append]; simp; omega)), fun p hp => ⟨p, ((ds.map nameOf).map V.str) ++ [V.str star], rfl, SqL.of upd_same, fun D hD => ?_⟩⟩
      have lr : (((ds.map nameOf).map V.str) ++ [V.str star]).length = (wOf ds m).ranks.length := by
        rw [rk, rank_len]
        simp
      refine dcW (walk_enum (xs := ((ds.map nameOf).map V.str) ++ [V.str star])) (wOf ds m).ranks lr nd2 (by rw [List.length_append]; simp; omega) hD (fun H8 e8 => ex_l e8 (sq_of upd_same)) (fun i y H8 H9 k v hk e8 ⟨T', u1, u2, ey, hT, eH, eu1, eu2⟩ Q' k' => ?_) fun H8 e8 hD8 => ?_
      · rw [rk, rank_get] at hk
        subst ey eH
        have eu : (((ds.map nameOf).map V.str) ++ [V.str star])[i]? = ((ds.map nameOf ++ [star])[i]?).map V.str := by
          rw [← List.getElem?_map, List.map_append]
          rfl
        replace eu2 := eu.symm.trans eu2
        replace eu1 : some (V.int ((i : Nat) : Int)) = some u1 := eu1
        cases hx : (ds.map nameOf ++ [star])[i]? with
        | none => rw [hx] at hk; cases hk
        | some z =>
          rw [hx] at hk eu2
          simp only [Option.map_some, Option.some.injEq, Prod.mk.injEq] at hk eu2 eu1
          obtain ⟨rfl, rfl⟩ := hk
          subst eu2 eu1
          refine gpair (st_of upd_same) (k' _ _ rfl (Ex.new hT) (ev_var rfl) (ev_is (ev_var rfl) ?_))
          rw [Nat.zero_add]
      · have e68 : Ex H6 H8 := (e7.trans (Ex.new hp)).trans e8
        have h8 := e68 _ _ h6
        have hDn : H6 D = none := fresh_back (e7.trans (Ex.new hp)) hD
        refine ⟨_, rfl, a, C, dx, _, rfl, h8, T.cl, T.nR, (by show 3 < 1000; decide), ?_⟩
        refine kk _ ((kp6.trans fun b o hb _ => e68 b o hb).trans (Kept.upd rfl)) ⟨dx, sg, nb, D, ps.map V.ref, upd_same, ?_, ?_, ?_, ?_, ?_⟩
        · rw [upd_ne hne]
          exact e68 _ _ (kp6 _ _ hown hne)
        · exact (pl_off h8 (sg6.ex e68)).sq
        · rw [wOf_signs m hall]
          exact qJ.up (exJ ((kp6.trans fun b o hb _ => e68 b o hb).trans (Kept.upd rfl)))
        · refine ins_off h8 ?_ (fun _ _ _ z => nomatch z)
          rw [e68 _ _ nb6]
          unfold Wd.nums wOf
          rw [List.map_map]
          rfl
        · exact ins_off h8 hD8 (fun _ _ _ z => nomatch z)
    -- tuple(signs): a new one, or the very one
    obtain ⟨p, xs, rfl, qs, hp⟩ := seq_of q hd
    have h1a := e _ _ hins
    rcases hp with ⟨rfl, hp⟩ | ⟨rfl, hp⟩
    · refine ⟨_, rfl, p, xs, rfl, .inl ⟨ex_l e hp, fun sg o hsg ho => ?_⟩⟩
      have ne : a ≠ sg := fun z => by rw [← z, h1a] at hsg; cases hsg
      have h2a : upd H1 sg (.frz o (.tup xs)) a = some (.ins C dx []) := (upd_ne ne).trans h1a
      exact ⟨_, rfl, a, C, dx, _, rfl, h2a, T.cl, T.nS, (by show 0 < 1000; decide), key sg xs _ (Ex.new hsg) ⟨o, upd_same, ho⟩ qs h2a⟩
    · obtain ⟨p', ys, ep, hpt, qy⟩ := hpl ds rfl har
      cases ep
      refine ⟨_, rfl, p, ys, rfl, .inr ⟨ex_t e hpt.sq, ?_⟩⟩
      exact ⟨_, rfl, a, C, dx, _, rfl, h1a, T.cl, T.nS, (by show 0 < 1000; decide), key p ys _ (Ex.refl _) (hpt.ex e) qy h1a⟩
end
end KW
namespace KW
open PySem PySem.Spec PyProof.Rows L2 Evl
/-- whether there are trees without end -/
def endlessW (W : Wd) : Bool := W.more || W.signs.any fun p => decide (0 < p.2)
def spSigns (K : PySem.W.Frag) (C : Addr) : Sp := fun vs H Q _ => ∃ a W, vs = [.ref a] ∧ WAt K C H a W ∧ ∀ p xs H', SqT K H p xs → Dqs K H xs (W.signs.map signD) → Ex H H' → Q (.ref p) H'
def spMore (K : PySem.W.Frag) (C : Addr) : Sp := fun vs H Q _ => ∃ a W, vs = [.ref a] ∧ WAt K C H a W ∧ ∀ H', Ex H H' → Q (.bl W.more) H'
def spEndless (K : PySem.W.Frag) (C : Addr) : Sp := fun vs H Q _ => ∃ a W, vs = [.ref a] ∧ WAt K C H a W ∧ W.Ok ∧ ∀ H', Ex H H' → Q (.bl (endlessW W)) H'
theorem map_num (W : Wd) : (W.signs.map signD).map numOf = W.signs.map (·.2) := by
  rw [List.map_map]
  rfl
theorem any_max {ns : List Int} {m : Int} (h : m ∈ ns) (top : ∀ y, y ∈ ns → y ≤ m) : decide (0 < m) = ns.any fun n => decide (0 < n) := by
  rw [Bool.eq_iff_iff, decide_eq_true_eq, List.any_eq_true]
  constructor
  · intro p
    exact ⟨m, h, decide_eq_true p⟩
  · rintro ⟨n, hn, p⟩
    have := top n hn
    have := of_decide_eq_true p
    omega
theorem has_max : ∀ ns : List Int, 0 < ns.length → ∃ m, m ∈ ns ∧ ∀ y, y ∈ ns → y ≤ m
  | [n], _ => ⟨n, by simp, by simp⟩
  | n :: k :: ns, _ => by
    obtain ⟨m, hm, top⟩ := has_max (k :: ns) (by simp)
    by_cases h : m ≤ n
    · refine ⟨n, by simp, fun y hy => ?_⟩
      rcases List.mem_cons.mp hy with rfl | hy
      · exact Int.le_refl _
      · exact Int.le_trans (top y hy) h
    · refine ⟨m, List.mem_cons_of_mem _ hm, fun y hy => ?_⟩
      rcases List.mem_cons.mp hy with rfl | hy
      · omega
      · exact top y hy
theorem ev_max {K : PySem.W.Frag} {σ : L2.St} {H : Hp} {te : TE} {ns : List Int} {m : Int} (h : EvL te σ H (ns.map V.int)) (hm : m ∈ ns) (top : ∀ y, y ∈ ns → y ≤ m) : Ev (tCB (rMax K) (tCons te tNil)) σ H (.int m) := fun H1 e Q k =>
  h H1 e _ fun p H2 hp e2 h2 => ⟨p, ns, rfl, sq_of h2, List.length_pos_of_mem hm, fun m2 hm2 top2 => by
    have : m2 = m := Int.le_antisymm (top m2 hm2) (top2 m hm)
    rw [this]
    exact k H2 e2⟩
section
variable {P : Program} {w : World} {K : PySem.W.Frag} {mg : Str → Option Value} {base : Heap} {C CB : Addr}
theorem sc_signs : FnScope ["self"] ["self"] (defScope s_World_signs) := ⟨rfl, rfl, rfl, by decide +kernel, rfl, by decide +kernel, by decide +kernel⟩
theorem ok_signs {f : Addr} {fd : FuncData} (F : Fun K "signs" "World.signs" s_World_signs f fd) (T : WC K C) : FnOk P w K mg base CX0 1 f fd ["self"] (spSigns K C) := by
  refine F.ok sc_signs (fun vs H Q E h => ?_) (fun cdv A outer s H vs Q E hr h => ?_)
  · obtain ⟨a, W, rfl, _⟩ := h
    rfl
  · obtain ⟨a, W, rfl, hW, k⟩ := h
    obtain ⟨dx, sg, nb, rk, xs, h1, h2, h3, h4, h5, h6⟩ := hW
    refine ⟨_, pss_one (ps_ret (pe_fld (pv 0) rfl)), ?_⟩
    exact s_ret (ev_fld (v := .ref sg) (ev_var rfl) h1 T.cl T.nS rfl) fun H2 e2 => k sg xs H2 h3 h4 e2
theorem sc_more : FnScope ["self"] ["self"] (defScope s_World_more) := ⟨rfl, rfl, rfl, by decide +kernel, rfl, by decide +kernel, by decide +kernel⟩
theorem ok_more {f : Addr} {fd : FuncData} (F : Fun K "more" "World.more" s_World_more f fd) (T : WC K C) : FnOk P w K mg base CX0 1 f fd ["self"] (spMore K C) := by
  refine F.ok sc_more (fun vs H Q E h => ?_) (fun cdv A outer s H vs Q E hr h => ?_)
  · obtain ⟨a, W, rfl, _⟩ := h
    rfl
  · obtain ⟨a, W, rfl, hW, k⟩ := h
    obtain ⟨dx, sg, nb, rk, xs, h1, h2, h3, h4, h5, h6⟩ := hW
    refine ⟨_, pss_one (ps_ret (pe_fld (pv 0) rfl)), ?_⟩
    exact s_ret (ev_fld (v := .bl W.more) (ev_var rfl) h1 T.cl T.nM rfl) fun H2 e2 => k H2 e2
end
end KW
namespace KW
open PySem PySem.Spec PyProof.Rows L2 Evl
/-! ### the nodes of a tree, from behind -/
def kidsD : PyData → List PyData
  | .tuple (.str x :: ds) => if x = star then [] else ds
  | _ => []
theorem nodes_one {d : PyData} (h : ∀ x ds, d ≠ .tuple (.str x :: ds)) : nodesD d = [d] := by
  unfold nodesD
  split
  · exact absurd rfl (h _ _)
  · rfl
theorem nodes_kids (d : PyData) : nodesD d = d :: nodesDs (kidsD d) := by
  by_cases h : ∃ x ds, d = .tuple (.str x :: ds)
  · obtain ⟨x, ds, rfl⟩ := h
    show (PyData.tuple (.str x :: ds) :: (if x = star then [] else nodesDs ds)) = PyData.tuple (.str x :: ds) :: nodesDs (if x = star then [] else ds)
    split <;> rfl
  · have h2 : ∀ x ds, d ≠ .tuple (.str x :: ds) := fun x ds e => h ⟨x, ds, e⟩
    have ek : kidsD d = [] := by
      unfold kidsD
      split
      · exact absurd rfl (h2 _ _)
      · rfl
    rw [ek, nodes_one h2]
    rfl
/-- the forest behind the first one -/
def stepF : List PyData → List PyData
  | [] => []
  | d :: F => kidsD d ++ F
def fo (F : List PyData) : Nat → List PyData
  | 0 => F
  | n + 1 => stepF (fo F n)
theorem nodes_step (F : List PyData) : nodesDs (stepF F) = (nodesDs F).drop 1 := by
  cases F with
  | nil => rfl
  | cons d F =>
    show nodesDs (kidsD d ++ F) = (nodesD d ++ nodesDs F).drop 1
    rw [nodesDs_app, nodes_kids d]
    rfl
theorem nodes_fo (F : List PyData) : ∀ n, nodesDs (fo F n) = (nodesDs F).drop n
  | 0 => rfl
  | n + 1 => by
    show nodesDs (stepF (fo F n)) = _
    rw [nodes_step, nodes_fo F n, List.drop_drop]
/-- at each place the forest begins with the node there -/
theorem fo_head {F : List PyData} {n : Nat} {e : PyData} (h : (nodesDs F)[n]? = some e) : ∃ G, fo F n = e :: G := by
  have q := nodes_fo F n
  have h2 : ((nodesDs F).drop n)[0]? = some e := by rw [List.getElem?_drop]; simpa using h
  rw [← q] at h2
  cases hf : fo F n with
  | nil => rw [hf] at h2; cases h2
  | cons d G =>
    rw [hf] at h2
    have : nodesDs (d :: G) = d :: (nodesDs (kidsD d) ++ nodesDs G) := by
      show nodesD d ++ nodesDs G = _
      rw [nodes_kids d]
      rfl
    rw [this] at h2
    cases h2
    exact ⟨G, rfl⟩
theorem fo_end (F : List PyData) : fo F (nodesDs F).length = [] := by
  have q := nodes_fo F (nodesDs F).length
  rw [List.drop_length] at q
  cases hf : fo F (nodesDs F).length with
  | nil => rfl
  | cons d G =>
    rw [hf] at q
    have : nodesDs (d :: G) = nodesD d ++ nodesDs G := rfl
    rw [this, nodes_kids d] at q
    cases q
/-- how many nodes -/
def sizeD (d : PyData) : Nat := (nodesD d).length
theorem size_kids (d : PyData) : sizeD d = 1 + ((kidsD d).map sizeD).sum := by
  have all : ∀ F : List PyData, (nodesDs F).length = (F.map sizeD).sum := by
    intro F
    induction F with
    | nil => rfl
    | cons d F ih =>
      show (nodesD d ++ nodesDs F).length = _
      rw [List.length_append, ih]
      rfl
  show (nodesD d).length = _
  rw [nodes_kids d, List.length_cons, all]
  omega
/-! ### keys -/
def rankI (W : Wd) (x : Str) : Int := ((W.names ++ [star]).idxOf x : Nat)
def numK : PyData → Int
  | .tuple [.str x, .int i] => if x = star then i else 0
  | _ => 0
def headS : PyData → Str
  | .tuple (.str x :: _) => x
  | _ => ""
def keyN (W : Wd) (d : PyData) : List Int := [(sizeD d : Int), rankI W (headS d), numK d]
def orderD (W : Wd) (d : PyData) : List (List Int) := (nodesD d).map (keyN W)
theorem cond_neg_beq {α : Type} {x y : Str} (e : ¬ y = x) {a b : α} : (bif y == x then a else b) = b := by
  have : (y == x) = false := beq_eq_false_iff_ne.mpr e
  rw [this]
  rfl
theorem rank_val {W : Wd} (nd : (W.names ++ [star]).Nodup) {x : Str} (h : x ∈ W.names ++ [star]) : valV W.ranks (Sum.inr x) = some (.int (rankI W x)) := by
  have gen : ∀ (xs : List Str) (n : Nat), x ∈ xs → valV (rankFrom xs n) (Sum.inr x) = some (.int ((n + xs.idxOf x : Nat) : Int)) := by
    intro xs
    induction xs with
    | nil => intro n m; cases m
    | cons y xs ih =>
      intro n m
      by_cases e : y = x
      · subst e
        unfold valV rankFrom
        rw [List.find?_cons_of_pos (by simp)]
        simp
      · have m2 : x ∈ xs := by
          rcases List.mem_cons.mp m with z | z
          · exact absurd z.symm e
          · exact z
        have := ih (n + 1) m2
        unfold valV at this ⊢
        unfold rankFrom
        rw [List.find?_cons_of_neg (by
          intro z
          have z := of_decide_eq_true z
          exact e (Sum.inr.inj z)), this, List.idxOf_cons, cond_neg_beq e]
        congr 2
        omega
  have := gen (W.names ++ [star]) 0 h
  unfold Wd.ranks rankI
  rw [this, Nat.zero_add]
mutual
/-- all nodes of what fits, fit -/
theorem node_fits {W : Wd} : ∀ d : PyData, isTreeD W d = true → W.num star = none → ∀ e ∈ nodesD d, isTreeD W e = true
  | .tuple (.str x :: ds), h, ns, e, m => by
    rw [nodesD] at m
    rcases List.mem_cons.mp m with rfl | m
    · exact h
    · split at m
      · cases m
      · have h2 := h
        unfold isTreeD at h2
        rw [fitsD] at h2
        split at h2
        · exact node_fitss ds h2 ns e m
        · rename_i nx _
          have : isFurther W (.tuple (.str x :: ds)) = true := h2
          exfalso
          by_cases l : (PyData.str x :: ds).length = 2
          · obtain ⟨a, b, eab⟩ := two_of l
            rw [eab] at this
            have h3 : (W.more && (eqS a star && (isIntD b && ge0 b))) = true := this
            rw [Bool.and_eq_true, Bool.and_eq_true] at h3
            have ea := eqS_star h3.2.1
            injection eab with e1 e2
            rw [ea] at e1
            injection e1 with e1
            exact nx e1
          · rw [isFurther_len l] at this
            cases this
  | .none, h, ns, e, m => by rw [show nodesD .none = [.none] from rfl, List.mem_singleton] at m; rw [m]; exact h
  | .bool b, h, ns, e, m => by rw [show nodesD (.bool b) = [.bool b] from rfl, List.mem_singleton] at m; rw [m]; exact h
  | .int b, h, ns, e, m => by rw [show nodesD (.int b) = [.int b] from rfl, List.mem_singleton] at m; rw [m]; exact h
  | .str b, h, ns, e, m => by rw [show nodesD (.str b) = [.str b] from rfl, List.mem_singleton] at m; rw [m]; exact h
  | .list b, h, ns, e, m => by rw [show nodesD (.list b) = [.list b] from rfl, List.mem_singleton] at m; rw [m]; exact h
  | .dict b, h, ns, e, m => by rw [show nodesD (.dict b) = [.dict b] from rfl, List.mem_singleton] at m; rw [m]; exact h
  | .tuple [], h, ns, e, m => by rw [show nodesD (.tuple []) = [.tuple []] from rfl, List.mem_singleton] at m; rw [m]; exact h
  | .tuple (.none :: b), h, ns, e, m => by rw [show nodesD (.tuple (.none :: b)) = [.tuple (.none :: b)] from rfl, List.mem_singleton] at m; rw [m]; exact h
  | .tuple (.bool c :: b), h, ns, e, m => by rw [show nodesD (.tuple (.bool c :: b)) = [.tuple (.bool c :: b)] from rfl, List.mem_singleton] at m; rw [m]; exact h
  | .tuple (.int c :: b), h, ns, e, m => by rw [show nodesD (.tuple (.int c :: b)) = [.tuple (.int c :: b)] from rfl, List.mem_singleton] at m; rw [m]; exact h
  | .tuple (.list c :: b), h, ns, e, m => by rw [show nodesD (.tuple (.list c :: b)) = [.tuple (.list c :: b)] from rfl, List.mem_singleton] at m; rw [m]; exact h
  | .tuple (.tuple c :: b), h, ns, e, m => by rw [show nodesD (.tuple (.tuple c :: b)) = [.tuple (.tuple c :: b)] from rfl, List.mem_singleton] at m; rw [m]; exact h
  | .tuple (.dict c :: b), h, ns, e, m => by rw [show nodesD (.tuple (.dict c :: b)) = [.tuple (.dict c :: b)] from rfl, List.mem_singleton] at m; rw [m]; exact h
theorem node_fitss {W : Wd} : ∀ ds : List PyData, fitsDs W (isFurther W) ds = true → W.num star = none → ∀ e ∈ nodesDs ds, isTreeD W e = true
  | [], _, _, e, m => by cases m
  | d :: ds, h, ns, e, m => by
    rw [fitsDs, Bool.and_eq_true] at h
    rw [nodesDs, List.mem_append] at m
    rcases m with m | m
    · exact node_fits d h.1 ns e m
    · exact node_fitss ds h.2 ns e m
end
theorem num_star {W : Wd} (ok : W.Ok) : W.num star = none := by
  unfold Wd.num
  have : W.signs.find? (fun p => decide (p.1 = star)) = none := by
    refine List.find?_eq_none.mpr fun p m z => ?_
    have z := of_decide_eq_true z
    have := areSigns_names (areSigns_all ok.fit).1
    refine this (List.mem_map.mpr ⟨signD p, List.mem_map_of_mem m, ?_⟩)
    exact z
  rw [this]
  rfl
/-- the shape of a tree's first node -/
theorem tree_shape {W : Wd} (ok : W.Ok) {e : PyData} (h : isTreeD W e = true) : ∃ x ds, e = .tuple (.str x :: ds) ∧ ((x ≠ star ∧ x ∈ W.names) ∨ (x = star ∧ ∃ i, ds = [.int i])) := by
  cases hs : hasSign W e with
  | true =>
    obtain ⟨x, ds, rfl⟩ := sign_shape hs
    have e1 : W.num x = some (ds.length : Int) := of_decide_eq_true hs
    refine ⟨x, ds, rfl, .inl ⟨(fun z => by rw [z, num_star ok] at e1; cases e1), ?_⟩⟩
    unfold Wd.num at e1
    cases hf : W.signs.find? (fun p => decide (p.1 = x)) with
    | none => rw [hf] at e1; cases e1
    | some p =>
      have := List.find?_some hf
      exact List.mem_map.mpr ⟨p, List.mem_of_find?_eq_some hf, of_decide_eq_true this⟩
  | false =>
    have h2 : isFurther W e = true := by
      rw [← fitsD_leaf (leaf := isFurther W) hs]
      exact h
    cases ht : isD "tuple" e with
    | false => rw [isFurther_no ht] at h2; cases h2
    | true =>
      obtain ⟨ds, rfl⟩ := signD_tuple ht
      by_cases l : ds.length = 2
      · obtain ⟨a, b, rfl⟩ := two_of l
        have h3 : (W.more && (eqS a star && (isIntD b && ge0 b))) = true := h2
        simp only [Bool.and_eq_true] at h3
        have ea := eqS_star h3.2.1
        obtain ⟨i, rfl⟩ : ∃ i, b = .int i := by
          have hb := h3.2.2.1
          cases b <;> first | exact ⟨_, rfl⟩ | cases hb
        subst ea
        exact ⟨star, [.int i], rfl, .inr ⟨rfl, i, rfl⟩⟩
      · rw [isFurther_len l] at h2
        cases h2
end KW
namespace KW
open PySem PySem.Spec PyProof.Rows L2 Evl
theorem pd_app {α β : Type} {R : α → β → Prop} : ∀ {as : List α} {bs : List β} {cs : List α} {ds : List β}, Paired R as bs → Paired R cs ds → Paired R (as ++ cs) (bs ++ ds)
  | _, _, _, _, .nil, q => q
  | _, _, _, _, .cons h t, q => .cons h (pd_app t q)
theorem pd_rev {α β : Type} {R : α → β → Prop} : ∀ {as : List α} {bs : List β}, Paired R as bs → Paired R as.reverse bs.reverse
  | _, _, .nil => .nil
  | _, _, .cons h t => by
    rw [List.reverse_cons, List.reverse_cons]
    exact pd_app (pd_rev t) (.cons h .nil)
theorem pd_imp {α β : Type} {R S : α → β → Prop} (f : ∀ a b, R a b → S a b) : ∀ {as : List α} {bs : List β}, Paired R as bs → Paired S as bs
  | _, _, .nil => .nil
  | _, _, .cons h t => .cons (f _ _ h) (pd_imp f t)
theorem ev_dget {σ : L2.St} {H : Hp} {ta tb : TE} {d : Addr} {kvs : List (Key × V)} {x : Str} {v : V} (h : Ev ta σ H (.ref d)) (h2 : Ev tb σ H (.str x)) (hd : H d = some (.dK kvs)) (hv : valV kvs (Sum.inr x) = some v) : Ev (tDGet ta tb) σ H v := fun H1 e Q k =>
  h H1 e _ fun H2 e2 => h2 H2 (e.trans e2) _ fun H3 e3 => ⟨d, v, rfl, by rw [← hv]; exact DGet.k (k := Sum.inr x) (e3 _ _ (e2 _ _ (e _ _ hd))), k H3 (e2.trans e3)⟩
theorem one_of (d : PyData) : nodesDs [d] = nodesD d := by simp [nodesDs]
/-- sizes as the list holds them: the first one last -/
def sizesV (F : List PyData) : List V := ((F.map sizeD).reverse).map fun (n : Nat) => V.int n
theorem sizesV_cons (d : PyData) (F : List PyData) : sizesV (d :: F) = sizesV F ++ [V.int (sizeD d : Nat)] := by
  unfold sizesV
  rw [List.map_cons, List.reverse_cons, List.map_append]
  rfl
theorem sizesV_len (F : List PyData) : (sizesV F).length = F.length := by simp [sizesV]
/-- the sizes of all nodes, from the front -/
def sizesI (d : PyData) : List Int := (nodesD d).map fun e => ((sizeD e : Nat) : Int)
theorem ev_sumV {K : PySem.W.Frag} {σ : L2.St} {H : Hp} {te : TE} {a : Addr} {ns : List Int} (h : Ev te σ H (.ref a)) (ha : H a = some (.lst (ns.map V.int))) : Ev (tCB (rSum K) (tCons te tNil)) σ H (.int ns.sum) := fun H1 e Q k =>
  h H1 e _ fun H2 e2 => ⟨a, ns, rfl, sq_of ((e.trans e2) _ _ ha), k H2 e2⟩
theorem eu_tail1 {K : PySem.W.Frag} {σ : L2.St} {H : Hp} {te : TE} {p : Addr} {v : V} {xs : List V} (h : Ev te σ H (.ref p)) (hp : SqT K H p (v :: xs)) : EvU (tSl (rSlT K) te (tPart (tC (.int 1))) tNoPart) σ H xs := fun H1 e Q k =>
  h H1 e _ fun H2 e2 => ⟨1, rfl, by
    have sx : HT.sIx (v :: xs).length 0 (some 1) = 1 := by
      refine (HT.sIx_nat _ 0 1).trans ?_
      simp
    refine ⟨p, _, rfl, ex_t (e.trans e2) hp, (fun z => by rw [sx] at z; exact absurd z.1 (by decide)), fun t ht => ?_⟩
    have ec : cutV (v :: xs) (some 1) none = xs := by
      unfold cutV
      rw [sx]
      simp [HT.sIx]
    rw [ec]
    exact k t _ (fresh_back e2 ht) (e2.trans (Ex.new ht)) upd_same⟩
def spSizes (K : PySem.W.Frag) : Sp := fun vs H Q _ => ∃ x d W, vs = [x] ∧ W.Ok ∧ Dq K H x d ∧ isTreeD W d = true ∧ wtD d ≤ 4000 ∧ ∀ p H', H p = none → Ex H H' → H' p = some (.lst ((sizesI d).map V.int)) → Q (.ref p) H'
theorem sizesV_int (F : List PyData) : sizesV F = ((F.map sizeD).reverse.map fun (n : Nat) => (n : Int)).map V.int := by
  unfold sizesV
  rw [List.map_map]
  rfl
section
variable {P : Program} {w : World} {K : PySem.W.Frag} {mg : Str → Option Value} {base : Heap} {C CB : Addr}
/-- what tells a tree's place -/
def spOrder (K : PySem.W.Frag) (C : Addr) : Sp := fun vs H Q _ => ∃ a W x d, vs = [.ref a, x] ∧ WAt K C H a W ∧ W.Ok ∧ Dq K H x d ∧ isTreeD W d = true ∧ wtD d ≤ 4000 ∧
  ∀ p as H', H p = none → Ex H H' → H' p = some (.lst (as.map V.ref)) → Paired (fun q ks => H' q = some (.tup (ks.map V.int))) as (orderD W d) → Q (.ref p) H'
end
end KW
namespace L2
open PySem PySem.Spec PyProof.Rows
/-- x < y, data of one shape -/
def rLtD (K : PySem.W.Frag) : R2 := fun x y H Q => ∃ d e, Dq K H x d ∧ Dq K H y e ∧ PySem.W.alike d e = true ∧ d ≠ .none ∧ d.depth ≤ 60 ∧ Q (.bl (PySem.W.dataLt d e)) H
theorem op_ltD {X : Cx} (hu : X.A.units + 64 < cLine) : OpR X (compareOp .Lt) (rLtD X.K) := by
  intro pins s σ H x y v u Q I rx ry ⟨d, e, qd, qe, al, nn, dp, k⟩
  obtain ⟨as, r1, _⟩ := qd.reads I rx
  obtain ⟨bs, r2, _⟩ := qe.reads I ry
  exact PySem.W.rcLt_alike d e X.A s v u as bs r1 r2 al nn (by omega) _ _ _ _ ⟨.bl _, H, I, rfl, k⟩
end L2
namespace KW
open PySem PySem.Spec PyProof.Rows L2 Evl
def keyP (ks : List Int) : PyData := .tuple (ks.map .int)
def orderP (W : Wd) (d : PyData) : PyData := .list ((orderD W d).map keyP)
theorem ints_dqs {K : PySem.W.Frag} {H : Hp} : ∀ ks : List Int, Dqs K H (ks.map V.int) (ks.map PyData.int)
  | [] => .nil
  | k :: ks => .cons (.int k) (ints_dqs ks)
theorem order_dqs {K : PySem.W.Frag} {H : Hp} : ∀ {as : List Addr} {kss : List (List Int)}, Paired (fun q ks => H q = some (.tup (ks.map V.int))) as kss → Dqs K H (as.map V.ref) (kss.map keyP)
  | _, _, .nil => .nil
  | _, _, .cons h t => .cons (.tup (SqT.of h) (ints_dqs _)) (order_dqs t)
theorem ints_alike : ∀ ks ls : List Int, ks.length = ls.length → PySem.W.alikeAll (ks.map PyData.int) (ls.map PyData.int) = true
  | [], _, _ => by unfold PySem.W.alikeAll; rfl
  | k :: ks, l :: ls, h => by
    rw [List.map_cons, List.map_cons, PySem.W.alikeAll, ints_alike ks ls (by simpa using h)]
    rfl
theorem keys_alike : ∀ kss lss : List (List Int), (∀ ks ∈ kss, ks.length = 3) → (∀ ks ∈ lss, ks.length = 3) → PySem.W.alikeAll (kss.map keyP) (lss.map keyP) = true
  | [], _, _, _ => by unfold PySem.W.alikeAll; rfl
  | _ :: _, [], _, _ => by unfold PySem.W.alikeAll; rfl
  | ks :: kss, ls :: lss, h, h2 => by
    rw [List.map_cons, List.map_cons, PySem.W.alikeAll, keys_alike kss lss (fun k m => h k (List.mem_cons_of_mem _ m)) (fun k m => h2 k (List.mem_cons_of_mem _ m)), Bool.and_true]
    show PySem.W.alikeAll _ _ = true
    exact ints_alike ks ls ((h ks (List.mem_cons_self ..)).trans (h2 ls (List.mem_cons_self ..)).symm)
theorem depth_ints : ∀ ks : List Int, PyData.depthAll (ks.map PyData.int) ≤ 1
  | [] => by simp [PyData.depthAll]
  | k :: ks => by
    have := depth_ints ks
    simp only [List.map_cons, PyData.depthAll, PyData.depth]
    omega
theorem depth_keys : ∀ kss : List (List Int), PyData.depthAll (kss.map keyP) ≤ 2
  | [] => by simp [PyData.depthAll]
  | ks :: kss => by
    have := depth_keys kss
    have := depth_ints ks
    simp only [List.map_cons, PyData.depthAll, keyP, PyData.depth]
    omega
theorem key_len (W : Wd) (d : PyData) : ∀ ks ∈ orderD W d, ks.length = 3 := fun ks m => by
  obtain ⟨e, _, rfl⟩ := List.mem_map.mp m
  rfl
/-- the first one stands before the second one, or a value that is no tree is raised -/
def spBefore (K : PySem.W.Frag) (C CB : Addr) : Sp := fun vs H Q E => ∃ a W x y d e, vs = [.ref a, x, y] ∧ WAt K C H a W ∧ W.Ok ∧ (Dq K H x d ∧ Fit d ∧ wtD d ≤ 4000) ∧ (isTreeD W d = true → Dq K H y e ∧ Fit e ∧ wtD e ≤ 4000) ∧
  (isTreeD W d = true → isTreeD W e = true → ∀ H', Ex H H' → Q (.bl (PySem.W.dataLt (orderP W d) (orderP W e))) H') ∧
  (isTreeD W d = false → ∀ b H', H b = none → Ex H H' → H' b = some (.xd [("value", x)]) → E (.ref CB) (some b) H') ∧
  (isTreeD W d = true → isTreeD W e = false → ∀ b H', H b = none → Ex H H' → H' b = some (.xd [("value", y)]) → E (.ref CB) (some b) H')
section
variable {P : Program} {w : World} {K : PySem.W.Frag} {mg : Str → Option Value} {base : Heap} {C CB : Addr}
end
end KW
namespace KW
open PySem PySem.Spec PyProof.Rows L2 Evl
/-- x == y, data without dicts -/
def rEqQ (K : PySem.W.Frag) : R2 := fun x y H Q => ∃ d e, Dq K H x d ∧ Dq K H y e ∧ d.canLay0 = true ∧ e.canLay0 = true ∧ d.depth ≤ 60 ∧ Q (.bl (PyData.eqv d e)) H
theorem op_eqQ {X : Cx} (hu : X.A.units + 64 < cLine) : OpR X (compareOp .Eq) (rEqQ X.K) := by
  intro pins s σ H x y v u Q I rx ry ⟨d, e, qd, qe, cd, ce, dp, k⟩
  obtain ⟨as, r1, _⟩ := qd.reads I rx
  obtain ⟨bs, r2, _⟩ := qe.reads I ry
  exact PySem.SeqAt.eqOverData X.prog X.w X.A X.xe s v u d e as bs _ r1 r2 cd ce (by omega) ⟨.bl _, H, I, rfl, k⟩
theorem alpha_small : ∀ c ∈ alpha.cps.toList, c < 0x110000 := by decide +kernel
theorem name_ok {x : Str} (h : nameS x = true) : PyData.strOk x = true := by
  unfold nameS at h
  rw [Bool.and_eq_true] at h
  unfold PyData.strOk
  rw [Array.all_eq_true']
  intro c hc
  have := List.all_eq_true.mp h.2 c (by simpa using hc)
  exact decide_eq_true (alpha_small c (of_decide_eq_true this))
theorem signs_lay : ∀ {ds : List PyData}, ds.all isSignD = true → PyData.canLayAll0 ds = true
  | [], _ => rfl
  | d :: ds, h => by
    rw [List.all_cons, Bool.and_eq_true] at h
    obtain ⟨x, i, rfl, hx, _⟩ := sign_is h.1
    simp [PyData.canLayAll0, PyData.canLay0, name_ok hx, signs_lay h.2]
theorem signs_depth : ∀ {ds : List PyData}, ds.all isSignD = true → PyData.depthAll ds ≤ 5
  | [], _ => by simp [PyData.depthAll]
  | d :: ds, h => by
    rw [List.all_cons, Bool.and_eq_true] at h
    obtain ⟨x, i, rfl, hx, _⟩ := sign_is h.1
    have := signs_depth h.2
    simp only [PyData.depthAll, PyData.depth]
    omega
theorem signs_eqv : ∀ s t : List (Str × Int), PyData.eqvAll (s.map signD) (t.map signD) = decide (s = t)
  | [], [] => by simp [PyData.eqvAll]
  | [], _ :: _ => by simp [PyData.eqvAll]
  | _ :: _, [] => by simp [PyData.eqvAll]
  | (x, i) :: s, (y, j) :: t => by
    rw [List.map_cons, List.map_cons, PyData.eqvAll, signs_eqv s t]
    have e : PyData.eqv (signD (x, i)) (signD (y, j)) = (x == y && (i == j && true)) := by
      simp only [signD, PyData.eqv, PyData.eqvAll]
    rw [e, Bool.eq_iff_iff]
    simp [Prod.ext_iff, and_assoc]
/-- what World == other says: another world of the same signs and more; something else is not -/
def spEqW (K : PySem.W.Frag) (C : Addr) : Sp := fun vs H Q _ => ∃ a W y, vs = [.ref a, y] ∧ WAt K C H a W ∧ W.Ok ∧ ((∃ b W2, y = .ref b ∧ WAt K C H b W2 ∧ W2.Ok ∧ ∀ H', Ex H H' → Q (.bl (decide (W.signs = W2.signs) && decide (W.more = W2.more))) H') ∨ ∃ d, Dq K H y d ∧ ∀ H', Ex H H' → Q (.bl false) H')
/-- isinstance(x, World) -/
structure WIs (K : PySem.W.Frag) (C : Addr) : Prop where
  cc : PySem.W.findIn K (.ref C) "__class__" = some (some (.builtin "object.__class__"))
  hn : PySem.W.specialIn K (.builtin "object.__class__") "__get__" = some (some (.builtin "getset_descriptor.__get__"))
  tk : PySem.W.takesIn K (.builtin "object.__class__") = some true
  mo : PySem.W.mroIn K C (.type "object") = some true
  no : ∀ d : PyData, PySem.W.kitOne K (.type (kindD d)) (.ref C) = some false
section
variable {P : Program} {w : World} {K : PySem.W.Frag} {mg : Str → Option Value} {base : Heap} {C CB : Addr}
theorem sc_eq : FnScope ["self", "other"] ["self", "other"] (defScope s_World___eq__) := ⟨rfl, rfl, rfl, by decide +kernel, rfl, by decide +kernel, by decide +kernel⟩
theorem ok_eq {f : Addr} {fd : FuncData} (F : Fun K "__eq__" "World.__eq__" s_World___eq__ f fd) (B : Bt mg) (T : WC K C) (TI : WIs K C) (gC : mg "World" = some (.ref C)) : FnOk P w K mg base CX0 1 f fd ["self", "other"] (spEqW K C) := by
  refine F.ok sc_eq (fun vs H Q E h => ?_) (fun cdv A outer s H vs Q E hr h => ?_)
  · obtain ⟨a, W, y, rfl, _⟩ := h
    rfl
  · obtain ⟨a, W, y, rfl, hW, ok, h⟩ := h
    have hu := hr.units
    obtain ⟨dx, sg, nb, rk, xs, h1, h2, h3, h4, h5, h6⟩ := hW
    refine ⟨_, pss_one (ps_ret (pe_and (pe_callB call_isi (by rfl) B.isinstance boot_isinstance (pa_cons (pv 1) (pa_cons (pe_glob (v := .ref C) (by rfl) gC rfl) pa_nil)))
      (pe_and (pe_cmpR (op_eqQ hu) (pe_fld (pv 0) rfl) (pe_fld (pv 1) rfl) (nomark _)) (pe_one (pe_cmpR op_eq (pe_fld (pv 0) rfl) (pe_fld (pv 1) rfl) (nomark _)))))), ?_⟩
    rcases h with ⟨b, W2, rfl, hW2, ok2, k⟩ | ⟨d, qd, k⟩
    · obtain ⟨dx2, sg2, nb2, rk2, xs2, g1, g2, g3, g4, g5, g6⟩ := hW2
      have is1 : Ev (tCB (rIsi K) (tCons (tVar 1) (tCons (tC (.ref C)) tNil))) (start ["self", "other"] [.ref a, .ref b]) H (.bl true) := fun H1 e Q k => ⟨_, rfl, .ref b, .ref C, .ref C, .ref C, true, rfl, .own C, .base (.ins (e _ _ g1) T.cl TI.cc TI.hn TI.tk TI.mo), (by
        unfold PySem.W.kitOne
        rw [if_pos (by simp)]), k H1 (Ex.refl _)⟩
      refine s_ret (ev_is (ev_andV is1 fun _ => ev_andV (ev_op (ev_fld (v := .ref sg) (ev_var rfl) h1 T.cl T.nS rfl) (ev_fld (v := .ref sg2) (ev_var rfl) g1 T.cl T.nS rfl) (z := .bl (decide (W.signs = W2.signs))) fun H1 e Q k => ?_) fun _ => ev_op (ev_fld (v := .bl W.more) (ev_var rfl) h1 T.cl T.nM rfl) (ev_fld (v := .bl W2.more) (ev_var rfl) g1 T.cl T.nM rfl) (rv_eq rfl)) ?_) k
      · have l1 := areSigns_all ok.fit
        have l2 := areSigns_all ok2.fit
        refine ⟨.tuple (W.signs.map signD), .tuple (W2.signs.map signD), .tup (ex_t e h3) (h4.ex e), .tup (ex_t e g3) (g4.ex e), by rw [PyData.canLay0]; exact signs_lay l1.1, by rw [PyData.canLay0]; exact signs_lay l2.1, ?_, ?_⟩
        · have := signs_depth l1.1
          simp only [PyData.depth]
          omega
        · have : PyData.eqv (.tuple (W.signs.map signD)) (.tuple (W2.signs.map signD)) = decide (W.signs = W2.signs) := by
            rw [PyData.eqv]
            exact signs_eqv _ _
          rw [this]
          exact k H1 (Ex.refl _)
      · rw [Bool.true_and]
        congr 1
        congr 1
        rw [decide_eq_decide]
        exact ⟨fun z => by injection z, fun z => by rw [z]⟩
    · have is0 : Ev (tCB (rIsi K) (tCons (tVar 1) (tCons (tC (.ref C)) tNil))) (start ["self", "other"] [.ref a, y]) H (.bl false) := fun H1 e Q k => ⟨_, rfl, y, .ref C, .type (kindD d), .ref C, false, rfl, .own C, (qd.ex e).ty, TI.no d, k H1 (Ex.refl _)⟩
      exact s_ret (ev_is (ev_andV (b := true) is0 fun z => nomatch z) rfl) k
end
end KW
/-! ### ints of the script: their bits -/
namespace L2
open PySem PySem.Spec PyProof.Rows
theorem lt_of_bits {z : Int} {b : Nat} (h : Builtin.Int.intBits z ≤ b) : z.natAbs < 2 ^ b := by
  unfold Builtin.Int.intBits at h
  split at h
  · rename_i e
    have e0 : z = 0 := by simpa using e
    rw [e0]
    exact Nat.two_pow_pos b
  · exact Nat.lt_of_lt_of_le Nat.lt_log2_self (Nat.pow_le_pow_right (by decide) (by omega))
theorem bits_of_lt {z : Int} {b : Nat} (h : z.natAbs < 2 ^ b) : Builtin.Int.intBits z ≤ b := by
  unfold Builtin.Int.intBits
  split
  · exact Nat.zero_le _
  · rename_i e
    have e0 : z.natAbs ≠ 0 := fun q => e (by have : z = 0 := by omega
                                             simp [this])
    have := (Nat.log2_lt e0).mpr h
    omega
/-- a ** n of any base whose power has less than 2 ^ 27 bits -/
def CPowW (i j : Int) : Prop := 0 ≤ j ∧ (Builtin.Int.intBits i : Int) * j ≤ 2 ^ 27
theorem op_powW {X : Cx} : OpR X (binaryOp .Pow) (rI CPowW fun i j => .int (i ^ j.toNat)) := opI fun _ _ _ _ _ _ _ hc q => pow_int hc.1 hc.2 q
/-- m * c + z, m and c small, z of at most b bits -/
theorem bits_mix {m c z : Int} {b : Nat} (hm : m.natAbs < 2 ^ 32) (hc : c.natAbs < 2 ^ 32) (hz : Builtin.Int.intBits z ≤ b) : Builtin.Int.intBits (m * c + z) ≤ b + 65 := by
  have h1 := lt_of_bits hz
  refine bits_of_lt ?_
  have h2 : (m * c).natAbs < 2 ^ 64 := by
    rw [Int.natAbs_mul]
    exact Nat.lt_of_lt_of_le (Nat.mul_lt_mul'' hm hc) (by decide)
  have h3 : (m * c + z).natAbs ≤ (m * c).natAbs + z.natAbs := Int.natAbs_add_le _ _
  have h4 : 2 ^ (b + 65) = 2 ^ b * 2 ^ 65 := Nat.pow_add ..
  have h5 : 1 ≤ 2 ^ b := Nat.one_le_two_pow
  generalize 2 ^ b = B at *
  have h6 : B * 2 ^ 65 = B * 2 ^ 64 + B * 2 ^ 64 := by omega
  have h7 : 2 ^ 64 ≤ B * 2 ^ 64 := Nat.le_mul_of_pos_left _ h5
  have h8 : B ≤ B * 2 ^ 64 := Nat.le_mul_of_pos_right _ (by decide)
  omega
end L2
namespace KW
open PySem PySem.Spec PyProof.Rows L2 Evl
/-! ### where draws come from -/
/-- at p: what is left of the own number, the mixed one -/
def Src (H : Hp) (p : Addr) : Prop := ∃ o m : Int, H p = some (.lst [.int o, .int m]) ∧ 0 ≤ o ∧ 0 ≤ m ∧ m ≤ 2147483647
/-- all stands but p -/
def But (p : Addr) (H H' : Hp) : Prop := ∀ b o, H b = some o → b ≠ p → H' b = some o
theorem But.trans {p : Addr} {H H1 H2 : Hp} (a : But p H H1) (b : But p H1 H2) : But p H H2 := fun x o e n => b x o (a x o e n) n
theorem But.upd {p : Addr} {H : Hp} {o : HO} : But p H (upd H p o) := fun b u e n => by
  rw [upd_ne n]
  exact e
theorem But.refl {p : Addr} {H : Hp} : But p H H := fun _ _ e _ => e
def spSource (K : PySem.W.Frag) : Sp := fun vs H Q _ => ∃ (a : Addr) (ns : List Int) (st : Int), vs = [.ref a, .int st] ∧ SqL K H a (ns.map V.int) ∧ ns.length ≤ 63 ∧ (∀ z ∈ ns, Builtin.Int.intBits z ≤ 1048576) ∧ 0 ≤ st ∧ st ≤ 63 ∧
  ∀ (p : Addr) (H' : Hp), H p = none → Src H' p → Same H H' → Q (.ref p) H'
def spDraw : Sp := fun vs H Q _ => ∃ (p : Addr) (n : Int), vs = [.ref p, .int n] ∧ Src H p ∧ 0 < n ∧ n < 1073741824 ∧ ∀ (r : Int) (H' : Hp), 0 ≤ r → r < n → Src H' p → But p H H' → Q (.int r) H'
def spPick : Sp := fun vs H Q _ => ∃ (p t : Addr) (xs : List V), vs = [.ref p, .ref t] ∧ Src H p ∧ H t = some (.lst xs) ∧ t ≠ p ∧ xs ≠ [] ∧ xs.length < 1000 ∧ ∀ (i : Nat) (v : V) (H' : Hp), xs[i]? = some v → Src H' p → But p H H' → Q v H'
abbrev sSource : Stmt := s_law_source
abbrev sDraw : Stmt := s_law_draw
abbrev sPick : Stmt := s_law_pick
structure TxB (mg : Str → Option Value) : Prop where
  int : mg "int" = none
  len : mg "len" = none
section
variable {P : Program} {w : World} {K : PySem.W.Frag} {mg : Str → Option Value} {base : Heap}
theorem scSource : FnScope ["script", "start", "mixed", "cell", "own"] ["script", "start"] (defScope sSource) := ⟨rfl, rfl, rfl, by decide +kernel, rfl, by decide +kernel, by decide +kernel⟩
theorem mod_le {i j : Int} (h : 0 < j) : 0 ≤ i.fmod j ∧ i.fmod j < j := by
  rw [Int.fmod_eq_emod_of_nonneg i (Int.le_of_lt h)]
  exact ⟨Int.emod_nonneg _ (by omega), Int.emod_lt_of_pos _ h⟩
theorem ok_source {f : Addr} {fd : FuncData} (F : Fun K "_law_source" "_law_source" sSource f fd) (T : TxB mg) : FnOk P w K mg base CX0 1 f fd ["script", "start"] (spSource K) := by
  refine F.ok scSource (fun vs H Q E h => ?_) (fun cdv A outer s H vs Q E hr h => ?_)
  · obtain ⟨a, ns, st, rfl, _⟩ := h
    rfl
  · obtain ⟨a, ns, st, rfl, hS, hlen, hbits, h0, h63, k⟩ := h
    refine ⟨_, pss_cons (ps_set (i := 2) scSource.nd rfl (Or.inl rfl) (pe_op op_add pe_int (pv 1)))
      (pss_cons (ps_for PassesOwn.never rfl (pi_list (pv 0)) (pg_name (i := 3) scSource.nd rfl (Or.inl rfl))
        (pss_one (ps_set (i := 2) scSource.nd rfl (Or.inl rfl) (pe_op op_add (pe_op op_modN (pe_callTy call_int1 (by rfl) T.int (by decide +kernel) (pa_cons (pe_op op_powW (pe_callTy call_int1 (by rfl) T.int (by decide +kernel) (pa_cons (pe_op op_add (pe_op op_mulW (pv 2) pe_int) (pe_callTy call_int1 (by rfl) T.int (by decide +kernel) (pa_cons (pv 3) pa_nil))) pa_nil)) pe_int) pa_nil)) pe_int) pe_int))))
      (pss_cons (ps_set (i := 4) scSource.nd rfl (Or.inl rfl) pe_int)
      (pss_cons (ps_if (PW.pt (pw_and (pt_cmpR op_lt (pv 1) (pe_callB call_len_seq (by rfl) T.len PySem.boot_len (pa_cons (pv 0) pa_nil)) (nomark _)) (pw_and1 (pt_cmpR op_ge (pe_ix ix_list (pv 0) (pv 1) (fun _ _ => rfl)) (pe_op op_pow pe_int pe_int) (nomark _)))))
        (pss_one (ps_set (i := 4) scSource.nd rfl (Or.inl rfl) (pe_op op_sub (pe_ix ix_list (pv 0) (pv 1) (fun _ _ => rfl)) (pe_op op_pow pe_int pe_int)))) pss_nil)
      (pss_one (ps_ret (pe_lst (pa_cons (pv 4) (pa_cons (pv 2) pa_nil)))))))), ?_⟩
    refine ⟨_, rfl, _, _, rfl, rfl, ?_⟩
    refine ⟨_, rfl, a, rfl, ⟨_, hS⟩, for_list (K := K) (a := a) (xs := ns.map V.int) (fun i σ H2 => ∃ (m : Int) (v : Option V), σ = [some (.ref a), some (.int st), some (.int m), v, none] ∧ H2 = H ∧ 0 ≤ m ∧ m ≤ 2147483563)
      ⟨_, none, rfl, rfl, by omega, by omega⟩ (fun i σ H2 _ ⟨_, _, _, e, _⟩ => by rw [e]; exact hS) ?_ ?_⟩
    · rintro i y σ H2 hi ⟨m, v, rfl, rfl, m0, m1⟩
      obtain ⟨z, hz, rfl⟩ : ∃ z, ns[i]? = some z ∧ V.int z = y := by
        rw [List.getElem?_map] at hi
        exact Option.map_eq_some_iff.mp hi
      have hb := hbits z (List.mem_of_getElem? hz)
      refine ⟨_, rfl, _, _, rfl, rfl, ?mul, _, rfl, .inl ⟨_, rfl, _, _, rfl, rfl, .inl ⟨_, rfl, _, _, rfl, rfl, ?pow, .inl ⟨_, rfl, _, _, rfl, rfl, ?md, _, _, rfl, rfl, ?_⟩⟩⟩⟩
      case mul =>
        show CMulW m 60013
        exact wide_mul (a := 32) (b := 16) (by omega) (by decide) (by decide) (by decide) (by decide)
      case pow =>
        show CPowW _ 3
        have q := bits_mix (m := m) (c := 60013) (z := z) (b := 1048576) (by omega) (by decide) hb
        exact ⟨by decide, by omega⟩
      case md => exact (by decide : (2147483563 : Int) ≠ 0)
      have q := mod_le (i := (m * 60013 + z) ^ (3 : Int).toNat) (j := 2147483563) (by decide)
      exact ⟨_, _, rfl, rfl, by omega, by omega⟩
    · rintro σ H2 ⟨m, v, rfl, rfl, m0, m1⟩
      -- own = 0; the test's first half
      have kk : ∀ (o : Int) (p : Addr), 0 ≤ o → H2 p = none → Q (.ref p) (upd H2 p (.lst [.int o, .int m])) := fun o p ho hp => k p _ hp ⟨o, m, upd_same, ho, m0, by omega⟩ (Evl.Ex.new hp)
      refine ⟨_, rfl, _, rfl, a, _, rfl, .inl hS, _, _, rfl, rfl, _, rfl, ?_⟩
      refine ite2 (fun c => ?_) (fun c => ?_)
      · have c' : st < (ns.map V.int).length := of_decide_eq_true c
        have hst : st = ((st.toNat : Nat) : Int) := by omega
        have hl : st.toNat < ns.length := by rw [List.length_map] at c'; omega
        obtain ⟨z, hz⟩ : ∃ z, ns[st.toNat]? = some z := ⟨_, List.getElem?_eq_getElem hl⟩
        have at' : atI (ns.map V.int) st = some (V.int z) := by
          rw [hst]
          exact atI_nat (by rw [List.getElem?_map, hz]; rfl)
        refine ⟨_, rfl, _, rfl, a, _, st, _, rfl, rfl, hS, at', _, _, rfl, rfl, ⟨by decide, by decide, by decide⟩, _, _, rfl, rfl, _, rfl, ?_⟩
        refine ite2 (fun g => ?_) (fun g => ?_)
        · refine ⟨_, rfl, _, rfl, a, _, st, _, rfl, rfl, hS, at', _, _, rfl, rfl, ⟨by decide, by decide, by decide⟩, _, _, rfl, rfl, ?_⟩
          have g' := of_decide_eq_true g
          exact ⟨_, rfl, _, rfl, (by show 2 ≤ sizeLine; decide), fun p hp => kk _ p (by omega) hp⟩
        · exact ⟨_, rfl, _, rfl, (by show 2 ≤ sizeLine; decide), fun p hp => kk 0 p (by decide) hp⟩
      · exact ⟨_, rfl, _, rfl, (by show 2 ≤ sizeLine; decide), fun p hp => kk 0 p (by decide) hp⟩
theorem scDraw : FnScope ["source", "span", "found"] ["source", "span"] (defScope sDraw) := ⟨rfl, rfl, rfl, by decide +kernel, rfl, by decide +kernel, by decide +kernel⟩
theorem ok_draw {f : Addr} {fd : FuncData} (F : Fun K "_law_draw" "_law_draw" sDraw f fd) (T : TxB mg) : FnOk P w K mg base CX0 1 f fd ["source", "span"] spDraw := by
  refine F.ok scDraw (fun vs H Q E h => ?_) (fun cdv A outer s H vs Q E hr h => ?_)
  · obtain ⟨p, n, rfl, _⟩ := h
    rfl
  · obtain ⟨p, n, rfl, ⟨o, m, hp, o0, m0, m1⟩, n0, n1, k⟩ := h
    refine ⟨_, pss_cons (ps_if (pt_cmpR op_ge (pe_ix ix_list (pv 0) pe_int (fun _ _ => rfl)) (pv 1) (nomark _))
        (pss_cons (ps_set (i := 2) scDraw.nd rfl (Or.inl rfl) (pe_op op_modN (pe_callTy call_int1 (by rfl) T.int (by decide +kernel) (pa_cons (pe_ix ix_list (pv 0) pe_int (fun _ _ => rfl)) pa_nil)) (pv 1)))
        (pss_cons (ps_asg (pe_op op_fdivN (pe_ix ix_list (pv 0) pe_int (fun _ _ => rfl)) (pv 1)) (pg_sub (pv 0) pe_int set_list))
        (pss_one (ps_ret (pv 2))))) pss_nil)
      (pss_cons (ps_asg (pe_op op_modN (pe_callTy call_int1 (by rfl) T.int (by decide +kernel) (pa_cons (pe_op op_add (pe_op op_mul (pe_ix ix_list (pv 0) pe_int (fun _ _ => rfl)) pe_int) pe_int) pa_nil)) pe_int) (pg_sub (pv 0) pe_int set_list))
      (pss_one (ps_ret (pe_op op_modN (pe_callTy call_int1 (by rfl) T.int (by decide +kernel) (pa_cons (pe_op op_fdivN (pe_op op_modN (pe_callTy call_int1 (by rfl) T.int (by decide +kernel) (pa_cons (pe_op op_pow (pe_callTy call_int1 (by rfl) T.int (by decide +kernel) (pa_cons (pe_ix ix_list (pv 0) pe_int (fun _ _ => rfl)) pa_nil)) pe_int) pa_nil)) pe_int) pe_int) pa_nil)) (pv 1))))), ?_⟩
    refine ⟨_, rfl, p, _, 0, _, rfl, rfl, SqL.of hp, rfl, _, rfl, _, _, rfl, rfl, _, rfl, ?_⟩
    refine ite2 (fun c => ?_) (fun c => ?_)
    · have q := mod_le (i := o) n0
      refine ⟨_, rfl, p, _, 0, _, rfl, rfl, SqL.of hp, rfl, .inl ⟨_, rfl, _, rfl, _, _, rfl, rfl, (by show n ≠ 0; omega), ?_⟩⟩
      refine ⟨_, rfl, p, _, 0, _, rfl, rfl, SqL.of hp, rfl, _, rfl, _, _, rfl, rfl, ⟨by omega, by omega⟩, ?_⟩
      refine ⟨_, rfl, p, _, 0, 0, rfl, rfl, hp, rfl, ?_⟩
      refine ⟨_, rfl, k _ _ q.1 q.2 ⟨_, m, upd_same, ?_, m0, m1⟩ But.upd⟩
      rw [Int.fdiv_eq_ediv_of_nonneg o (by omega)]
      exact Int.ediv_nonneg o0 (by omega)
    · have q := mod_le (i := m * 48271 + 5087) (j := 2147483647) (by decide)
      have hp2 : ∀ x : Int, upd H p (.lst [.int o, .int x]) p = some (.lst [.int o, .int x]) := fun _ => upd_same
      refine ⟨_, rfl, p, _, 1, _, rfl, rfl, SqL.of hp, rfl, _, _, rfl, rfl, .inl ⟨by omega, by omega⟩, _, _, rfl, rfl, .inl ⟨_, rfl, _, _, rfl, rfl, (by show (2147483647 : Int) ≠ 0; decide), ?_⟩⟩
      refine ⟨_, rfl, p, _, 1, 1, rfl, rfl, hp, rfl, ?_⟩
      refine ⟨_, rfl, p, _, 1, _, rfl, rfl, SqL.of (hp2 _), rfl, .inl ⟨_, rfl, _, _, rfl, rfl, ⟨by decide, by decide, by omega⟩, .inl ⟨_, rfl, _, _, rfl, rfl, (by show (1000000007 : Int) ≠ 0; decide), _, _, rfl, rfl, ⟨by decide, by decide⟩, .inl ⟨_, rfl, _, rfl, _, _, rfl, rfl, (by show n ≠ 0; omega), ?_⟩⟩⟩⟩
      have q2 := mod_le (i := ((((m * 48271 + 5087).fmod 2147483647) ^ (5 : Int).toNat).fmod 1000000007).fdiv 23) n0
      exact k _ _ q2.1 q2.2 ⟨o, _, hp2 _, o0, q.1, by omega⟩ But.upd
end
end KW
namespace KW
open PySem PySem.Spec PyProof.Rows L2 Evl
theorem But.kept {p : Addr} {H H' : Hp} (b : But p H H') : Kept (fun q => q = p) H H' := b
theorem But.sqL {K : PySem.W.Frag} {p q : Addr} {H H' : Hp} {xs : List V} (b : But p H H') (ne : q ≠ p) (h : SqL K H q xs) : SqL K H' q xs := by
  rcases h with (h | ⟨o, h⟩) | h
  · exact .inl (.inl (b _ _ h ne))
  · exact .inl (.inr ⟨o, b _ _ h ne⟩)
  · exact .inr h
theorem But.sqT {K : PySem.W.Frag} {p q : Addr} {H H' : Hp} {xs : List V} (b : But p H H') (hp : ∃ ys, H p = some (.lst ys)) (h : SqT K H q xs) : SqT K H' q xs := by
  obtain ⟨ys, hp⟩ := hp
  rcases h with (h | ⟨o, h⟩) | h
  · exact .inl (.inl (b _ _ h fun z => by rw [z, hp] at h; cases h))
  · exact .inl (.inr ⟨o, b _ _ h fun z => by rw [z, hp] at h; cases h⟩)
  · exact .inr h
theorem Src.lst {H : Hp} {p : Addr} (s : Src H p) : ∃ ys, H p = some (.lst ys) := let ⟨_, _, h, _⟩ := s; ⟨_, h⟩
/-- one of the things, whatever they stand in -/
def spPickG (K : PySem.W.Frag) : Sp := fun vs H Q _ => ∃ (p : Addr) (t : V), vs = [.ref p, t] ∧ Src H p ∧
  ((∃ (q : Addr) (xs : List V), t = .ref q ∧ ((SqL K H q xs ∧ q ≠ p) ∨ SqT K H q xs) ∧ xs ≠ [] ∧ xs.length < 100000 ∧ ∀ (i : Nat) (v : V) (H' : Hp), xs[i]? = some v → Src H' p → But p H H' → Q v H') ∨
   ∃ z : Str, t = .str z ∧ 0 < z.cps.size ∧ z.cps.size < 100000 ∧ ∀ (i c : Nat) (H' : Hp), z.cps[i]? = some c → Src H' p → But p H H' → Q (.str ⟨#[c]⟩) H')
section
variable {P : Program} {w : World} {K : PySem.W.Frag} {mg : Str → Option Value} {base : Heap}
theorem scPick : FnScope ["source", "things"] ["source", "things"] (defScope sPick) := ⟨rfl, rfl, rfl, by decide +kernel, rfl, by decide +kernel, by decide +kernel⟩
theorem ok_pick {f fD : Addr} {fd fdD : FuncData} (F : Fun K "_law_pick" "_law_pick" sPick f fd) (B : Bt mg) (kD : PySem.W.keepIn K (.ref fD) = true) (bD : Binds K fdD ["source", "span"] []) (gD : mg "_law_draw" = some (.ref fD)) (GD : FnOk P w K mg base CX0 1 fD fdD ["source", "span"] spDraw) : FnOk P w K mg base CX0 2 f fd ["source", "things"] (spPickG K) := by
  refine F.ok scPick (fun vs H Q E h => ?_) (fun cdv A outer s H vs Q E hr h => ?_)
  · obtain ⟨p, t, rfl, _⟩ := h
    rfl
  · obtain ⟨p, t, rfl, S, h⟩ := h
    refine ⟨_, pss_one (ps_ret (pe_ix ix_seq (pv 1) (pe_call GD hr (by rfl) gD kD bD .nil pass0 (pa_cons (pv 0) (pa_cons (pe_callB (cr_either call_len_seq call_len_str) (by rfl) B.len PySem.boot_len (pa_cons (pv 1) pa_nil)) pa_nil))) (fun _ _ => rfl))), ?_⟩
    rcases h with ⟨q, xs, rfl, hq, ne, hl, k⟩ | ⟨z, rfl, h0, hl, k⟩
    · have hpos : 0 < xs.length := List.length_pos_iff.mpr ne
      have two : SqL K H q xs ∨ SqT K H q xs := hq.imp (·.1) id
      refine ⟨_, rfl, _, rfl, _, rfl, .inl ⟨q, xs, rfl, two, p, _, rfl, S, by omega, by omega, fun r H' r0 r1 S' B' => ?_⟩⟩
      have hrl : r.toNat < xs.length := by omega
      obtain ⟨v, hv⟩ : ∃ v, xs[r.toNat]? = some v := ⟨_, List.getElem?_eq_getElem hrl⟩
      have at' : atI xs r = some v := by
        rw [show r = ((r.toNat : Nat) : Int) by omega]
        exact atI_nat hv
      rcases hq with ⟨hq, nq⟩ | hq
      · exact .inl ⟨q, xs, r, v, rfl, rfl, B'.sqL nq hq, at', k _ v H' hv S' B'⟩
      · exact .inr (.inl ⟨q, xs, r, v, rfl, rfl, B'.sqT S.lst hq, at', k _ v H' hv S' B'⟩)
    · have zl : z.length = z.cps.size := rfl
      refine ⟨_, rfl, _, rfl, _, rfl, .inr ⟨z, rfl, sz_of (by omega), p, _, rfl, S, by omega, by omega, fun r H' r0 r1 S' B' => ?_⟩⟩
      have hrl : r.toNat < z.cps.size := by omega
      obtain ⟨c, hc⟩ : ∃ c, z.cps[r.toNat]? = some c := ⟨_, Array.getElem?_eq_getElem hrl⟩
      have at' : atI z.cps.toList r = some c := by
        rw [show r = ((r.toNat : Nat) : Int) by omega]
        exact atI_nat (by rw [Array.getElem?_toList]; exact hc)
      exact .inr (.inr ⟨z, r, c, rfl, rfl, sz_of (by omega), at', k _ c H' hc S' B'⟩)
end
end KW
namespace KW
open PySem PySem.Spec PyProof.Rows L2 Evl
/-- xs != [], xs == [] -/
def rNil (K : PySem.W.Frag) (neg : Bool) : R2 := fun x y H Q => ∃ a b xs, x = .ref a ∧ y = .ref b ∧ SqL K H a xs ∧ SqL K H b [] ∧ Q (.bl (if neg then !xs.isEmpty else xs.isEmpty)) H
theorem op_neNil {X : Cx} (hu : X.A.units < cLine) : OpR X (compareOp .NotEq) (rNil X.K true) := by
  intro pins s σ H x y v u Q I rx ry ⟨a, b, xs, ex, ey, ha, hb, k⟩
  subst ex ey
  cases rx
  cases ry
  obtain ⟨its, r, pa, _⟩ := I.list ha
  obtain ⟨its2, r2, pb, _⟩ := I.list hb
  cases r2
  cases r with
  | nil => exact SeqAt.RcNeAt.lists (e := fun _ => true) pa.isList pb.isList rfl hu (fun j h1 h2 => absurd h1 (by simp)) _ _ _ _ ⟨.bl false, H, I, by rfl, k⟩
  | cons h t => exact SeqAt.RcNeAt.lists_lengths pa.isList pb.isList (by simp) hu _ _ _ _ ⟨.bl true, H, I, rfl, k⟩
theorem op_eqNil {X : Cx} (hu : X.A.units < cLine) : OpR X (compareOp .Eq) (rNil X.K false) := by
  intro pins s σ H x y v u Q I rx ry ⟨a, b, xs, ex, ey, ha, hb, k⟩
  subst ex ey
  cases rx
  cases ry
  obtain ⟨its, r, pa, _⟩ := I.list ha
  obtain ⟨its2, r2, pb, _⟩ := I.list hb
  cases r2
  cases r with
  | nil => exact SeqAt.RcAt.lists (e := fun _ => true) pa.isList pb.isList rfl hu (fun j h1 h2 => absurd h1 (by simp)) _ _ _ _ ⟨.bl true, H, I, by rfl, k⟩
  | cons h t => exact SeqAt.RcAt.lists_lengths pa.isList pb.isList (by simp) hu _ _ _ _ ⟨.bl false, H, I, rfl, k⟩
/-- the things in another sequence -/
def spMixed (K : PySem.W.Frag) : Sp := fun vs H Q _ => ∃ (p q : Addr) (xs : List V), vs = [.ref p, .ref q] ∧ Src H p ∧ (SqL K H q xs ∨ SqT K H q xs) ∧ xs.length ≤ 1000 ∧ ∀ (l : Addr) (ys : List V) (H' : Hp), H l = none → ys.Perm xs → Src H' p → But p H H' → H' l = some (.lst ys) → Q (.ref l) H'
theorem perm_erase {α : Type} : ∀ {xs : List α} {i : Nat} {v : α}, xs[i]? = some v → (v :: xs.eraseIdx i).Perm xs
  | x :: xs, 0, v, h => by
    cases h
    exact List.Perm.refl _
  | x :: xs, i + 1, v, h => by
    rw [List.eraseIdx_cons_succ]
    exact (List.Perm.swap x v _).trans (List.Perm.cons x (perm_erase (by simpa using h)))
section
variable {P : Program} {w : World} {K : PySem.W.Frag} {mg : Str → Option Value} {base : Heap}
theorem sc_mixed : FnScope ["source", "things", "lot", "found"] ["source", "things"] (defScope s_law_mixed) := ⟨rfl, rfl, rfl, by decide +kernel, rfl, by decide +kernel, by decide +kernel⟩
theorem ok_mixed {f fD : Addr} {fd fdD : FuncData} (F : Fun K "_law_mixed" "_law_mixed" s_law_mixed f fd) (B : Bt mg) (kD : PySem.W.keepIn K (.ref fD) = true) (bD : Binds K fdD ["source", "span"] []) (gD : mg "_law_draw" = some (.ref fD)) (GD : FnOk P w K mg base CX0 1 fD fdD ["source", "span"] spDraw) : FnOk P w K mg base CX0 2 f fd ["source", "things"] (spMixed K) := by
  refine F.ok sc_mixed (fun vs H Q E h => ?_) (fun cdv A outer s H vs Q E hr h => ?_)
  · obtain ⟨p, q, xs, rfl, _⟩ := h
    rfl
  · obtain ⟨p, q, xs, rfl, S, hq, hl, k⟩ := h
    have hu := hu_of hr
    refine ⟨_, pss_cons (ps_par (i := 2) (j := 3) rfl sc_mixed.nd rfl rfl (by decide) rfl rfl (pa_cons (pe_callTy call_list_of (by rfl) B.list boot_list (pa_cons (pv 1) pa_nil)) (pa_cons (pe_lst pa_nil) pa_nil)) rfl)
      (pss_cons (ps_while PassesOwn.never (pt_cmpR (op_neNil (Nat.lt_of_succ_lt hu)) (pv 2) (pe_lst pa_nil) (nomark _))
        (pss_one (ps_expr (pe_bm PySem.F.plainAttrs_list PySem.F.slot_list_append PySem.F.type_list_append mt_append (pv 3) (pa_cons (pe_bm PySem.F.plainAttrs_list PySem.F.slot_list_pop PySem.F.type_list_pop mt_popAt (pv 2) (pa_cons (pe_call GD hr (by rfl) gD kD bD .nil pass0 (pa_cons (pv 0) (pa_cons (pe_callB call_len_seq (by rfl) B.len PySem.boot_len (pa_cons (pv 2) pa_nil)) pa_nil))) pa_nil)) pa_nil)))))
      (pss_one (ps_ret (pv 3)))), ?_⟩
    refine ⟨_, rfl, q, xs, rfl, hq, fun lot hlot => ⟨(by show 0 ≤ sizeLine; decide), fun fnd hfnd => ⟨.ref lot, .ref fnd, rfl, ?_⟩⟩⟩
    have hl1 : upd H lot (.lst xs) lot = some (.lst xs) := upd_same
    have nlf : lot ≠ fnd := fun z => by rw [← z, hl1] at hfnd; cases hfnd
    have hfnd0 : H fnd = none := by rwa [upd_ne (Ne.symm nlf)] at hfnd
    obtain ⟨o0, m0, hS, o00, m00, m01⟩ := S
    have npl : lot ≠ p := fun z => by rw [z, hS] at hlot; cases hlot
    have npf : fnd ≠ p := fun z => by rw [z, hS] at hfnd0; cases hfnd0
    have S0 : Src (upd (upd H lot (.lst xs)) fnd (.lst [])) p := ⟨o0, m0, (upd_ne (Ne.symm npf)).trans ((upd_ne (Ne.symm npl)).trans hS), o00, m00, m01⟩
    have B0 : But p H (upd (upd H lot (.lst xs)) fnd (.lst [])) := fun b o e n => (Ex.mut (Ex.new hlot) hfnd0) b o e
    refine q_while (fun m σ H' => ∃ (zs ys : List V), σ = [some (.ref p), some (.ref q), some (.ref lot), some (.ref fnd)] ∧ Src H' p ∧ But p H H' ∧ H' lot = some (.lst zs) ∧ H' fnd = some (.lst ys) ∧ (ys ++ zs).Perm xs ∧ m = zs.length) _
      ⟨xs, [], rfl, S0, B0, (upd_ne nlf).trans hl1, upd_same, List.Perm.refl _, rfl⟩ ?_
    rintro m σ H' ⟨zs, ys, rfl, S1, B1, h1, h2, pm, rfl⟩
    refine ⟨!zs.isEmpty, ?_, fun c H5 e5 => ?_, fun c H5 e5 => ?_⟩
    · exact et_test (ev_opL (ev_var rfl) (el_lst ea_nil (by decide)) fun b H6 hb e6 H7 e7 Q' k' => ⟨lot, b, zs, rfl, rfl, sq_of (e7 _ _ (e6 _ _ h1)), sq_of (e7 _ _ hb), k' H7 (Ex.refl _)⟩)
    · have zl : zs.length ≤ 1000 := by
        have := pm.length_eq
        rw [List.length_append] at this
        omega
      have yl : ys.length ≤ 1000 := by
        have := pm.length_eq
        rw [List.length_append] at this
        omega
      have zp : 0 < zs.length := by
        cases zs with
        | nil => cases c
        | cons a b => exact Nat.succ_pos _
      obtain ⟨o1, m1, hS1, o10, m10, m11⟩ := S1
      refine ⟨fun σ2 H2 => ∃ m', m' < zs.length ∧ ∃ (zs ys : List V), σ2 = [some (.ref p), some (.ref q), some (.ref lot), some (.ref fnd)] ∧ Src H2 p ∧ But p H H2 ∧ H2 lot = some (.lst zs) ∧ H2 fnd = some (.lst ys) ∧ (ys ++ zs).Perm xs ∧ m' = zs.length, fun σ2 H2 z => z, ?_⟩
      refine ⟨_, rfl, .inl ⟨rfl, _, sq_of (e5 _ _ h2)⟩, _, rfl, .inl ⟨rfl, _, sq_of (e5 _ _ h1)⟩, _, rfl, _, rfl, lot, zs, rfl, .inl (sq_of (e5 _ _ h1)), p, _, rfl, ⟨o1, m1, e5 _ _ hS1, o10, m10, m11⟩, by omega, by omega, fun r H6 r0 r1 S6 B6 => ?_⟩
      have hrl : r.toNat < zs.length := by omega
      obtain ⟨v, hv⟩ : ∃ v, zs[r.toNat]? = some v := ⟨_, List.getElem?_eq_getElem hrl⟩
      have h16 := B6 _ _ (e5 _ _ h1) npl
      have h26 := B6 _ _ (e5 _ _ h2) npf
      have sx : seqIndex? r zs.length = some r.toNat := by
        unfold seqIndex?
        have n0 : ¬ r < 0 := by omega
        have ok : (decide (0 ≤ r) && decide (r < (zs.length : Int))) = true := by
          rw [Bool.and_eq_true]
          exact ⟨decide_eq_true r0, decide_eq_true r1⟩
        simp only [if_neg n0]
        rw [if_pos ok]
      refine ⟨lot, zs, r, r.toNat, v, rfl, rfl, h16, by omega, by omega, sx, hv, ?_⟩
      have h27 : upd H6 lot (.lst (zs.eraseIdx r.toNat)) fnd = some (.lst ys) := (upd_ne (Ne.symm nlf)).trans h26
      refine ⟨fnd, ys, v, rfl, rfl, h27, sz_lt (by omega), ?_⟩
      obtain ⟨o6, m6, hS6, o60, m60, m61⟩ := S6
      have el : (zs.eraseIdx r.toNat).length = zs.length - 1 := by rw [List.length_eraseIdx, if_pos hrl]
      refine ⟨(zs.eraseIdx r.toNat).length, by omega, zs.eraseIdx r.toNat, ys ++ [v], rfl, ⟨o6, m6, ?_, o60, m60, m61⟩, ?_, ?_, upd_same, ?_, rfl⟩
      · rw [upd_ne (Ne.symm npf), upd_ne (Ne.symm npl)]
        exact hS6
      · intro b o e n
        have nb1 : b ≠ lot := fun z => by rw [z, hlot] at e; cases e
        have nb2 : b ≠ fnd := fun z => by rw [z, hfnd0] at e; cases e
        rw [upd_ne nb2, upd_ne nb1]
        exact B6 _ _ (e5 _ _ (B1 _ _ e n)) n
      · rw [upd_ne nlf]
        exact upd_same
      · rw [List.append_assoc]
        exact (List.Perm.append_left ys (perm_erase hv)).trans pm
    · have z0 : zs = [] := by
        cases zs with
        | nil => rfl
        | cons a b => cases c
      subst z0
      rw [List.append_nil] at pm
      obtain ⟨o1, m1, hS1, o10, m10, m11⟩ := S1
      exact ⟨_, rfl, k fnd ys H5 hfnd0 pm ⟨o1, m1, e5 _ _ hS1, o10, m10, m11⟩ (fun b o e n => e5 _ _ (B1 _ _ e n)) (e5 _ _ h2)⟩
end
end KW
namespace KW
open PySem PySem.Spec PyProof.Rows L2 Evl
theorem But.tr {p : Addr} {H H1 H2 : Hp} (a : But p H H1) (b : But p H1 H2) : But p H H2 := But.trans a b
/-- a name of any letters -/
def spWord (K : PySem.W.Frag) : Sp := fun vs H Q _ => ∃ (p : Addr), vs = [.ref p] ∧ Src H p ∧ ∀ (z : Str) (H' : Hp), nameS z = true → Src H' p → But p H H' → Q (.str z) H'
section
variable {P : Program} {w : World} {K : PySem.W.Frag} {mg : Str → Option Value} {base : Heap}
theorem sc_word : FnScope ["source", "word", "turn"] ["source"] (defScope s_law_word) := ⟨rfl, rfl, rfl, by decide +kernel, rfl, by decide +kernel, by decide +kernel⟩
theorem ok_word {f fD fP : Addr} {fd fdD fdP : FuncData} (F : Fun K "_law_word" "_law_word" s_law_word f fd) (B : Bt mg) (kD : PySem.W.keepIn K (.ref fD) = true) (bD : Binds K fdD ["source", "span"] []) (gD : mg "_law_draw" = some (.ref fD)) (GD : FnOk P w K mg base CX0 2 fD fdD ["source", "span"] spDraw)
    (kP : PySem.W.keepIn K (.ref fP) = true) (bP : Binds K fdP ["source", "things"] []) (gP : mg "_law_pick" = some (.ref fP)) (GP : FnOk P w K mg base CX0 2 fP fdP ["source", "things"] (spPickG K)) : FnOk P w K mg base CX0 3 f fd ["source"] (spWord K) := by
  refine F.ok sc_word (fun vs H Q E h => ?_) (fun cdv A outer s H vs Q E hr h => ?_)
  · obtain ⟨p, rfl, _⟩ := h
    rfl
  · obtain ⟨p, rfl, S, k⟩ := h
    refine ⟨_, pss_cons (ps_set (i := 1) sc_word.nd rfl (Or.inl rfl) pe_str)
      (pss_cons (ps_for PassesOwn.never rfl (pi_range1 (by rfl) B.range (pa_cons (pe_op op_add pe_int (pe_call GD hr (by rfl) gD kD bD .nil pass0 (pa_cons (pv 0) (pa_cons pe_int pa_nil)))) pa_nil)) (pg_name (i := 2) sc_word.nd rfl (Or.inl rfl))
        (pss_one (ps_set (i := 1) sc_word.nd rfl (Or.inl rfl) (pe_op op_add_str (pv 1) (pe_call GP hr (by rfl) gP kP bP .nil pass0 (pa_cons (pv 0) (pa_cons pe_str pa_nil)))))))
      (pss_one (ps_ret (pv 1)))), ?_⟩
    refine ⟨_, rfl, p, 8, rfl, S, by decide, by decide, fun r H1 r0 r1 S1 B1 => ⟨_, _, rfl, rfl, _, rfl, by omega, by omega, ?_⟩⟩
    refine for_range (lo := 0) (n := (1 + r).toNat) (fun t σ H' => ∃ (z : Str) (o : Option V), σ = [some (.ref p), some (.str z), o] ∧ Src H' p ∧ But p H H' ∧ z.cps.size = t ∧ ∀ c ∈ z.cps.toList, c ∈ alpha.cps.toList) ⟨"", none, rfl, S1, B1, rfl, fun c m => by cases m⟩ ?_ ?_
    · rintro t σ H' ht ⟨z, o, rfl, S2, B2, hz, hc⟩
      refine ⟨_, rfl, _, rfl, p, _, rfl, S2, .inr ⟨alpha, rfl, by decide, by decide, fun i c H3 hi S3 B3 => ?_⟩⟩
      have zl : z.length = z.cps.size := rfl
      refine ⟨z, ⟨#[c]⟩, rfl, rfl, sz_of (by show z.length + 1 ≤ 100000; omega), z ++ ⟨#[c]⟩, some (.int (0 + (t : Nat))), rfl, S3, B2.tr B3, ?_, fun c2 m => ?_⟩
      · show (z.cps ++ #[c]).size = t + 1
        rw [Array.size_append, hz]
        rfl
      · have m2 : c2 ∈ (z.cps ++ #[c]).toList := m
        rw [Array.toList_append, List.mem_append] at m2
        rcases m2 with m2 | m2
        · exact hc c2 m2
        · have e : c2 = c := by simpa using m2
          rw [e]
          exact List.mem_of_getElem? (by rw [Array.getElem?_toList]; exact hi)
    · rintro σ H' ⟨z, o, rfl, S2, B2, hz, hc⟩
      refine ⟨_, rfl, k z H' ?_ S2 B2⟩
      have zl : z.length = z.cps.size := rfl
      unfold nameS
      simp only [Bool.and_eq_true, decide_eq_true_eq, List.all_eq_true]
      exact ⟨⟨by omega, by omega⟩, hc⟩
end
end KW
namespace KW
open PySem PySem.Spec PyProof.Rows L2 Evl
/-- t == () -/
def rNilT (K : PySem.W.Frag) : R2 := fun x y H Q => ∃ a b xs, x = .ref a ∧ y = .ref b ∧ SqT K H a xs ∧ SqT K H b [] ∧ Q (.bl xs.isEmpty) H
theorem op_eqNilT {X : Cx} (hu : X.A.units < cLine) : OpR X (compareOp .Eq) (rNilT X.K) := by
  intro pins s σ H x y v u Q I rx ry ⟨a, b, xs, ex, ey, ha, hb, k⟩
  subst ex ey
  cases rx
  cases ry
  obtain ⟨its, r, pa, _⟩ := I.tuple ha
  obtain ⟨its2, r2, pb, _⟩ := I.tuple hb
  cases r2
  have q := SeqAt.RcAt.tuples (A := X.A) (e := fun _ => true) pa pb hu (fun j h1 h2 => absurd h2 (by simp))
  cases r with
  | nil => exact q _ _ _ _ ⟨.bl true, H, I, by rfl, k⟩
  | cons h t => exact q _ _ _ _ ⟨.bl false, H, I, by simp; rfl, k⟩
end KW
namespace KW
open PySem PySem.Spec PyProof.Rows L2 Evl
/-- x in t, data -/
def rInT (K : PySem.W.Frag) : R2 := fun x y H Q => ∃ d ds, Dq K H x d ∧ Dq K H y (.tuple ds) ∧ d.canLay0 = true ∧ PyData.canLayAll0 ds = true ∧ d.depth ≤ 50 ∧ Q (.bl (ds.any fun z => PyData.eqv z d)) H
theorem op_inT {X : Cx} (hu : X.A.units + 64 < cLine) : OpR X (compareOp .In) (rInT X.K) := by
  intro pins s σ H x y v u Q I rx ry ⟨d, ds, qd, qe, cd, ce, dp, k⟩
  obtain ⟨as, r1, _⟩ := qd.reads I rx
  obtain ⟨bs, r2, _⟩ := qe.reads I ry
  refine SeqAt.in_tuple_reads r2 r1 ce cd ?_ ⟨.bl _, H, I, rfl, k⟩
  omega
theorem find_mem {s : List (Str × Int)} (nd : (s.map (·.1)).Nodup) (x : Str) (l : Int) : decide ((s.find? fun p => decide (p.1 = x)).map (·.2) = some l) = decide ((x, l) ∈ s) := by
  rw [decide_eq_decide]
  induction s with
  | nil => simp
  | cons p s ih =>
    obtain ⟨y, i⟩ := p
    rw [List.map_cons, List.nodup_cons] at nd
    by_cases e : y = x
    · subst e
      rw [List.find?_cons_of_pos (by simp)]
      simp only [Option.map_some, Option.some.injEq, List.mem_cons, Prod.mk.injEq, true_and]
      constructor
      · intro z
        exact .inl z.symm
      · rintro (z | z)
        · exact z.symm
        · exact absurd (List.mem_map_of_mem (f := (·.1)) z) nd.1
    · rw [List.find?_cons_of_neg (by simpa using e), ih nd.2]
      simp only [List.mem_cons, Prod.mk.injEq]
      constructor
      · exact .inr
      · rintro (⟨z, _⟩ | z)
        · exact absurd z.symm e
        · exact z
theorem any_sign (s : List (Str × Int)) (x : Str) (l : Int) : ((s.map signD).any fun z => PyData.eqv z (.tuple [.str x, .int l])) = decide ((x, l) ∈ s) := by
  induction s with
  | nil => rfl
  | cons p s ih =>
    obtain ⟨y, i⟩ := p
    rw [List.map_cons, List.any_cons, ih]
    have e : PyData.eqv (signD (y, i)) (.tuple [.str x, .int l]) = (y == x && (i == l && true)) := by
      simp only [signD, PyData.eqv, PyData.eqvAll]
    rw [e, Bool.eq_iff_iff]
    simp only [Bool.or_eq_true, Bool.and_eq_true, beq_iff_eq, decide_eq_true_eq, List.mem_cons, Prod.mk.injEq, and_true]
    constructor
    · rintro (⟨h1, h2⟩ | h)
      · exact .inl ⟨h1.symm, h2.symm⟩
      · exact .inr h
    · rintro (⟨h1, h2⟩ | h)
      · exact .inl ⟨h1.symm, h2.symm⟩
      · exact .inr h
mutual
/-- how deep tuples stand in one another -/
def hgt : PyData → Nat
  | .tuple ds => 1 + hgts ds
  | _ => 0
def hgts : List PyData → Nat
  | [] => 0
  | d :: ds => max (hgt d) (hgts ds)
end
theorem hgt_mem : ∀ {ds : List PyData} {d : PyData}, d ∈ ds → hgt d ≤ hgts ds
  | e :: ds, d, m => by
    rw [hgts]
    rcases List.mem_cons.mp m with rfl | m
    · omega
    · have := hgt_mem m
      omega
section
variable {K : PySem.W.Frag} {σ : L2.St} {H : Hp} {te : TE} {tt : TT}
theorem eu_tail {p : Addr} {v : V} {xs : List V} (h : Ev te σ H (.ref p)) (hp : SqT K H p (v :: xs)) : EvU (tSl (rSlT K) te (tPart (tC (.int 1))) tNoPart) σ H xs := fun H1 e Q k =>
  h H1 e _ fun H2 e2 => ⟨1, rfl, by
    have sx : HT.sIx (v :: xs).length 0 (some 1) = 1 := by
      refine (HT.sIx_nat _ 0 1).trans ?_
      simp
    refine ⟨p, _, rfl, ex_t (e.trans e2) hp, (fun z => by rw [sx] at z; exact absurd z.1 (by decide)), fun t ht => ?_⟩
    have ec : cutV (v :: xs) (some 1) none = xs := by
      unfold cutV
      rw [sx]
      simp [HT.sIx]
    rw [ec]
    exact k t _ (fresh_back e2 ht) (e2.trans (Ex.new ht)) upd_same⟩
/-- a comprehension over a new tuple -/
theorem el_lcNT {xs : List V} {tl : TE} {j : Nat} {vs : List Nat} (f : Nat → Bool) (v : Nat → V) (h : EvU tl σ H xs) (hz : xs.length ≤ 40000) (hw : ∀ x, wipe ((wipe σ vs).set j (some x)) vs = wipe σ vs)
    (ht : ∀ (i : Nat) (x : V) H1, Ex H H1 → xs[i]? = some x → EvT tt ((wipe σ vs).set j (some x)) H1 (f i)) (he : ∀ (i : Nat) (x : V) H1, Ex H H1 → xs[i]? = some x → f i = true → Ev te ((wipe σ vs).set j (some x)) H1 (v i)) :
    EvL (tLc (iTup K tl) (gName j) tt te vs) σ H (given xs.length f v) := fun H0 e Q q => h H0 e _ fun a H1 ha e1 hx => ⟨a, rfl, ⟨xs, st_of hx⟩, fun D hD =>
  lcW walk_tup f v hD hz (fun H2 e2 => ex_t e2 (st_of hx)) (fun i x H2 H3 hi e2 ⟨e3, hc⟩ Q' k' => by
    subst e3
    exact k' _ _ (hw _) (Ex.refl _) (ht i x H3 ((e.trans e1).trans e2) hc) (he i x H3 ((e.trans e1).trans e2) hc)) fun H' e2 hq => q D H' (fresh_back e1 hD) (e1.trans e2) hq⟩
end
theorem given_empty {n : Nat} {f : Nat → Bool} {v : Nat → V} : (given n f v).isEmpty = (List.range n).all fun i => !f i := by
  unfold given
  rw [List.isEmpty_map, Bool.eq_iff_iff, List.isEmpty_iff, List.filter_eq_nil_iff, List.all_eq_true]
  simp
/-- a world as the law has it: (signs, more) -/
def wD (W : Wd) : PyData := .tuple [.tuple (W.signs.map signD), .bool W.more]
/-- what the law says of a tree -/
def spLT (K : PySem.W.Frag) (n : Nat) : Sp := fun vs H Q _ => ∃ u x W d, vs = [u, x] ∧ Dq K H u (wD W) ∧ W.Ok ∧ Dq K H x d ∧ Fit d ∧ hgt d < n ∧ ∀ H', Ex H H' → Q (.bl (isTreeD W d)) H'
theorem spLT_v {K : PySem.W.Frag} {n : Nat} {u x : V} {W : Wd} {d : PyData} {H : Hp} (hu : Dq K H u (wD W)) (ok : W.Ok) (q : Dq K H x d) (s : Fit d) (h : hgt d < n) : SpV (spLT K n) ([u, x] ++ []) H (.bl (isTreeD W d)) := fun H1 e Q k E => ⟨u, x, W, d, rfl, hu.ex e, ok, q.ex e, s, h, k⟩
theorem fn_none {P : Program} {w : World} {K : PySem.W.Frag} {mg : Str → Option Value} {base : Heap} {f : Addr} {fd : FuncData} {ps : List Str} {sp : Sp} {CX : CXT} (h : ∀ vs H Q E, sp vs H Q E → False) : FnOk P w K mg base CX 0 f fd ps sp :=
  ⟨fun vs H Q E z => (h vs H Q E z).elim, fun A outer s H args us vs Q E _ _ _ _ z => (h vs H Q E z).elim⟩
end KW
namespace KW
open PySem PySem.Spec PyProof.Rows L2 Evl
theorem tree_ne {W : Wd} {y : Str} {ds : List PyData} (h : y ≠ star) : isTreeD W (.tuple (.str y :: ds)) = (decide (W.num y = some (ds.length : Int)) && fitsDs W (isFurther W) ds) := by
  unfold isTreeD
  rw [fitsD]
  by_cases e : W.num y = some (ds.length : Int)
  · rw [if_pos e, decide_eq_true e, Bool.true_and]
  · rw [if_neg e, decide_eq_false e, Bool.false_and]
    by_cases l : (PyData.str y :: ds).length = 2
    · obtain ⟨a, b, eab⟩ := two_of l
      rw [eab]
      injection eab with e1 e2
      subst e1
      have : eqS (.str y) star = false := by
        show (y == star) = false
        exact beq_eq_false_iff_ne.mpr h
      show (W.more && (eqS (.str y) star && (isIntD b && ge0 b))) = false
      rw [this]
      simp
    · exact isFurther_len l
theorem tree_star {W : Wd} (ok : W.Ok) {ds : List PyData} : isTreeD W (.tuple (.str star :: ds)) = isFurther W (.tuple (.str star :: ds)) := by
  unfold isTreeD
  rw [fitsD, if_neg (by rw [num_star ok]; exact fun z => nomatch z)]
theorem tree_no {W : Wd} {d : PyData} (h : isD "tuple" d = false) : isTreeD W d = false := by
  cases d <;> first | rfl | cases h
theorem tree_no1 {W : Wd} {d : PyData} {ds : List PyData} (h : isD "str" d = false) : isTreeD W (.tuple (d :: ds)) = false := by
  have e : isTreeD W (.tuple (d :: ds)) = isFurther W (.tuple (d :: ds)) := by
    unfold isTreeD
    exact fitsD_leaf (hasSign_no1 h)
  rw [e]
  by_cases l : (d :: ds).length = 2
  · obtain ⟨a, b, eab⟩ := two_of l
    rw [eab]
    injection eab with e1 e2
    subst e1
    have : eqS d star = false := by cases d <;> first | rfl | cases h
    show (W.more && (eqS d star && (isIntD b && ge0 b))) = false
    rw [this]
    simp
  · exact isFurther_len l
theorem fitsDs_all {W : Wd} : ∀ ds : List PyData, fitsDs W (isFurther W) ds = (List.range ds.length).all fun i => !(!isTreeD W (ds.getD i .none))
  | [] => rfl
  | d :: ds => by
    rw [fitsDs, fitsDs_all ds, List.length_cons, List.range_succ_eq_map, List.all_cons, List.all_map]
    simp only [Bool.not_not]
    rfl
theorem names_nd {W : Wd} (ok : W.Ok) : (W.signs.map (·.1)).Nodup := by
  have := (areSigns_all ok.fit).2.1
  rwa [List.map_map] at this
section
variable {P : Program} {w : World} {K : PySem.W.Frag} {mg : Str → Option Value} {base : Heap}
theorem sc_lt : FnScope ["world", "thing", "one"] ["world", "thing"] (defScope s_law_is_tree) := ⟨rfl, rfl, rfl, by decide +kernel, rfl, by decide +kernel, by decide +kernel⟩
theorem ok_lt_step {f : Addr} {fd : FuncData} (F : Fun K "_law_is_tree" "_law_is_tree" s_law_is_tree f fd) (B : Bt mg) (b : Binds K fd ["world", "thing"] []) (g : mg "_law_is_tree" = some (.ref f)) (n : Nat) (G : FnOk P w K mg base CX0 n f fd ["world", "thing"] (spLT K n)) : FnOk P w K mg base CX0 (n + 1) f fd ["world", "thing"] (spLT K (n + 1)) := by
  refine F.ok sc_lt (fun vs H Q E h => ?_) (fun cdv A outer s H vs Q E hr h => ?_)
  · obtain ⟨u, x, W, d, rfl, _⟩ := h
    rfl
  · obtain ⟨u, x, W, d, rfl, qw, ok, q, s, hh, k⟩ := h
    have hu := hr.units
    have hu0 := hu_of hr
    refine ⟨_, pss_cons (ps_if (PW.pt (pw_or (pt_not (pt_val (pe_callB call_isD (by rfl) B.isinstance boot_isinstance (pa_cons (pv 1) (pa_cons (pe_tyN "tuple" (by rfl) B.tuple boot_tuple) pa_nil)))))
        (pw_or (pt_cmpR (op_eqNilT (Nat.lt_of_succ_lt hu0)) (pv 1) (pe_tup pa_nil) (nomark _))
        (pw_or1 (pt_not (pt_val (pe_callB call_isD (by rfl) B.isinstance boot_isinstance (pa_cons (pe_ix ix_tup (pv 1) pe_int (fun _ _ => rfl)) (pa_cons (pe_tyN "str" (by rfl) B.str boot_str) pa_nil))))))))) (pss_one (ps_ret pe_bl)) pss_nil)
      (pss_cons (ps_if (pt_cmpR op_eq (pe_ix ix_tup (pv 1) pe_int (fun _ _ => rfl)) pe_str (nomark _))
        (pss_cons (ps_if (PW.pt (pw_or (pt_not (pt_val (pe_ix ix_tup (pv 0) pe_int (fun _ _ => rfl)))) (pw_or1 (pt_cmpR op_ne (pe_callB call_len_seq (by rfl) B.len PySem.boot_len (pa_cons (pv 1) pa_nil)) pe_int (nomark _))))) (pss_one (ps_ret pe_bl)) pss_nil)
        (pss_one (ps_ret (pe_and (pe_callB call_isD (by rfl) B.isinstance boot_isinstance (pa_cons (pe_ix ix_tup (pv 1) pe_int (fun _ _ => rfl)) (pa_cons (pe_tyN "int" (by rfl) B.int boot_int) pa_nil)))
          (pe_and (pe_not (pe_callB call_isD (by rfl) B.isinstance boot_isinstance (pa_cons (pe_ix ix_tup (pv 1) pe_int (fun _ _ => rfl)) (pa_cons (pe_tyN "bool" (by rfl) B.bool boot_bool) pa_nil)))) (pe_one (pe_cmpR op_ge (pe_ix ix_tup (pv 1) pe_int (fun _ _ => rfl)) pe_int (nomark _)))))))) pss_nil)
      (pss_one (ps_ret (pe_and (pe_cmpR (op_inT hu) (pe_tup (pa_cons (pe_ix ix_tup (pv 1) pe_int (fun _ _ => rfl)) (pa_cons (pe_op op_sub (pe_callB call_len_seq (by rfl) B.len PySem.boot_len (pa_cons (pv 1) pa_nil)) pe_int) pa_nil))) (pe_ix ix_tup (pv 0) pe_int (fun _ _ => rfl)) rfl)
        (pe_one (pe_cmpR (op_eqNil (Nat.lt_of_succ_lt hu0)) (pe_lc (own := [("one", 2)]) (g := gName 2) (tt := tNot (tB (tCall (spLT K n) [] (fun _ _ _ => False) (tCons (tVar 0) (tCons (tVar 2) tNil))))) (te := tVar 2) rfl sc_lt.nd (pi_tup (pe_slice sl_tup (pv 1) (po_some pe_int) po_none)) (blkOk_by (N := ["world", "thing", "one"]) (sc := defScope s_law_is_tree) (by decide +kernel))
          (fun _ _ _ _ _ => pg_name (i := 2) sc_lt.nd rfl (Or.inl rfl)) (fun _ _ _ _ _ => by exact pts_one (pt_not (pt_val (pe_call G hr (by rfl) g F.kp b .nil pass0 (pa_cons (pv 0) (pa_cons (pv 2) pa_nil)))))) (fun _ _ _ _ _ => by exact pv 2)) (pe_lst pa_nil) (nomark _))))))), ?_⟩
    obtain ⟨wp, ws, rfl, hwp, qws⟩ := Dq.tuple qw
    obtain ⟨uv, mv, rfl, qs, qm⟩ := dqs_two qws
    cases qm
    have w0 : atI [uv, V.bl W.more] 0 = some uv := atI_nat (j := 0) rfl
    have w1 : atI [uv, V.bl W.more] 1 = some (V.bl W.more) := atI_nat (j := 1) rfl
    cases ht : isD "tuple" d with
    | false =>
      rw [tree_no ht] at k
      refine q_when (b := true) (et_is (et_or (et_not (et_B (ev_isD (ev_var rfl) q))) (b := true) fun z => ?_) (by rw [ht]; rfl)) (fun _ H1 e => ?_) (fun z => nomatch z)
      · rw [ht] at z
        cases z
      · exact s_ret ev_c fun H2 e2 => k H2 (e.trans e2)
    | true =>
      obtain ⟨ds, rfl⟩ := signD_tuple ht
      obtain ⟨p, xs, rfl, hp, qx⟩ := Dq.tuple q
      have hl := qx.len
      have nilE : ∀ {H1}, Ex H H1 → Ev (tOp (rNilT K) (tVar 1) (tTup tNil)) (start ["world", "thing", "one"] [.ref wp, .ref p]) H1 (.bl xs.isEmpty) := fun e => ev_opU (ev_var rfl) (eu_tup ea_nil (by decide)) fun b H2 hb e2 H3 e3 Q k => ⟨p, b, xs, rfl, rfl, ex_t ((e.trans e2).trans e3) hp, st_of (e3 _ _ hb), k H3 (Ex.refl _)⟩
      match xs, ds, qx, hl with
      | [], [], _, _ =>
        have e0 : isTreeD W (.tuple []) = false := rfl
        rw [e0] at k
        refine q_when (b := true) (et_is (et_or (et_not (et_B (ev_isD (ev_var rfl) q))) fun _ => et_or (a := true) (b := true) (et_test (nilE (Ex.refl _))) fun z => nomatch z) (by rw [ht]; rfl)) (fun _ H1 e => ?_) (fun z => nomatch z)
        exact s_ret ev_c fun H2 e2 => k H2 (e.trans e2)
      | v0 :: vs, d0 :: ds, .cons q0 qx, hl =>
        have at0 : atI (v0 :: vs) 0 = some v0 := atI_nat (j := 0) rfl
        refine q_when (b := !isD "str" d0) (et_is (et_or (et_not (et_B (ev_isD (ev_var rfl) q))) fun _ => et_or (a := false) (et_test (nilE (Ex.refl _))) fun _ => et_not (et_B (ev_isD (ev_ixT (i := 0) (ev_var rfl) ev_c hp at0) q0))) (by rw [ht]; rfl)) (fun c H1 e => ?_) (fun c H1 e => ?_)
        · rw [tree_no1 (by simpa only [Bool.not_eq_true'] using c)] at k
          exact s_ret ev_c fun H2 e2 => k H2 (e.trans e2)
        · obtain ⟨y, rfl, rfl⟩ := dq_str q0 (by simpa only [Bool.not_eq_false'] using c)
          have fa := (fit_tuple s).2
          have hp1 := ex_t e hp
          have hw1 := ex_t e hwp
          refine q_when (b := decide (V.str y = V.str star)) (et_test (ev_op (ev_ixT (i := 0) (ev_var rfl) ev_c hp1 at0) ev_c (rv_eq rfl))) (fun cy H2 e2 => ?_) fun cy H2 e2 => ?_
          · have ey : y = star := by
              have := of_decide_eq_true cy
              injection this
            subst ey
            rw [tree_star ok] at k
            have e12 := e.trans e2
            have hp2 := ex_t e12 hp
            have hw2 := ex_t e12 hwp
            cases hm : W.more with
            | false =>
              rw [isFurther_more hm] at k
              rw [hm] at w1
              refine q_when (b := true) (et_or (a := true) (b := true) (et_not (a := false) (et_B (ev_ixT (i := 1) (ev_var rfl) ev_c (hm ▸ hw2) w1))) fun z => nomatch z) (fun _ H3 e3 => ?_) (fun z => nomatch z)
              exact s_ret ev_c fun H4 e4 => k H4 ((e12.trans e3).trans e4)
            | true =>
              rw [hm] at w1
              refine q_when (b := !decide (V.int ((V.str star :: vs).length : Nat) = .int 2)) (et_or (a := false) (et_not (a := true) (et_B (ev_ixT (i := 1) (ev_var rfl) ev_c (hm ▸ hw2) w1))) fun _ => et_test (ev_op (ev_lenT (ev_var rfl) hp2) ev_c (rv_ne rfl))) (fun c3 H3 e3 => ?_) fun c3 H3 e3 => ?_
              · have ne : (PyData.str star :: ds).length ≠ 2 := by
                  intro z
                  rw [hl, z] at c3
                  cases c3
                rw [isFurther_len ne] at k
                exact s_ret ev_c fun H4 e4 => k H4 ((e12.trans e3).trans e4)
              · have l2 : (PyData.str star :: ds).length = 2 := by
                  have := of_decide_eq_true (by simpa only [Bool.not_eq_false'] using c3 : decide (V.int ((V.str star :: vs).length : Nat) = .int 2) = true)
                  injection this with this
                  omega
                obtain ⟨b1, rfl⟩ : ∃ b1, ds = [b1] := by
                  cases ds with
                  | nil => cases l2
                  | cons b ds =>
                    cases ds with
                    | nil => exact ⟨b, rfl⟩
                    | cons _ _ => simp at l2
                obtain ⟨v1, rfl, qb⟩ : ∃ v1, vs = [v1] ∧ Dq K H v1 b1 := by
                  cases qx with
                  | cons qb q2 =>
                    cases q2
                    exact ⟨_, rfl, qb⟩
                have at1 : atI [V.str star, v1] 1 = some v1 := atI_nat (j := 1) rfl
                have e123 := e12.trans e3
                have hp3 := ex_t e123 hp
                have ef : isFurther W (.tuple [.str star, b1]) = (isD "int" b1 && (!isD "bool" b1 && ge0 b1)) := by
                  show (W.more && (eqS (.str star) star && ((isD "int" b1 && !isD "bool" b1) && ge0 b1))) = _
                  rw [hm, show eqS (.str star) star = true from beq_self_eq_true star, Bool.true_and, Bool.true_and, Bool.and_assoc]
                rw [ef] at k
                refine s_ret (ev_andV (ev_isD (ev_ixT (i := 1) (ev_var rfl) ev_c hp3 at1) (qb.ex e123)) fun i1 => ev_andV (ev_notV (ev_isD (ev_ixT (i := 1) (ev_var rfl) ev_c hp3 at1) (qb.ex e123))) fun i2 => ?_) fun H4 e4 => k H4 (e123.trans e4)
                obtain ⟨i, rfl, rfl⟩ := int_of qb (by unfold isIntD; rw [i1, i2]; rfl)
                exact ev_op (ev_ixT (i := 1) (ev_var rfl) ev_c hp3 at1) ev_c rv_I0
          · have ny : y ≠ star := fun z => by rw [z] at cy; simp at cy
            rw [tree_ne ny, fitsDs_all] at k
            have e12 := e.trans e2
            have hp2 := ex_t e12 hp
            have hw2 := ex_t e12 hwp
            have lv : vs.length = ds.length := qx.len
            have lens : vs.length ≤ 40000 := by
              have := (fit_tuple s).1
              rw [List.length_cons] at this
              omega
            obtain ⟨hall, _, _, _, _⟩ := areSigns_all ok.fit
            have inE : Ev (tOp (rInT K) (tTup (tCons (tOp (rIxT K) (tVar 1) (tC (.int 0))) (tCons (tOp (rI0 fun i j => .int (i - j)) (tCB (rLenS K) (tCons (tVar 1) tNil)) (tC (.int 1))) tNil))) (tOp (rIxT K) (tVar 0) (tC (.int 0)))) (start ["world", "thing", "one"] [.ref wp, .ref p]) H2 (.bl (decide (W.num y = some (ds.length : Int)))) := by
              intro H3 e3 Q3 k3
              refine eu_tup (ea_cons (ev_ixT (i := 0) (ev_var rfl) ev_c hp2 at0) (ea_cons (ev_op (ev_lenT (ev_var rfl) hp2) ev_c rv_I0) ea_nil)) (by show 2 ≤ 100000; decide) H3 e3 _ fun t H4 ht e4 h4 => ?_
              refine ev_ixT (i := 0) (ev_var rfl) ev_c (ex_t (e3.trans e4) hw2) w0 H4 (Ex.refl _) _ fun H5 e5 => ?_
              have e' : (((V.str y :: vs).length : Nat) : Int) - 1 = (ds.length : Int) := by
                rw [List.length_cons]
                omega
              refine ⟨.tuple [.str y, .int (ds.length : Int)], W.signs.map signD, .tup (st_of (by rw [e5 _ _ h4, e'])) (.cons (.str y) (.cons (.int _) .nil)), qs.ex ((e12.trans e3).trans (e4.trans e5)), ?_, signs_lay hall, ?_, ?_⟩
              · simp [PyData.canLay0, PyData.canLayAll0, fit_ok (fa (.str y) (by simp))]
              · simp only [PyData.depth, PyData.depthAll]
                omega
              · rw [any_sign, ← find_mem (names_nd ok)]
                exact k3 H5 (e4.trans e5)
            have comp : EvL (tLc (iTup K (tSl (rSlT K) (tVar 1) (tPart (tC (.int 1))) tNoPart)) (gName 2) (tNot (tB (tCall (spLT K n) [] (fun _ _ _ => False) (tCons (tVar 0) (tCons (tVar 2) tNil))))) (tVar 2) [2]) (start ["world", "thing", "one"] [.ref wp, .ref p]) H2 (given vs.length (fun i => !isTreeD W (ds.getD i .none)) (fun i => vs.getD i .non)) := by
              refine el_lcNT _ _ (eu_tail (ev_var rfl) hp2) lens (fun _ => rfl) (fun i x H3 e3 hx => ?_) fun i x H3 e3 hx _ => ?_
              · obtain ⟨dn, hdn, qn⟩ := qx.get i x hx
                have g1 : ds.getD i .none = dn := by rw [List.getD_eq_getElem?_getD, hdn]; rfl
                rw [g1]
                have mem : dn ∈ ds := List.mem_of_getElem? hdn
                have hg : hgt dn < n := by
                  have h1 := hgt_mem (List.mem_cons_of_mem (.str y) mem)
                  have h2 : hgt (.tuple (.str y :: ds)) = 1 + hgts (.str y :: ds) := by rw [hgt]
                  omega
                exact et_not (et_B (ev_call (ea_cons (ev_var rfl) (ea_cons (ev_var rfl) ea_nil)) (spLT_v (qw.ex (e12.trans e3)) ok (qn.ex (e12.trans e3)) (fa dn (List.mem_cons_of_mem _ mem)) hg)))
              · have g2 : vs.getD i .non = x := by rw [List.getD_eq_getElem?_getD, hx]; rfl
                rw [g2]
                exact ev_var rfl
            refine s_ret (ev_is (ev_andV inE fun _ => ev_opLL comp (el_lst ea_nil (by decide)) (z := .bl (given vs.length (fun i => !isTreeD W (ds.getD i .none)) (fun i => vs.getD i .non)).isEmpty) fun p1 q1 H5 h5 h6 e5 H6 e6 Q k => ⟨p1, q1, _, rfl, rfl, sq_of (e6 _ _ h5), sq_of (e6 _ _ h6), k H6 (Ex.refl _)⟩) ?_) fun H4 e4 => k H4 (e12.trans e4)
            rw [given_empty, lv]
/-- the law's own reading of a tree, so deep as there is room -/
theorem ok_lt {f : Addr} {fd : FuncData} (F : Fun K "_law_is_tree" "_law_is_tree" s_law_is_tree f fd) (B : Bt mg) (b : Binds K fd ["world", "thing"] []) (g : mg "_law_is_tree" = some (.ref f)) : ∀ n, FnOk P w K mg base CX0 n f fd ["world", "thing"] (spLT K n)
  | 0 => fn_none fun vs H Q E ⟨_, _, _, _, _, _, _, _, _, h, _⟩ => Nat.not_lt_zero _ h
  | n + 1 => ok_lt_step F B b g n (ok_lt F B b g n)
end
end KW
namespace KW
open PySem PySem.Spec PyProof.Rows L2 Evl
theorem az (c : Nat) : (!decide (([c] : List Nat) < [97]) && !decide (([122] : List Nat) < [c])) = decide (c ∈ alpha.cps.toList) := by
  have e1 : decide (([c] : List Nat) < [97]) = decide (c < 97) := by
    rw [decide_eq_decide]
    constructor
    · intro h
      cases h with
      | rel h => exact h
      | cons h => cases h
    · intro h
      exact .rel h
  have e2 : decide (([122] : List Nat) < [c]) = decide (122 < c) := by
    rw [decide_eq_decide]
    constructor
    · intro h
      cases h with
      | rel h => exact h
      | cons h => cases h
    · intro h
      exact .rel h
  rw [e1, e2]
  by_cases h : c < 123
  · have all : ∀ c, c < 123 → (!decide (c < 97) && !decide (122 < c)) = decide (c ∈ alpha.cps.toList) := by decide +kernel
    exact all c h
  · have : c ∉ alpha.cps.toList := fun m => by
      have all : ∀ c ∈ alpha.cps.toList, c < 123 := by decide +kernel
      exact h (all c m)
    rw [decide_eq_false this]
    simp
    omega
/-- what the law says of a form; of what is no tuple, in any world -/
def spLF (K : PySem.W.Frag) (n : Nat) : Sp := fun vs H Q _ => ∃ u x d, vs = [u, x] ∧ Dq K H x d ∧ Fit d ∧ hgt d < n ∧ ((∃ W, Dq K H u (wD W) ∧ W.Ok ∧ ∀ H', Ex H H' → Q (.bl (isFormD W d)) H') ∨ (isD "tuple" d = false ∧ ∀ H', Ex H H' → Q (.bl (eqS d "_" || isNameD d)) H'))
theorem spLF_v {K : PySem.W.Frag} {n : Nat} {u x : V} {W : Wd} {d : PyData} {H : Hp} (hu : Dq K H u (wD W)) (ok : W.Ok) (q : Dq K H x d) (s : Fit d) (h : hgt d < n) : SpV (spLF K n) ([u, x] ++ []) H (.bl (isFormD W d)) := fun H1 e Q k E => ⟨u, x, d, rfl, q.ex e, s, h, .inl ⟨W, hu.ex e, ok, k⟩⟩
theorem form_ne {W : Wd} {y : Str} {ds : List PyData} (h : y ≠ star) : isFormD W (.tuple (.str y :: ds)) = (decide (W.num y = some (ds.length : Int)) && fitsDs W (isOpen W) ds) := by
  unfold isFormD
  rw [fitsD]
  by_cases e : W.num y = some (ds.length : Int)
  · rw [if_pos e, decide_eq_true e, Bool.true_and]
  · rw [if_neg e, decide_eq_false e, Bool.false_and]
    by_cases l : (PyData.str y :: ds).length = 1
    · cases ds with
      | nil =>
        have : eqS (.str y) star = false := by
          show (y == star) = false
          exact beq_eq_false_iff_ne.mpr h
        show (W.more && eqS (.str y) star) = false
        rw [this]
        simp
      | cons a b => simp at l
    · exact isOpen_len l
theorem form_star {W : Wd} (ok : W.Ok) {ds : List PyData} : isFormD W (.tuple (.str star :: ds)) = (W.more && decide (V.int ((ds.length + 1 : Nat) : Int) = .int 1)) := by
  unfold isFormD
  rw [fitsD, if_neg (by rw [num_star ok]; exact fun z => nomatch z)]
  cases ds with
  | nil =>
    show (W.more && eqS (.str star) star) = _
    rw [show eqS (.str star) star = true from beq_self_eq_true star]
    congr 1
  | cons a b =>
    rw [isOpen_len (by simp)]
    have : decide (V.int (((a :: b).length + 1 : Nat) : Int) = V.int 1) = false := by
      refine decide_eq_false fun z => ?_
      injection z with z
      rw [List.length_cons] at z
      omega
    rw [this, Bool.and_false]
theorem form_no {W : Wd} {d : PyData} (h : isD "tuple" d = false) : isFormD W d = (eqS d "_" || isNameD d) := by
  rw [← isOpen_no (W := W) h]
  unfold isFormD
  exact fitsD_leaf (hasSign_no h)
theorem form_no1 {W : Wd} {d : PyData} {ds : List PyData} (h : isD "str" d = false) : isFormD W (.tuple (d :: ds)) = false := by
  have e : isFormD W (.tuple (d :: ds)) = isOpen W (.tuple (d :: ds)) := by
    unfold isFormD
    exact fitsD_leaf (hasSign_no1 h)
  rw [e]
  by_cases l : (d :: ds).length = 1
  · cases ds with
    | nil =>
      have : eqS d star = false := by cases d <;> first | rfl | cases h
      show (W.more && eqS d star) = false
      rw [this]
      simp
    | cons a b => simp at l
  · exact isOpen_len l
theorem fitsDs_allF {W : Wd} : ∀ ds : List PyData, fitsDs W (isOpen W) ds = (List.range ds.length).all fun i => !(!isFormD W (ds.getD i .none))
  | [] => rfl
  | d :: ds => by
    rw [fitsDs, fitsDs_allF ds, List.length_cons, List.range_succ_eq_map, List.all_cons, List.all_map]
    simp only [Bool.not_not]
    rfl
end KW
namespace KW
open PySem PySem.Spec PyProof.Rows L2 Evl
theorem range_all (z : Str) (p : Nat → Bool) : ((List.range z.cps.size).all fun i => p (z.cps.getD i 0)) = z.cps.toList.all p := by
  have e : (List.range z.cps.size).map (fun i => z.cps.getD i 0) = z.cps.toList := by
    apply List.ext_getElem?
    intro i
    simp only [List.getElem?_map, List.getElem?_range]
    by_cases h : i < z.cps.size
    · simp [h, Array.getD_eq_getD_getElem?]
    · simp [h]
  rw [← e, List.all_map]
  rfl
section
variable {P : Program} {w : World} {K : PySem.W.Frag} {mg : Str → Option Value} {base : Heap}
theorem sc_lf : FnScope ["world", "thing", "sign", "one"] ["world", "thing"] (defScope s_law_is_form) := ⟨rfl, rfl, rfl, by decide +kernel, rfl, by decide +kernel, by decide +kernel⟩
theorem ok_lf_step {f : Addr} {fd : FuncData} (F : Fun K "_law_is_form" "_law_is_form" s_law_is_form f fd) (B : Bt mg) (b : Binds K fd ["world", "thing"] []) (g : mg "_law_is_form" = some (.ref f)) (n : Nat) (G : FnOk P w K mg base CX0 n f fd ["world", "thing"] (spLF K n)) : FnOk P w K mg base CX0 (n + 1) f fd ["world", "thing"] (spLF K (n + 1)) := by
  refine F.ok sc_lf (fun vs H Q E h => ?_) (fun cdv A outer s H vs Q E hr h => ?_)
  · obtain ⟨u, x, d, rfl, _⟩ := h
    rfl
  · obtain ⟨u, x, d, rfl, q, s, hh, h⟩ := h
    have hu := hr.units
    have hu0 := hu_of hr
    refine ⟨_, pss_cons (ps_if (pt_val (pe_callB call_isD (by rfl) B.isinstance boot_isinstance (pa_cons (pv 1) (pa_cons (pe_tyN "str" (by rfl) B.str boot_str) pa_nil))))
        (pss_one (ps_ret (pe_or (pe_cmpR (op_eqS (Nat.lt_of_succ_lt hu0)) (pv 1) pe_str (nomark _)) (pe_one (pe_and (pe_chain op_le op_le pe_int (pe_callB call_len_str (by rfl) B.len PySem.boot_len (pa_cons (pv 1) pa_nil)) pe_int)
          (pe_one (pe_cmpR (op_eqNil (Nat.lt_of_succ_lt hu0)) (pe_lc (own := [("sign", 2)]) (g := gName 2) (tt := tNot (tTest (tChain (fun x y H Q => ∃ i j, x = .str i ∧ y = .str j ∧ Q (.bl (!decide (j.cps.toList < i.cps.toList))) H) (fun x y H Q => ∃ i j, x = .str i ∧ y = .str j ∧ Q (.bl (!decide (j.cps.toList < i.cps.toList))) H) (tC (.str "a")) (tVar 2) (tC (.str "z"))))) (te := tVar 2) rfl sc_lf.nd (pi_str (pv 1)) (blkOk_by (N := ["world", "thing", "sign", "one"]) (sc := defScope s_law_is_form) (by decide +kernel))
            (fun _ _ _ _ _ => pg_name (i := 2) sc_lf.nd rfl (Or.inl rfl)) (fun _ _ _ _ _ => by exact pts_one (pt_not (pt_chain op_le_str op_le_str pe_str (pv 2) pe_str))) (fun _ _ _ _ _ => by exact pv 2)) (pe_lst pa_nil) (nomark _)))))))) pss_nil)
      (pss_cons (ps_if (PW.pt (pw_or (pt_not (pt_val (pe_callB call_isD (by rfl) B.isinstance boot_isinstance (pa_cons (pv 1) (pa_cons (pe_tyN "tuple" (by rfl) B.tuple boot_tuple) pa_nil)))))
        (pw_or (pt_cmpR (op_eqNilT (Nat.lt_of_succ_lt hu0)) (pv 1) (pe_tup pa_nil) (nomark _))
        (pw_or1 (pt_not (pt_val (pe_callB call_isD (by rfl) B.isinstance boot_isinstance (pa_cons (pe_ix ix_tup (pv 1) pe_int (fun _ _ => rfl)) (pa_cons (pe_tyN "str" (by rfl) B.str boot_str) pa_nil))))))))) (pss_one (ps_ret pe_bl)) pss_nil)
      (pss_cons (ps_if (pt_cmpR op_eq (pe_ix ix_tup (pv 1) pe_int (fun _ _ => rfl)) pe_str (nomark _))
        (pss_one (ps_ret (pe_and (pe_ix ix_tup (pv 0) pe_int (fun _ _ => rfl)) (pe_one (pe_cmpR op_eq (pe_callB call_len_seq (by rfl) B.len PySem.boot_len (pa_cons (pv 1) pa_nil)) pe_int (nomark _)))))) pss_nil)
      (pss_one (ps_ret (pe_and (pe_cmpR (op_inT hu) (pe_tup (pa_cons (pe_ix ix_tup (pv 1) pe_int (fun _ _ => rfl)) (pa_cons (pe_op op_sub (pe_callB call_len_seq (by rfl) B.len PySem.boot_len (pa_cons (pv 1) pa_nil)) pe_int) pa_nil))) (pe_ix ix_tup (pv 0) pe_int (fun _ _ => rfl)) rfl)
        (pe_one (pe_cmpR (op_eqNil (Nat.lt_of_succ_lt hu0)) (pe_lc (own := [("one", 3)]) (g := gName 3) (tt := tNot (tB (tCall (spLF K n) [] (fun _ _ _ => False) (tCons (tVar 0) (tCons (tVar 3) tNil))))) (te := tVar 3) rfl sc_lf.nd (pi_tup (pe_slice sl_tup (pv 1) (po_some pe_int) po_none)) (blkOk_by (N := ["world", "thing", "sign", "one"]) (sc := defScope s_law_is_form) (by decide +kernel))
          (fun _ _ _ _ _ => pg_name (i := 3) sc_lf.nd rfl (Or.inl rfl)) (fun _ _ _ _ _ => by exact pts_one (pt_not (pt_val (pe_call G hr (by rfl) g F.kp b .nil pass0 (pa_cons (pv 0) (pa_cons (pv 3) pa_nil)))))) (fun _ _ _ _ _ => by exact pv 3)) (pe_lst pa_nil) (nomark _)))))))), ?_⟩
    refine q_when (b := isD "str" d) (et_B (ev_isD (ev_var rfl) q)) (fun hs H1 e => ?_) fun hs H1 e => ?_
    · obtain ⟨z, rfl, rfl⟩ := dq_str q hs
      have kk : ∀ H', Ex H H' → Q (.bl (eqS (.str z) "_" || nameS z)) H' := by
        rcases h with ⟨W, _, _, k⟩ | ⟨_, k⟩
        · have : isFormD W (.str z) = (eqS (.str z) "_" || nameS z) := form_no rfl
          rw [this] at k
          exact k
        · exact k
      have hz : z.length ≤ 100000 := fit_str s
      have lenE : Ev (tCB (fun xs H Q => ∃ z, xs = [.str z] ∧ z.length ≤ sizeLine ∧ Q (.int z.length) H) (tCons (tVar 1) tNil)) (start ["world", "thing", "sign", "one"] [u, .str z]) H1 (.int z.length) := fun H1 e Q k => ⟨_, rfl, z, rfl, sz_of hz, k H1 (Ex.refl _)⟩
      refine s_ret (ev_is (ev_orV (ev_eqS (ev_var rfl) ev_c (.str z)) fun _ => ev_andV (b := z.cps.toList.all fun c => decide (c ∈ alpha.cps.toList)) (ev_chain ev_c lenE ev_c rv_I0 rv_I0) fun hlen => ?_) rfl) fun H2 e2 => kk H2 (e.trans e2)
      have hl : z.cps.size ≤ 40000 := by
        have : z.length = z.cps.size := rfl
        simp at hlen
        omega
      have comp : EvL (tLc (iStr (tVar 1)) (gName 2) (tNot (tTest (tChain (fun x y H Q => ∃ i j, x = .str i ∧ y = .str j ∧ Q (.bl (!decide (j.cps.toList < i.cps.toList))) H) (fun x y H Q => ∃ i j, x = .str i ∧ y = .str j ∧ Q (.bl (!decide (j.cps.toList < i.cps.toList))) H) (tC (.str "a")) (tVar 2) (tC (.str "z"))))) (tVar 2) [2]) (start ["world", "thing", "sign", "one"] [u, .str z]) H1 (given z.cps.size (fun i => !decide (z.cps.getD i 0 ∈ alpha.cps.toList)) (fun i => .str ⟨#[z.cps.getD i 0]⟩)) := by
        refine el_lcS _ _ (ev_var rfl) hl (fun _ => rfl) (fun i c H3 e3 hc => ?_) fun i c H3 e3 hc _ => ?_
        · have g1 : z.cps.getD i 0 = c := by rw [Array.getD_eq_getD_getElem?, hc]; rfl
          rw [g1, ← az c]
          exact et_not (et_test (ev_chain ev_c (ev_var rfl) ev_c (fun H1 e Q k => ⟨_, _, rfl, rfl, k H1 (Ex.refl _)⟩) (fun H1 e Q k => ⟨_, _, rfl, rfl, k H1 (Ex.refl _)⟩)))
        · have g1 : z.cps.getD i 0 = c := by rw [Array.getD_eq_getD_getElem?, hc]; rfl
          rw [g1]
          exact ev_var rfl
      refine ev_is (ev_opLL comp (el_lst ea_nil (by decide)) (z := .bl (given z.cps.size (fun i => !decide (z.cps.getD i 0 ∈ alpha.cps.toList)) (fun i => .str ⟨#[z.cps.getD i 0]⟩)).isEmpty) fun p1 q1 H5 h5 h6 e5 H6 e6 Q k => ⟨p1, q1, _, rfl, rfl, sq_of (e6 _ _ h5), sq_of (e6 _ _ h6), k H6 (Ex.refl _)⟩) ?_
      rw [given_empty]
      simp only [Bool.not_not]
      rw [range_all z fun c => decide (c ∈ alpha.cps.toList)]
    · rcases h with ⟨W, qw, ok, k⟩ | ⟨nt, k⟩
      case inr =>
        have e0 : (eqS d "_" || isNameD d) = false := by cases d <;> first | rfl | cases hs
        rw [e0] at k
        refine q_when (b := true) (et_is (et_or (et_not (et_B (ev_isD (ev_var rfl) (q.ex e)))) (b := true) fun z => ?_) (by rw [nt]; rfl)) (fun _ H2 e2 => ?_) (fun z => nomatch z)
        · rw [nt] at z
          cases z
        · exact s_ret ev_c fun H3 e3 => k H3 ((e.trans e2).trans e3)
      obtain ⟨wp, ws, rfl, hwp, qws⟩ := Dq.tuple qw
      obtain ⟨uv, mv, rfl, qs, qm⟩ := dqs_two qws
      cases qm
      have w0 : atI [uv, V.bl W.more] 0 = some uv := atI_nat (j := 0) rfl
      have w1 : atI [uv, V.bl W.more] 1 = some (V.bl W.more) := atI_nat (j := 1) rfl
      cases ht : isD "tuple" d with
      | false =>
        have e0 : isFormD W d = false := by
          rw [form_no ht]
          cases d <;> first | rfl | cases hs
        rw [e0] at k
        refine q_when (b := true) (et_is (et_or (et_not (et_B (ev_isD (ev_var rfl) (q.ex e)))) (b := true) fun z => ?_) (by rw [ht]; rfl)) (fun _ H2 e2 => ?_) (fun z => nomatch z)
        · rw [ht] at z
          cases z
        · exact s_ret ev_c fun H3 e3 => k H3 ((e.trans e2).trans e3)
      | true =>
        obtain ⟨ds, rfl⟩ := signD_tuple ht
        obtain ⟨p, xs, rfl, hp, qx⟩ := Dq.tuple q
        have hl := qx.len
        have nilE : ∀ {H2}, Ex H H2 → Ev (tOp (rNilT K) (tVar 1) (tTup tNil)) (start ["world", "thing", "sign", "one"] [.ref wp, .ref p]) H2 (.bl xs.isEmpty) := fun e => ev_opU (ev_var rfl) (eu_tup ea_nil (by decide)) fun b H2 hb e2 H3 e3 Q k => ⟨p, b, xs, rfl, rfl, ex_t ((e.trans e2).trans e3) hp, st_of (e3 _ _ hb), k H3 (Ex.refl _)⟩
        match xs, ds, qx, hl with
        | [], [], _, _ =>
          have e0 : isFormD W (.tuple []) = false := rfl
          rw [e0] at k
          refine q_when (b := true) (et_is (et_or (et_not (et_B (ev_isD (ev_var rfl) (q.ex e)))) fun _ => et_or (a := true) (b := true) (et_test (nilE e)) fun z => nomatch z) (by rw [ht]; rfl)) (fun _ H2 e2 => ?_) (fun z => nomatch z)
          exact s_ret ev_c fun H3 e3 => k H3 ((e.trans e2).trans e3)
        | v0 :: vs, d0 :: ds, .cons q0 qx, hl =>
          have at0 : atI (v0 :: vs) 0 = some v0 := atI_nat (j := 0) rfl
          refine q_when (b := !isD "str" d0) (et_is (et_or (et_not (et_B (ev_isD (ev_var rfl) (q.ex e)))) fun _ => et_or (a := false) (et_test (nilE e)) fun _ => et_not (et_B (ev_isD (ev_ixT (i := 0) (ev_var rfl) ev_c (ex_t e hp) at0) (q0.ex e)))) (by rw [ht]; rfl)) (fun c H2 e2 => ?_) (fun c H2 e2 => ?_)
          · rw [form_no1 (by simpa only [Bool.not_eq_true'] using c)] at k
            exact s_ret ev_c fun H3 e3 => k H3 ((e.trans e2).trans e3)
          · obtain ⟨y, rfl, rfl⟩ := dq_str q0 (by simpa only [Bool.not_eq_false'] using c)
            have fa := (fit_tuple s).2
            have e12 := e.trans e2
            refine q_when (b := decide (V.str y = V.str star)) (et_test (ev_op (ev_ixT (i := 0) (ev_var rfl) ev_c (ex_t e12 hp) at0) ev_c (rv_eq rfl))) (fun cy H3 e3 => ?_) fun cy H3 e3 => ?_
            · have ey : y = star := by
                have := of_decide_eq_true cy
                injection this
              subst ey
              rw [form_star ok] at k
              have e123 := e12.trans e3
              refine s_ret (ev_is (ev_andV (ev_ixT (i := 1) (ev_var rfl) ev_c (ex_t e123 hwp) w1) fun _ => ev_op (ev_lenT (ev_var rfl) (ex_t e123 hp)) ev_c (rv_eq rfl)) ?_) fun H4 e4 => k H4 (e123.trans e4)
              have : (V.str star :: vs).length = ds.length + 1 := by rw [hl]; rfl
              rw [this]
            · have ny : y ≠ star := fun z => by rw [z] at cy; simp at cy
              rw [form_ne ny, fitsDs_allF] at k
              have e123 := e12.trans e3
              have hp2 := ex_t e123 hp
              have hw2 := ex_t e123 hwp
              have lv : vs.length = ds.length := qx.len
              have lens : vs.length ≤ 40000 := by
                have := (fit_tuple s).1
                rw [List.length_cons] at this
                omega
              obtain ⟨hall, _, _, _, _⟩ := areSigns_all ok.fit
              have inE : Ev (tOp (rInT K) (tTup (tCons (tOp (rIxT K) (tVar 1) (tC (.int 0))) (tCons (tOp (rI0 fun i j => .int (i - j)) (tCB (rLenS K) (tCons (tVar 1) tNil)) (tC (.int 1))) tNil))) (tOp (rIxT K) (tVar 0) (tC (.int 0)))) (start ["world", "thing", "sign", "one"] [.ref wp, .ref p]) H3 (.bl (decide (W.num y = some (ds.length : Int)))) := by
                intro H5 e5 Q3 k3
                refine eu_tup (ea_cons (ev_ixT (i := 0) (ev_var rfl) ev_c hp2 at0) (ea_cons (ev_op (ev_lenT (ev_var rfl) hp2) ev_c rv_I0) ea_nil)) (by show 2 ≤ 100000; decide) H5 e5 _ fun t H6 ht e6 h6 => ?_
                refine ev_ixT (i := 0) (ev_var rfl) ev_c (ex_t (e5.trans e6) hw2) w0 H6 (Ex.refl _) _ fun H7 e7 => ?_
                have e' : (((V.str y :: vs).length : Nat) : Int) - 1 = (ds.length : Int) := by
                  rw [List.length_cons]
                  omega
                refine ⟨.tuple [.str y, .int (ds.length : Int)], W.signs.map signD, .tup (st_of (by rw [e7 _ _ h6, e'])) (.cons (.str y) (.cons (.int _) .nil)), qs.ex ((e123.trans e5).trans (e6.trans e7)), ?_, signs_lay hall, ?_, ?_⟩
                · simp [PyData.canLay0, PyData.canLayAll0, fit_ok (fa (.str y) (by simp))]
                · simp only [PyData.depth, PyData.depthAll]
                  omega
                · rw [any_sign, ← find_mem (names_nd ok)]
                  exact k3 H7 (e6.trans e7)
              have comp : EvL (tLc (iTup K (tSl (rSlT K) (tVar 1) (tPart (tC (.int 1))) tNoPart)) (gName 3) (tNot (tB (tCall (spLF K n) [] (fun _ _ _ => False) (tCons (tVar 0) (tCons (tVar 3) tNil))))) (tVar 3) [3]) (start ["world", "thing", "sign", "one"] [.ref wp, .ref p]) H3 (given vs.length (fun i => !isFormD W (ds.getD i .none)) (fun i => vs.getD i .non)) := by
                refine el_lcNT _ _ (eu_tail (ev_var rfl) hp2) lens (fun _ => rfl) (fun i x H5 e5 hx => ?_) fun i x H5 e5 hx _ => ?_
                · obtain ⟨dn, hdn, qn⟩ := qx.get i x hx
                  have g1 : ds.getD i .none = dn := by rw [List.getD_eq_getElem?_getD, hdn]; rfl
                  rw [g1]
                  have mem : dn ∈ ds := List.mem_of_getElem? hdn
                  have hg : hgt dn < n := by
                    have h1 := hgt_mem (List.mem_cons_of_mem (.str y) mem)
                    have h2 : hgt (.tuple (.str y :: ds)) = 1 + hgts (.str y :: ds) := by rw [hgt]
                    omega
                  exact et_not (et_B (ev_call (ea_cons (ev_var rfl) (ea_cons (ev_var rfl) ea_nil)) (spLF_v (qw.ex (e123.trans e5)) ok (qn.ex (e123.trans e5)) (fa dn (List.mem_cons_of_mem _ mem)) hg)))
                · have g2 : vs.getD i .non = x := by rw [List.getD_eq_getElem?_getD, hx]; rfl
                  rw [g2]
                  exact ev_var rfl
              refine s_ret (ev_is (ev_andV inE fun _ => ev_opLL comp (el_lst ea_nil (by decide)) (z := .bl (given vs.length (fun i => !isFormD W (ds.getD i .none)) (fun i => vs.getD i .non)).isEmpty) fun p1 q1 H5 h5 h6 e5 H6 e6 Q k => ⟨p1, q1, _, rfl, rfl, sq_of (e6 _ _ h5), sq_of (e6 _ _ h6), k H6 (Ex.refl _)⟩) ?_) fun H4 e4 => k H4 (e123.trans e4)
              rw [given_empty, lv]
/-- the law's own reading of a form -/
theorem ok_lf {f : Addr} {fd : FuncData} (F : Fun K "_law_is_form" "_law_is_form" s_law_is_form f fd) (B : Bt mg) (b : Binds K fd ["world", "thing"] []) (g : mg "_law_is_form" = some (.ref f)) : ∀ n, FnOk P w K mg base CX0 n f fd ["world", "thing"] (spLF K n)
  | 0 => fn_none fun vs H Q E ⟨_, _, _, _, _, _, h, _⟩ => Nat.not_lt_zero _ h
  | n + 1 => ok_lf_step F B b g n (ok_lf F B b g n)
end
end KW
namespace KW
open PySem PySem.Spec PyProof.Rows L2 Evl
/-- how many signs a tree has, as the law counts -/
def spLS (K : PySem.W.Frag) (n : Nat) : Sp := fun vs H Q _ => ∃ x W d, vs = [x] ∧ W.Ok ∧ Dq K H x d ∧ Fit d ∧ isTreeD W d = true ∧ hgt d < n ∧ wtD d ≤ 4000 ∧ ∀ H', Ex H H' → Q (.int (sizeD d : Nat)) H'
theorem spLS_v {K : PySem.W.Frag} {n : Nat} {x : V} {W : Wd} {d : PyData} {H : Hp} (ok : W.Ok) (q : Dq K H x d) (s : Fit d) (t : isTreeD W d = true) (h : hgt d < n) (z : wtD d ≤ 4000) : SpV (spLS K n) ([x] ++ []) H (.int (sizeD d : Nat)) := fun H1 e Q k E => ⟨x, W, d, rfl, ok, q.ex e, s, t, h, z, k⟩
theorem fitsDs_mem {W : Wd} {leaf : PyData → Bool} : ∀ {ds : List PyData}, fitsDs W leaf ds = true → ∀ d ∈ ds, fitsD W leaf d = true
  | d :: ds, h, e, m => by
    rw [fitsDs, Bool.and_eq_true] at h
    rcases List.mem_cons.mp m with rfl | m
    · exact h.1
    · exact fitsDs_mem h.2 e m
theorem wt_mem : ∀ {ds : List PyData} {d : PyData}, d ∈ ds → wtD d ≤ wtDs ds
  | e :: ds, d, m => by
    rw [wtDs]
    rcases List.mem_cons.mp m with rfl | m
    · omega
    · have := wt_mem m
      omega
theorem tree_not_int {W : Wd} (ok : W.Ok) {d : PyData} (h : isTreeD W d = true) : isD "int" d = false := by
  obtain ⟨y, ds, rfl, _⟩ := tree_shape ok h
  rfl
theorem ev_sum {K : PySem.W.Frag} {σ : L2.St} {H : Hp} {te : TE} {ns : List Int} (h : EvL te σ H (ns.map V.int)) : Ev (tCB (rSum K) (tCons te tNil)) σ H (.int ns.sum) := fun H1 e Q k =>
  h H1 e _ fun p H2 hp e2 h2 => ⟨p, ns, rfl, sq_of h2, k H2 e2⟩
/-- what a part counts for -/
def partN (d : PyData) : Int := if isD "int" d = true then 0 else (sizeD d : Nat)
theorem sum_parts {W : Wd} (ok : W.Ok) : ∀ ds : List PyData, (∀ d ∈ ds, isTreeD W d = true) → (ds.map partN).sum = (((ds.map sizeD).sum : Nat) : Int)
  | [], _ => rfl
  | d :: ds, h => by
    rw [List.map_cons, List.map_cons, List.sum_cons, List.sum_cons, sum_parts ok ds fun e m => h e (List.mem_cons_of_mem _ m)]
    have : partN d = (sizeD d : Nat) := if_neg (by rw [tree_not_int ok (h d (List.mem_cons_self ..))]; decide)
    rw [this]
    omega
section
variable {P : Program} {w : World} {K : PySem.W.Frag} {mg : Str → Option Value} {base : Heap}
end
end KW
namespace KW
open PySem PySem.Spec PyProof.Rows L2 Evl
theorem letters_kids {d : PyData} (h : isD "str" d = false) : lettersN d = ((kidsD d).map lettersN).flatten := by
  have all : ∀ F : List PyData, (nodesDs F).filterMap nameIn = (F.map lettersN).flatten := by
    intro F
    induction F with
    | nil => rfl
    | cons d F ih =>
      show (nodesD d ++ nodesDs F).filterMap nameIn = _
      rw [List.filterMap_append, ih]
      rfl
  unfold lettersN
  rw [nodes_kids d]
  have : nameIn d = none := by cases d <;> first | rfl | cases h
  rw [List.filterMap_cons_none this, all]
  rfl
/-- the letters of a form, in a new list -/
def spLL (K : PySem.W.Frag) (n : Nat) : Sp := fun vs H Q _ => ∃ x W d, vs = [x] ∧ W.Ok ∧ Dq K H x d ∧ Fit d ∧ isFormD W d = true ∧ hgt d < n ∧ wtD d ≤ 4000 ∧ ∀ p H', H p = none → Ex H H' → H' p = some (.lst ((lettersN d).map V.str)) → Q (.ref p) H'
theorem letters_len (d : PyData) : (lettersN d).length ≤ wtD d := Nat.le_trans (List.length_filterMap_le _ _) (nodes_wt d)
section
variable {K : PySem.W.Frag} {σ : L2.St} {H : Hp} {te ta tb : TE} {tt : TT} {tz tu : TS} {D : Ends}
theorem el_if {c : Bool} {xs : List V} (h : EvT tt σ H c) (h1 : c = true → EvL ta σ H xs) (h2 : c = false → EvL tb σ H xs) : EvL (tIf tt ta tb) σ H xs := fun H1 e Q k => h H1 e _ fun H2 e2 => by
  cases c with
  | true => exact h1 rfl H2 (e.trans e2) Q fun p H3 hp e3 h3 => k p H3 (fresh_back e2 hp) (e2.trans e3) h3
  | false => exact h2 rfl H2 (e.trans e2) Q fun p H3 hp e3 h3 => k p H3 (fresh_back e2 hp) (e2.trans e3) h3
theorem el_cat {l : Addr} {xs ys : List V} (h : Ev ta σ H (.ref l)) (hl : H l = some (.lst xs)) (h2 : EvL tb σ H ys) (z : xs.length + ys.length ≤ 100000) : EvL (tOp rCat ta tb) σ H (xs ++ ys) := fun H1 e Q k =>
  h H1 e _ fun H2 e2 => h2 H2 (e.trans e2) _ fun p H3 hp e3 h3 => ⟨l, p, xs, ys, rfl, rfl, e3 _ _ (e2 _ _ (e _ _ hl)), h3, sz_of z, fun r hr => k r _ (fresh_back (e2.trans e3) hr) ((e2.trans e3).trans (Ex.new hr)) upd_same⟩
end
theorem form_shape {W : Wd} (ok : W.Ok) {d : PyData} (h : isFormD W d = true) (ns : isD "str" d = false) : ∃ y ds, d = .tuple (.str y :: ds) ∧ ((y ≠ star ∧ ∀ e ∈ ds, isFormD W e = true) ∨ (y = star ∧ ds = [])) := by
  cases ht : isD "tuple" d with
  | false =>
    rw [form_no ht] at h
    cases d <;> first | cases h | cases ns | cases ht
  | true =>
    obtain ⟨ds, rfl⟩ := signD_tuple ht
    cases ds with
    | nil => cases h
    | cons a ds =>
      cases ha : isD "str" a with
      | false =>
        rw [form_no1 ha] at h
        cases h
      | true =>
        obtain ⟨y, rfl⟩ : ∃ y, a = .str y := by cases a <;> first | exact ⟨_, rfl⟩ | cases ha
        by_cases e : y = star
        · subst e
          refine ⟨star, ds, rfl, .inr ⟨rfl, ?_⟩⟩
          rw [form_star ok, Bool.and_eq_true] at h
          have := of_decide_eq_true h.2
          injection this with this
          cases ds with
          | nil => rfl
          | cons _ _ =>
            rw [List.length_cons] at this
            omega
        · rw [form_ne e, Bool.and_eq_true] at h
          exact ⟨y, ds, rfl, .inl ⟨e, fitsDs_mem h.2⟩⟩
section
variable {P : Program} {w : World} {K : PySem.W.Frag} {mg : Str → Option Value} {base : Heap}
end
end KW
namespace KW
open PySem PySem.Spec PyProof.Rows L2 Evl
mutual
/-- data of so many marks -/
inductive Sm : Nat → PyData → Prop
  | non : Sm 2 .none
  | bl (b : Bool) : Sm 2 (.bool b)
  | int {i : Int} (h : (PyData.shown (.int i)).length ≤ 13) (k : i.natAbs.log2 < 60) : Sm 2 (.int i)
  | str {x : Str} (h : x.length ≤ 20) (k : PyData.strOk x = true) : Sm 2 (.str x)
  | tup {n : Nat} {ds : List PyData} (h : Sms n ds) : Sm (n + 2) (.tuple ds)
  | lst {n : Nat} {ds : List PyData} (h : Sms n ds) : Sm (n + 2) (.list ds)
  | nod : Sm 2 (.dict [])
  | dct {x : Str} (h : x.length ≤ 20) (k : PyData.strOk x = true) : Sm 6 (.dict [(.str x, .int 0)])
inductive Sms : Nat → List PyData → Prop
  | nil : Sms 0 []
  | cons {n m : Nat} {d : PyData} {ds : List PyData} (h : Sm n d) (t : Sms m ds) : Sms (n + m) (d :: ds)
end
theorem Sm.two {n : Nat} {d : PyData} (h : Sm n d) : 2 ≤ n := by cases h <;> omega
theorem Sms.len : ∀ {n : Nat} {ds : List PyData}, Sms n ds → 2 * ds.length ≤ n
  | _, _, .nil => Nat.le_refl _
  | _, _, .cons h t => by
    have := h.two
    have := t.len
    rw [List.length_cons]
    omega
mutual
theorem Sm.weight : ∀ {n : Nat} {d : PyData}, Sm n d → d.weight + 1 ≤ 60 * n
  | _, _, .non => by simp [PyData.weight]
  | _, _, .bl b => by simp [PyData.weight]
  | _, _, .int h k => by
    simp only [PyData.weight]
    split <;> omega
  | _, _, .str (x := x) h k => by
    have : x.cps.size = x.length := rfl
    simp only [PyData.weight]
    omega
  | _, _, .tup h => by
    have := h.weight
    simp only [PyData.weight]
    omega
  | _, _, .lst h => by
    have := h.weight
    simp only [PyData.weight]
    omega
  | _, _, .nod => by simp [PyData.weight, PyData.weightKv]
  | _, _, .dct (x := x) h k => by
    have : x.cps.size = x.length := rfl
    simp only [PyData.weight, PyData.weightKv]
    simp
    omega
theorem Sms.weight : ∀ {n : Nat} {ds : List PyData}, Sms n ds → PyData.weightAll ds ≤ 60 * n
  | _, _, .nil => by simp [PyData.weightAll]
  | _, _, .cons h t => by
    have := h.weight
    have := t.weight
    simp only [PyData.weightAll]
    omega
end
theorem strOk_short {x : Str} (h : PyData.strOk x = true) : (x.cps.toList.all fun c => decide (c < 16 ^ 8)) = true := by
  unfold PyData.strOk at h
  rw [Array.all_eq_true'] at h
  rw [List.all_eq_true]
  intro c hc
  have := of_decide_eq_true (h c (by simpa using hc))
  exact decide_eq_true (Nat.lt_trans this (by decide))
mutual
theorem Sm.short : ∀ {n : Nat} {d : PyData}, Sm n d → PyData.leavesShort 13 d = true
  | _, _, .non => by simp [PyData.leavesShort]
  | _, _, .bl b => by simp [PyData.leavesShort]
  | _, _, .int h k => by
    simp only [PyData.leavesShort]
    exact decide_eq_true h
  | _, _, .str h k => by
    simp only [PyData.leavesShort]
    exact strOk_short k
  | _, _, .tup h => by
    simp only [PyData.leavesShort]
    exact h.short
  | _, _, .lst h => by
    simp only [PyData.leavesShort]
    exact h.short
  | _, _, .nod => by simp [PyData.leavesShort, PyData.leavesShortKv]
  | _, _, .dct h k => by
    simp only [PyData.leavesShort, PyData.leavesShortKv, Bool.and_true, Bool.and_eq_true]
    exact ⟨strOk_short k, by decide +kernel⟩
theorem Sms.short : ∀ {n : Nat} {ds : List PyData}, Sms n ds → PyData.leavesShortAll 13 ds = true
  | _, _, .nil => by simp [PyData.leavesShortAll]
  | _, _, .cons h t => by
    simp only [PyData.leavesShortAll, Bool.and_eq_true]
    exact ⟨h.short, t.short⟩
end
theorem log_lt {i : Nat} (h : i.log2 < 60) : i.log2 < 1920 := by omega
mutual
theorem Sm.show : ∀ {n : Nat} {d : PyData}, Sm n d → d.showable = true
  | _, _, .non => by simp [PyData.showable]
  | _, _, .bl b => by simp [PyData.showable]
  | _, _, .int h k => by
    simp only [PyData.showable]
    exact decide_eq_true (log_lt k)
  | _, _, .str h k => by simp [PyData.showable]
  | _, _, .tup h => by
    simp only [PyData.showable]
    exact h.show
  | _, _, .lst h => by
    simp only [PyData.showable]
    exact h.show
  | _, _, .nod => by simp [PyData.showable, PyData.showableKv]
  | _, _, .dct h k => by
    simp only [PyData.showable, PyData.showableKv, Bool.and_true, Bool.true_and]
    decide
theorem Sms.show : ∀ {n : Nat} {ds : List PyData}, Sms n ds → PyData.showableAll ds = true
  | _, _, .nil => by simp [PyData.showableAll]
  | _, _, .cons h t => by
    simp only [PyData.showableAll, Bool.and_eq_true]
    exact ⟨h.show, t.show⟩
end
mutual
theorem Sm.fit : ∀ {n : Nat} {d : PyData}, Sm n d → n ≤ 40000 → Fit d
  | _, _, .non, _ => .flat rfl rfl rfl
  | _, _, .bl b, _ => .flat rfl rfl rfl
  | _, _, .int h k, _ => .flat rfl rfl rfl
  | _, _, .str h k, _ => .str (by omega) k
  | _, _, .tup h, z => .tuple (by have := h.len; omega) (h.fits (by omega))
  | _, _, .lst h, z => .list (by have := h.len; omega) (h.fits (by omega))
  | _, _, .nod, _ => .flat rfl rfl rfl
  | _, _, .dct h k, _ => .flat rfl rfl rfl
theorem Sms.fits : ∀ {n : Nat} {ds : List PyData}, Sms n ds → n ≤ 40000 → ∀ d ∈ ds, Fit d
  | _, _, .nil, _ => fun d m => nomatch m
  | _, _, .cons h t, z => fun e m => (List.mem_cons.mp m).elim (fun z2 => z2 ▸ h.fit (by omega)) (t.fits (by have := h.two; omega) e)
end
theorem wt_tup (ds : List PyData) : wtD (.tuple ds) ≤ 1 + wtDs ds := by
  unfold wtD
  split
  · rename_i z
    cases z
    rw [wtDs]
    omega
  · omega
mutual
theorem Sm.wt : ∀ {n : Nat} {d : PyData}, Sm n d → wtD d ≤ n
  | _, _, .non => by simp [wtD]
  | _, _, .bl b => by simp [wtD]
  | _, _, .int h k => by simp [wtD]
  | _, _, .str h k => by simp [wtD]
  | _, _, .tup h => by
    have := h.wts
    exact Nat.le_trans (wt_tup _) (by omega)
  | _, _, .lst h => by
    have := h.len
    unfold wtD
    omega
  | _, _, .nod => by simp [wtD]
  | _, _, .dct h k => by simp [wtD]
theorem Sms.wts : ∀ {n : Nat} {ds : List PyData}, Sms n ds → wtDs ds ≤ n
  | _, _, .nil => by simp [wtDs]
  | _, _, .cons h t => by
    have := h.wt
    have := t.wts
    rw [wtDs]
    omega
end
mutual
theorem hgt_depth : ∀ d : PyData, hgt d ≤ d.depth
  | .tuple ds => by
    have := hgts_depth ds
    simp only [hgt, PyData.depth]
    omega
  | .none => by simp [hgt]
  | .bool _ => by simp [hgt]
  | .int _ => by simp [hgt]
  | .str _ => by simp [hgt]
  | .list _ => by simp [hgt]
  | .dict _ => by simp [hgt]
theorem hgts_depth : ∀ ds : List PyData, hgts ds ≤ PyData.depthAll ds
  | [] => by simp [hgts]
  | d :: ds => by
    have := hgt_depth d
    have := hgts_depth ds
    simp only [hgts, PyData.depthAll]
    omega
end
theorem Sm.size {n : Nat} {d : PyData} (h : Sm n d) (z : n ≤ 15000) : d.shown.length ≤ sizeLine := by
  have := h.weight
  refine PyData.shown_fits (B := 13) (by decide) (by decide) h.short ?_
  have e : (2 : Nat) ^ 20 = 1048576 := by decide
  omega
/-- a part in the place of another one -/
theorem Sms.set : ∀ {n : Nat} {ds : List PyData} {i : Nat} {d : PyData}, Sms n ds → ds[i]? = some d → ∃ m, m ≤ n ∧ Sm m d ∧ ∀ k e, Sm k e → Sms (n - m + k) (ds.set i e)
  | _, _, 0, d, .cons (n := n) (m := m) h t, z => by
    cases z
    refine ⟨n, by omega, h, fun k e he => ?_⟩
    have : n + m - n + k = k + m := by omega
    rw [this]
    exact .cons he t
  | _, _, i + 1, d, .cons (n := n) (m := m) h t, z => by
    obtain ⟨j, hj, hd, f⟩ := t.set (i := i) (by simpa using z)
    refine ⟨j, by omega, hd, fun k e he => ?_⟩
    have := f k e he
    have e2 : n + m - j + k = n + (m - j + k) := by omega
    rw [e2]
    exact .cons h this
theorem Sms.mem : ∀ {n : Nat} {ds : List PyData}, Sms n ds → ∀ d ∈ ds, ∃ m, m ≤ n ∧ Sm m d
  | _, _, .cons (n := n) (m := m) h t, d, z => (List.mem_cons.mp z).elim (fun e => e ▸ ⟨n, by omega, h⟩) fun z => let ⟨k, a, b⟩ := t.mem d z; ⟨k, by omega, b⟩
theorem Sms.app : ∀ {n m : Nat} {ds es : List PyData}, Sms n ds → Sms m es → Sms (n + m) (ds ++ es)
  | _, m, _, _, .nil, b => by rw [Nat.zero_add]; exact b
  | _, _, _, _, .cons h t, b => by
    rw [Nat.add_assoc]
    exact .cons h (t.app b)
theorem Sm.one {n : Nat} {d : PyData} (h : Sm n d) : Sms n [d] := by
  have := Sms.cons h .nil
  rwa [Nat.add_zero] at this
theorem depth_mem : ∀ {ds : List PyData} {d : PyData}, d ∈ ds → d.depth ≤ PyData.depthAll ds
  | e :: ds, d, m => by
    simp only [PyData.depthAll]
    rcases List.mem_cons.mp m with rfl | m
    · omega
    · have := depth_mem m
      omega
theorem depth_le : ∀ {ds : List PyData} {n : Nat}, (∀ d ∈ ds, d.depth ≤ n) → PyData.depthAll ds ≤ n
  | [], n, _ => by simp [PyData.depthAll]
  | d :: ds, n, h => by
    have := depth_le fun e m => h e (List.mem_cons_of_mem _ m)
    have := h d (List.mem_cons_self ..)
    simp only [PyData.depthAll]
    omega
theorem name_len {x : Str} (h : nameS x = true) : 1 ≤ x.length ∧ x.length ≤ 8 := by
  unfold nameS at h
  simp only [Bool.and_eq_true, decide_eq_true_eq] at h
  omega
theorem Sm.name {x : Str} (h : nameS x = true) : Sm 2 (.str x) := .str (by have := name_len h; omega) (name_ok h)
/-- what is drawn: data of so many marks, so deep -/
structure Dr (N : Addr → Prop) (K : PySem.W.Frag) (H : Hp) (v : V) (d : PyData) (n m : Nat) : Prop where
  av : Av N K H v d
  sm : ∃ k, k ≤ n ∧ Sm k d
  dp : d.depth ≤ m
section
variable {N M : Addr → Prop} {K : PySem.W.Frag} {H H' : Hp} {v : V} {d : PyData} {n m : Nat}
theorem Dr.kept (a : Dr N K H v d n m) (k : Kept N H H') : Dr N K H' v d n m := ⟨a.av.kept k, a.sm, a.dp⟩
theorem Dr.dq (a : Dr N K H v d n m) : Dq K H v d := a.av.dq
theorem Dr.fit (a : Dr N K H v d n m) (z : n ≤ 4000 := by omega) : Fit d := let ⟨_, l, s⟩ := a.sm; s.fit (by omega)
theorem Dr.wt (a : Dr N K H v d n m) (z : n ≤ 4000 := by omega) : wtD d ≤ 4000 := let ⟨_, l, s⟩ := a.sm; by have := s.wt; omega
theorem Dr.hg (a : Dr N K H v d n m) : hgt d ≤ m := Nat.le_trans (hgt_depth d) a.dp
theorem Dr.show (a : Dr N K H v d n m) : d.showable = true := let ⟨_, l, s⟩ := a.sm; s.show
theorem Dr.size (a : Dr N K H v d n m) (z : n ≤ 4000 := by omega) : d.shown.length ≤ sizeLine := let ⟨_, l, s⟩ := a.sm; s.size (by omega)
theorem Dr.more (a : Dr N K H v d n m) {n' m' : Nat} (h1 : n ≤ n') (h2 : m ≤ m') : Dr N K H v d n' m' := ⟨a.av, let ⟨k, l, s⟩ := a.sm; ⟨k, by omega, s⟩, by have := a.dp; omega⟩
end
end KW
namespace KW
open PySem PySem.Spec PyProof.Rows L2 Evl
/-! ### all but lists stand -/
def NL (H H' : Hp) : Prop := ∀ b o, H b = some o → (∀ xs, o ≠ .lst xs) → H' b = some o
theorem NL.refl {H : Hp} : NL H H := fun _ _ e _ => e
theorem NL.trans {H H1 H2 : Hp} (a : NL H H1) (b : NL H1 H2) : NL H H2 := fun x o e n => b x o (a x o e n) n
theorem NL.ex {H H' : Hp} (e : Ex H H') : NL H H' := fun b o h _ => e b o h
theorem But.nl {p : Addr} {H H' : Hp} (b : But p H H') (hp : ∃ ys, H p = some (.lst ys)) : NL H H' := fun a o e n => b a o e fun z => by
  obtain ⟨ys, hp⟩ := hp
  rw [z, hp] at e
  exact n ys (Option.some.inj e).symm
theorem NL.upd {H : Hp} {p : Addr} {xs : List V} {o : HO} (hp : H p = some (.lst xs)) : NL H (upd H p o) := fun a u e n => by
  have z : a ≠ p := fun z => by rw [z, hp] at e; exact n xs (Option.some.inj e).symm
  rw [upd_ne z]
  exact e
theorem NL.new {H : Hp} {p : Addr} {o : HO} (hp : H p = none) : NL H (L2.upd H p o) := .ex (Ex.new hp)
mutual
/-- data without lists and dicts -/
def noL : PyData → Bool
  | .list _ => false
  | .dict _ => false
  | .tuple ds => noLs ds
  | _ => true
def noLs : List PyData → Bool
  | [] => true
  | d :: ds => noL d && noLs ds
end
theorem noLs_mem : ∀ {ds : List PyData}, noLs ds = true ↔ ∀ d ∈ ds, noL d = true
  | [] => by simp [noLs]
  | d :: ds => by rw [noLs, Bool.and_eq_true, noLs_mem]; simp
theorem noLs_app {ds es : List PyData} : noLs (ds ++ es) = (noLs ds && noLs es) := by
  induction ds with
  | nil => simp [noLs]
  | cons d ds ih => rw [List.cons_append, noLs, noLs, ih, Bool.and_assoc]
theorem rd_nl {H H' : Hp} {a : Addr} {xs : List V} (k : NL H H') (h : Rd H a (.tup xs)) : Rd H' a (.tup xs) := h.imp (fun h => k _ _ h fun _ z => nomatch z) fun ⟨o, h⟩ => ⟨o, k _ _ h fun _ z => nomatch z⟩
theorem sqT_nl {K : PySem.W.Frag} {H H' : Hp} {a : Addr} {xs : List V} (k : NL H H') (h : SqT K H a xs) : SqT K H' a xs := h.imp (rd_nl k) id
theorem plT_nl {H H' : Hp} {a : Addr} {xs : List V} (k : NL H H') (h : PlT H a xs) : PlT H' a xs := let ⟨o, h, d⟩ := h; ⟨o, k _ _ h (fun _ z => nomatch z), d⟩
theorem noL_t {ds : List PyData} (h : noL (.tuple ds) = true) : noLs ds = true := by rwa [noL] at h
theorem noL_l {ds : List PyData} (h : noL (.list ds) = true) : False := by
  rw [noL] at h
  cases h
theorem noL_d {ds : List (PyData × PyData)} (h : noL (.dict ds) = true) : False := by
  rw [noL] at h
  cases h
theorem noL_c {d : PyData} {ds : List PyData} (h : noLs (d :: ds) = true) : noL d = true ∧ noLs ds = true := by rwa [noLs, Bool.and_eq_true] at h
mutual
theorem _root_.L2.Dq.nl {K : PySem.W.Frag} {H H' : Hp} (k : NL H H') : ∀ {v : V} {d : PyData}, Dq K H v d → noL d = true → Dq K H' v d
  | _, _, .non, _ => .non
  | _, _, .bl b, _ => .bl b
  | _, _, .int i, _ => .int i
  | _, _, .str x, _ => .str x
  | _, _, .lst q qs, n => (noL_l n).elim
  | _, _, .tup q qs, n => .tup (sqT_nl k q) (L2.Dqs.nl k qs (noL_t n))
  | _, _, .dct q qs, n => (noL_d n).elim
theorem _root_.L2.Dqs.nl {K : PySem.W.Frag} {H H' : Hp} (k : NL H H') : ∀ {v : List V} {d : List PyData}, Dqs K H v d → noLs d = true → Dqs K H' v d
  | _, _, .nil, _ => .nil
  | _, _, .cons q qs, n => .cons (L2.Dq.nl k q (noL_c n).1) (L2.Dqs.nl k qs (noL_c n).2)
end
theorem signs_noL (s : List (Str × Int)) : noLs (s.map signD) = true := noLs_mem.mpr fun d m => by
  obtain ⟨p, _, rfl⟩ := List.mem_map.mp m
  rfl
theorem world_noL (W : Wd) : noL (wD W) = true := by
  unfold wD
  simp only [noL, noLs, Bool.and_true]
  exact signs_noL _
theorem WAt.nl {K : PySem.W.Frag} {C : Addr} {H H' : Hp} {a : Addr} {W : Wd} (k : NL H H') (h : WAt K C H a W) : WAt K C H' a W := by
  obtain ⟨dx, sg, nb, rk, xs, h1, h2, h3, h4, h5, h6⟩ := h
  exact ⟨dx, sg, nb, rk, xs, k _ _ h1 (fun _ z => nomatch z), k _ _ h2 (fun _ z => nomatch z), sqT_nl k h3, Dqs.nl k h4 (signs_noL _), k _ _ h5 (fun _ z => nomatch z), k _ _ h6 (fun _ z => nomatch z)⟩
/-- data without lists stand away from all lists -/
def isL (H : Hp) (b : Addr) : Prop := ∃ xs, H b = some (.lst xs)
def tupH (H : Hp) : Hp := fun b => match H b with
  | some (.lst _) => none
  | o => o
theorem tupH_nl (H : Hp) : NL H (tupH H) := fun b o e n => by
  unfold tupH
  rw [e]
  cases o <;> first | rfl | exact absurd rfl (n _)
theorem tupH_sub (H : Hp) : Sub (isL H) (tupH H) H := fun b o e => by
  unfold tupH at e
  split at e
  · cases e
  · rename_i n
    exact ⟨e, fun ⟨xs, z⟩ => n xs z⟩
theorem _root_.L2.Dq.away {K : PySem.W.Frag} {H : Hp} {v : V} {d : PyData} (q : Dq K H v d) (n : noL d = true) : Av (isL H) K H v d := ⟨tupH H, tupH_sub H, q.nl (tupH_nl H) n⟩
/-- a tree, a form drawn -/
structure Tr (K : PySem.W.Frag) (H : Hp) (v : V) (d : PyData) (n m : Nat) : Prop where
  q : Dq K H v d
  no : noL d = true
  sm : ∃ k, k ≤ n ∧ Sm k d
  dp : d.depth ≤ m
theorem Tr.nl {K : PySem.W.Frag} {H H' : Hp} {v : V} {d : PyData} {n m : Nat} (k : NL H H') (t : Tr K H v d n m) : Tr K H' v d n m := ⟨t.q.nl k t.no, t.no, t.sm, t.dp⟩
theorem Tr.dr {K : PySem.W.Frag} {H : Hp} {v : V} {d : PyData} {n m : Nat} (t : Tr K H v d n m) : Dr (isL H) K H v d n m := ⟨t.q.away t.no, t.sm, t.dp⟩
theorem Tr.more {K : PySem.W.Frag} {H : Hp} {v : V} {d : PyData} {n m n' m' : Nat} (t : Tr K H v d n m) (h1 : n ≤ n') (h2 : m ≤ m') : Tr K H v d n' m' := ⟨t.q, t.no, let ⟨k, l, s⟩ := t.sm; ⟨k, by omega, s⟩, by have := t.dp; omega⟩
/-- rows of such -/
structure Trs (K : PySem.W.Frag) (H : Hp) (vs : List V) (ds : List PyData) (n m : Nat) : Prop where
  q : Dqs K H vs ds
  no : noLs ds = true
  sm : ∃ k, k ≤ n * ds.length ∧ Sms k ds
  dp : PyData.depthAll ds ≤ m
theorem Trs.nil {K : PySem.W.Frag} {H : Hp} {n m : Nat} : Trs K H [] [] n m := ⟨.nil, rfl, ⟨0, Nat.zero_le _, .nil⟩, by simp [PyData.depthAll]⟩
theorem Trs.nl {K : PySem.W.Frag} {H H' : Hp} {vs : List V} {ds : List PyData} {n m : Nat} (k : NL H H') (t : Trs K H vs ds n m) : Trs K H' vs ds n m := ⟨t.q.nl k t.no, t.no, t.sm, t.dp⟩
theorem depth_app : ∀ {ds es : List PyData}, PyData.depthAll (ds ++ es) = max (PyData.depthAll ds) (PyData.depthAll es)
  | [], es => by simp [PyData.depthAll]
  | d :: ds, es => by
    rw [List.cons_append, PyData.depthAll, PyData.depthAll, depth_app]
    omega
theorem Trs.snoc {K : PySem.W.Frag} {H : Hp} {vs : List V} {ds : List PyData} {v : V} {d : PyData} {n m : Nat} (t : Trs K H vs ds n m) (h : Tr K H v d n m) : Trs K H (vs ++ [v]) (ds ++ [d]) n m := by
  obtain ⟨k, hk, sk⟩ := t.sm
  obtain ⟨j, hj, sj⟩ := h.sm
  refine ⟨t.q.app (.cons h.q .nil), by rw [noLs_app, t.no, noLs, h.no]; rfl, ⟨k + j, ?_, sk.app sj.one⟩, ?_⟩
  · rw [List.length_append, Nat.mul_add]
    simp
    omega
  · have := t.dp
    have := h.dp
    rw [depth_app]
    simp only [PyData.depthAll]
    omega
/-- a name ahead of drawn parts -/
theorem Trs.tuple {K : PySem.W.Frag} {H : Hp} {p : Addr} {x : Str} {vs : List V} {ds : List PyData} {n m k : Nat} (hx : Sm 2 (.str x)) (t : Trs K H vs ds n m) (hp : SqT K H p (.str x :: vs)) (l : ds.length ≤ k) : Tr K H (.ref p) (.tuple (.str x :: ds)) (4 + n * k) (m + 1) := by
  obtain ⟨j, hj, sj⟩ := t.sm
  refine ⟨.tup hp (.cons (.str x) t.q), by rw [noL, noLs, t.no]; rfl, ⟨2 + j + 2, ?_, .tup (.cons hx sj)⟩, ?_⟩
  · have := Nat.mul_le_mul_left n l
    omega
  · have := t.dp
    simp only [PyData.depth, PyData.depthAll]
    omega
end KW
namespace KW
open PySem PySem.Spec PyProof.Rows L2 Evl
/-- a comprehension of drawn things over a range -/
theorem el_draw {K : PySem.W.Frag} {σ : L2.St} {H : Hp} {te : TE} {ta : TA} {j : Nat} {vs : List Nat} {p : Addr} {i : Int} {n m : Nat} {R : PyData → Prop} {Q : VK} (h : EvA ta σ H [.int i]) (hi : 0 ≤ i ∧ i ≤ 1000) (S : Src H p) (hw : ∀ x, wipe ((wipe σ vs).set j (some x)) vs = wipe σ vs)
    (he : ∀ (t : Nat) H1, (t : Int) < i → Src H1 p → But p H H1 → ∀ Q : VK, (∀ v d H2, Src H2 p → But p H1 H2 → R d → Tr K H2 v d n m → Q v H2) → te ((wipe σ vs).set j (some (.int ((0 : Int) + (t : Int))))) H1 Q)
    (k : ∀ (D : Addr) (xs : List V) (ds : List PyData) H2, H D = none → Src H2 p → But p H H2 → H2 D = some (.lst xs) → Trs K H2 xs ds n m → (∀ d ∈ ds, R d) → (ds.length : Int) = i → Q (.ref D) H2) : tLc (iRng1 ta) (gName j) tYes te vs σ H Q := by
  refine h H (Ex.refl _) _ fun H1 e1 => ⟨i, rfl, by omega, by omega, fun D hD => ?_⟩
  have b0 : But p H (upd H1 D (.lst [])) := fun b o e n => Ex.mut e1 (fresh_back e1 hD) b o e
  have npD : p ≠ D := fun z => by
    obtain ⟨_, _, hS, _⟩ := S
    rw [z, fresh_back e1 hD] at hS
    cases hS
  have S0 : Src (upd H1 D (.lst [])) p := by
    obtain ⟨o, m, hS, r⟩ := S
    exact ⟨o, m, (upd_ne npD).trans (e1 _ _ hS), r⟩
  refine lc_range (lo := 0) (n := i.toNat) (fun t H' => Src H' p ∧ But p H H' ∧ ∃ xs ds, H' D = some (.lst xs) ∧ Trs K H' xs ds n m ∧ (∀ d ∈ ds, R d) ∧ ds.length = t) ⟨S0, b0, [], [], upd_same, .nil, (fun d m => nomatch m), rfl⟩ (fun t H' ht ⟨S1, B1, xs, ds, hx, tr, r, l⟩ => ?_) fun H' ⟨S1, B1, xs, ds, hx, tr, r, l⟩ => k D xs ds H' (fresh_back e1 hD) S1 B1 hx tr r (by omega)
  unfold gName
  refine ⟨hw _, ?_⟩
  unfold tYes
  dsimp only
  rw [if_pos rfl]
  refine he t H' (by omega) S1 B1 _ fun v d H2 S2 B2 rd td => ?_
  have hD2 : H2 D = some (.lst xs) := B2 _ _ hx (Ne.symm npD)
  refine ⟨xs, hD2, ?_, ?_, ?_, xs ++ [v], ds ++ [d], upd_same, ?_, ?_, by simp [l]⟩
  · have := tr.q.len
    exact sz_lt (by omega)
  · obtain ⟨o, m, hS, r⟩ := S2
    exact ⟨o, m, (upd_ne npD).trans hS, r⟩
  · intro b o e n
    have nb : b ≠ D := fun z => by rw [z, fresh_back e1 hD] at e; cases e
    rw [upd_ne nb]
    exact B2 _ _ (B1 _ _ e n) n
  · exact ((tr.nl (B2.nl S1.lst)).snoc td).nl (NL.upd hD2)
  · intro e me
    rcases List.mem_append.mp me with me | me
    · exact r e me
    · rw [List.mem_singleton] at me
      rw [me]
      exact rd
theorem el_drawC {K : PySem.W.Frag} {σ : L2.St} {H : Hp} {te : TE} {ta : TA} {r : List V → Hp → VK → Prop} {j : Nat} {vs : List Nat} {p : Addr} {i : Int} {n m : Nat} {R : PyData → Prop} {Q : VK} (h : EvA ta σ H [.int i]) (hi : 0 ≤ i ∧ i ≤ 1000) (S : Src H p) (hw : ∀ x, wipe ((wipe σ vs).set j (some x)) vs = wipe σ vs)
    (he : ∀ (t : Nat) H1, (t : Int) < i → Src H1 p → But p H H1 → ∀ Q : VK, (∀ v d H2, Src H2 p → But p H1 H2 → R d → Tr K H2 v d n m → Q v H2) → te ((wipe σ vs).set j (some (.int ((0 : Int) + (t : Int))))) H1 Q)
    (k : ∀ (D : Addr) (xs : List V) (ds : List PyData) H2, H D = none → Src H2 p → But p H H2 → H2 D = some (.lst xs) → Trs K H2 xs ds n m → (∀ d ∈ ds, R d) → (ds.length : Int) = i → r [.ref D] H2 Q) : tCB r (tCons (tLc (iRng1 ta) (gName j) tYes te vs) tNil) σ H Q := by
  show tLc (iRng1 ta) (gName j) tYes te vs σ H (fun x H1 => r [x] H1 Q)
  exact el_draw (Q := fun x H1 => r [x] H1 Q) h hi S hw he k
/-- if a and b: b draws -/
theorem q_whenE {σ : L2.St} {H : Hp} {t u : TT} {tu tz : TS} {D : Ends} {b : Bool} (h : EvT t σ H b) (h0 : b = false → ∀ H1, Ex H H1 → tz D σ H1) (h1 : b = true → ∀ H1, Ex H H1 → u σ H1 (fun c H2 => if c = true then tu { D with nx := tz D } σ H2 else tz D σ H2)) : tSeq (tIfS (tAnd t u) tu tNext) tz D σ H := by
  show t σ H fun c H1 => if c = true then u σ H1 (fun c H2 => if c = true then tu { D with nx := tz D } σ H2 else tz D σ H2) else (if false = true then tu { D with nx := tz D } σ H1 else tz D σ H1)
  refine h H (Ex.refl _) _ fun H1 e1 => ?_
  cases b with
  | true => exact h1 rfl H1 e1
  | false => exact h0 rfl H1 e1
/-- x == 0 of a draw -/
theorem t_draw0 {σ : L2.St} {H : Hp} {p : Addr} {i : Nat} {n k : Int} {E : XK} {Q : Bool → Hp → Prop} (hs : σ[i]? = some (some (.ref p))) (S : Src H p) (n0 : 0 < n) (n1 : n < 1073741824) (q : ∀ r H', 0 ≤ r → r < n → Src H' p → But p H H' → Q (decide (V.int r = .int k)) H') :
    tTest (tOp rEq (tCall spDraw [] E (tCons (tVar i) (tCons (tC (.int n)) tNil))) (tC (.int k))) σ H Q := ⟨_, hs, p, n, rfl, S, n0, n1, fun r H' r0 r1 S' B' => ⟨rfl, _, rfl, q r H' r0 r1 S' B'⟩⟩
end KW
namespace KW
open PySem PySem.Spec PyProof.Rows L2 Evl
/-- how many marks a tree so deep has at most -/
def tM (n : Nat) : Nat := 8 * 4 ^ n
theorem tM_pos (n : Nat) : 8 ≤ tM n := by
  have : 0 < 4 ^ n := Nat.pow_pos (by decide)
  unfold tM
  omega
theorem tM_succ (n : Nat) : 4 + tM n * 3 ≤ tM (n + 1) := by
  have := tM_pos n
  have e : tM (n + 1) = tM n * 4 := by
    unfold tM
    rw [Nat.pow_succ, Nat.mul_assoc]
  omega
/-- a drawn tree -/
def spTree (K : PySem.W.Frag) (n : Nat) : Sp := fun vs H Q _ => ∃ (p : Addr) (u : V) (W : Wd) (dp : Nat), vs = [.ref p, u, .int dp] ∧ Src H p ∧ Dq K H u (wD W) ∧ W.Ok ∧ dp < n ∧ ∀ (v : V) (d : PyData) (H' : Hp), Src H' p → But p H H' → isTreeD W d = true → Tr K H' v d (tM dp) (dp + 1) → Q v H'
theorem But.ex {p : Addr} {H H1 H2 : Hp} (b : But p H H1) (e : Ex H1 H2) : But p H H2 := fun a u h ne => e _ _ (b a u h ne)
theorem Ex.but {p : Addr} {H H1 : Hp} (e : Ex H H1) : But p H H1 := fun a u h _ => e _ _ h
theorem Src.ex {p : Addr} {H H1 : Hp} (e : Ex H H1) (s : Src H p) : Src H1 p := let ⟨o, m, h, r⟩ := s; ⟨o, m, e _ _ h, r⟩
theorem Src.cut {p q : Addr} {H : Hp} {o : HO} (s : Src H p) (n : q ≠ p) : Src (upd H q o) p := let ⟨o, m, h, r⟩ := s; ⟨o, m, (upd_ne (Ne.symm n)).trans h, r⟩
/-- a world's two halves -/
theorem wD_parts {K : PySem.W.Frag} {H : Hp} {u : V} {W : Wd} (q : Dq K H u (wD W)) : ∃ p s xs, u = .ref p ∧ SqT K H p [.ref s, .bl W.more] ∧ SqT K H s xs ∧ Dqs K H xs (W.signs.map signD) := by
  obtain ⟨p, ys, rfl, hp, qs⟩ := Dq.tuple q
  obtain ⟨a, b, rfl, qa, qb⟩ := dqs_two qs
  obtain ⟨s, xs, rfl, hs, qx⟩ := Dq.tuple qa
  cases qb
  exact ⟨p, s, xs, rfl, hp, hs, qx⟩
theorem sign_in {W : Wd} (ok : W.Ok) {x : Str} {i : Int} (m : (x, i) ∈ W.signs) : nameS x = true ∧ 0 ≤ i ∧ i ≤ 3 ∧ W.num x = some i ∧ x ≠ star := by
  have h := areSigns_all ok.fit
  have h1 := List.all_eq_true.mp h.1 (signD (x, i)) (List.mem_map_of_mem m)
  obtain ⟨y, j, e, hn, h0, h3⟩ := sign_is h1
  simp only [signD, PyData.tuple.injEq, List.cons.injEq, PyData.str.injEq, PyData.int.injEq, and_true] at e
  obtain ⟨rfl, rfl⟩ := e
  refine ⟨hn, h0, h3, ?_, fun z => by rw [z, star_no] at hn; cases hn⟩
  have := find_mem (names_nd ok) x i
  rw [decide_eq_decide] at this
  exact this.mpr m
theorem zero_in {W : Wd} (ok : W.Ok) : ∃ x, (x, (0 : Int)) ∈ W.signs := by
  have h := (areSigns_all ok.fit).2.2.2.2
  rw [map_num] at h
  obtain ⟨⟨x, i⟩, m, e⟩ := List.mem_map.mp h
  exact ⟨x, by rw [show (0 : Int) = i from e.symm]; exact m⟩
theorem fitsDs_of {W : Wd} {leaf : PyData → Bool} : ∀ {ds : List PyData}, (∀ d ∈ ds, fitsD W leaf d = true) → fitsDs W leaf ds = true
  | [], _ => by rw [fitsDs]
  | d :: ds, h => by
    rw [fitsDs, h d (List.mem_cons_self ..), fitsDs_of fun e m => h e (List.mem_cons_of_mem _ m)]
    rfl
/-- an entry of a row of signs -/
theorem sign_at {K : PySem.W.Frag} {H : Hp} {W : Wd} {xs : List V} (q : Dqs K H xs (W.signs.map signD)) {i : Nat} {x : V} (e : xs[i]? = some x) : ∃ p y n, x = .ref p ∧ SqT K H p [.str y, .int n] ∧ W.signs[i]? = some (y, n) := by
  obtain ⟨d, hd, qd⟩ := q.get i x e
  rw [List.getElem?_map] at hd
  cases hw : W.signs[i]? with
  | none => rw [hw] at hd; cases hd
  | some s =>
    rw [hw] at hd
    obtain ⟨y, n⟩ := s
    cases hd
    obtain ⟨p, ys, rfl, hp, qs⟩ := Dq.tuple qd
    obtain ⟨a, b, rfl, qa, qb⟩ := dqs_two qs
    cases qa
    cases qb
    exact ⟨p, y, n, rfl, hp, rfl⟩
theorem given_get {n i : Nat} {f : Nat → Bool} {v : Nat → V} {x : V} (h : (given n f v)[i]? = some x) : ∃ j, j < n ∧ f j = true ∧ x = v j := by
  have m := List.mem_of_getElem? h
  unfold given at m
  obtain ⟨j, hj, e⟩ := List.mem_map.mp m
  have := List.mem_filter.mp hj
  exact ⟨j, List.mem_range.mp this.1, this.2, e.symm⟩
theorem given_ne {n j : Nat} {f : Nat → Bool} {v : Nat → V} (h : j < n) (e : f j = true) : given n f v ≠ [] := by
  intro z
  unfold given at z
  have : j ∈ (List.range n).filter f := List.mem_filter.mpr ⟨List.mem_range.mpr h, e⟩
  rw [List.map_eq_nil_iff] at z
  rw [z] at this
  cases this
/-- numbers that a further leaf is drawn of -/
def leafNs : List Int := [0, 1, 2, 0, 1, 2, 0, 1, 2, 9, 10, 99, 1000, 2 ^ 40]
theorem leaf_ok : ∀ n ∈ leafNs, 0 ≤ n ∧ (PyData.shown (.int n)).length ≤ 13 ∧ n.natAbs.log2 < 60 := by decide +kernel
theorem int_of_get {ns : List Int} {i : Nat} {v : V} (h : (ns.map V.int)[i]? = some v) : ∃ n, n ∈ ns ∧ v = .int n := by
  obtain ⟨n, m, e⟩ := List.mem_map.mp (List.mem_of_getElem? h)
  exact ⟨n, m, e.symm⟩
theorem leaf_tree {W : Wd} (ok : W.Ok) (hm : W.more = true) {n : Int} (h : 0 ≤ n) : isTreeD W (.tuple [.str star, .int n]) = true := by
  rw [tree_star ok]
  show (W.more && (eqS (.str star) star && (isIntD (.int n) && ge0 (.int n)))) = true
  rw [hm]
  have : ge0 (.int n) = true := decide_eq_true h
  rw [this]
  rfl
section
variable {P : Program} {w : World} {K : PySem.W.Frag} {mg : Str → Option Value} {base : Heap}
theorem sc_tree : FnScope ["source", "world", "deep", "some", "name", "number", "sign", "turn"] ["source", "world", "deep"] (defScope s_law_tree) := ⟨rfl, rfl, rfl, by decide +kernel, rfl, by decide +kernel, by decide +kernel⟩
theorem ok_tree_step {f fD fP : Addr} {fd fdD fdP : FuncData} (F : Fun K "_law_tree" "_law_tree" s_law_tree f fd) (B : Bt mg) (b : Binds K fd ["source", "world", "deep"] []) (g : mg "_law_tree" = some (.ref f))
    (kD : PySem.W.keepIn K (.ref fD) = true) (bD : Binds K fdD ["source", "span"] []) (gD : mg "_law_draw" = some (.ref fD)) (GD : FnOk P w K mg base CX0 1 fD fdD ["source", "span"] spDraw)
    (kP : PySem.W.keepIn K (.ref fP) = true) (bP : Binds K fdP ["source", "things"] []) (gP : mg "_law_pick" = some (.ref fP)) (GP : FnOk P w K mg base CX0 2 fP fdP ["source", "things"] (spPickG K)) (n : Nat) (G : FnOk P w K mg base CX0 (n + 2) f fd ["source", "world", "deep"] (spTree K n)) :
    FnOk P w K mg base CX0 (n + 1 + 2) f fd ["source", "world", "deep"] (spTree K (n + 1)) := by
  refine F.ok sc_tree (fun vs H Q E h => ?_) (fun cdv A outer s H vs Q E hr h => ?_)
  · obtain ⟨p, u, W, dp, rfl, _⟩ := h
    rfl
  · obtain ⟨p, u, W, dp, rfl, S, qu, ok, hdp, k⟩ := h
    have hr2 : Room 2 _ := hr.mono (by omega)
    have hr1 : Room 1 _ := hr.mono (by omega)
    refine ⟨_, pss_cut (ps_if (PW.pt (pw_and (pt_val (pe_ix ix_tup (pv 1) pe_int (fun _ _ => rfl))) (pw_and1 (pt_cmpR op_eq (pe_call GD hr1 (by rfl) gD kD bD .nil pass0 (pa_cons (pv 0) (pa_cons pe_int pa_nil))) pe_int (nomark _)))))
        (pss_one (ps_ret (pe_tup (pa_cons pe_str (pa_cons (pe_call GP hr2 (by rfl) gP kP bP .nil pass0 (pa_cons (pv 0) (pa_cons (pe_lst (pa_cons pe_int (pa_cons pe_int (pa_cons pe_int (pa_cons pe_int (pa_cons pe_int (pa_cons pe_int (pa_cons pe_int (pa_cons pe_int (pa_cons pe_int (pa_cons pe_int (pa_cons pe_int (pa_cons pe_int (pa_cons pe_int (pa_cons (pe_op op_pow pe_int pe_int) pa_nil))))))))))))))) pa_nil))) pa_nil))))) pss_nil)
      (pss_cons (ps_setLc (i := 3) (own := [("sign", 6)]) (g := gName 6) (tt := tOr (tTest (tOp (rI0 fun i j => .bl (decide (j < i))) (tVar 2) (tC (.int 0)))) (tTest (tOp rEq (tOp (rIxT K) (tVar 6) (tC (.int 1))) (tC (.int 0))))) (te := tVar 6) rfl sc_tree.nd rfl rfl (sw_true rfl rfl rfl (by decide +kernel)) (pi_tup (pe_ix ix_tup (pv 1) pe_int (fun _ _ => rfl))) (blkOk_by (N := ["source", "world", "deep", "some", "name", "number", "sign", "turn"]) (sc := defScope s_law_tree) (by decide +kernel))
          (fun _ _ _ _ _ => pg_name (i := 6) sc_tree.nd rfl (Or.inl rfl)) (fun _ _ _ _ _ => by exact pts_one (PW.pt (pw_or (pt_cmpR op_gt (pv 2) pe_int (nomark _)) (pw_or1 (pt_cmpR op_eq (pe_ix ix_tup (pv 6) pe_int (fun _ _ => rfl)) pe_int (nomark _)))))) (fun _ _ _ _ _ => by exact pv 6))
      (pss_cons (ps_asg (pe_call GP hr2 (by rfl) gP kP bP .nil pass0 (pa_cons (pv 0) (pa_cons (pv 3) pa_nil))) (pg_tup rfl (pgs_cons (pg_name (i := 4) sc_tree.nd rfl (Or.inl rfl)) (pgs_cons (pg_name (i := 5) sc_tree.nd rfl (Or.inl rfl)) pgs_nil))))
      (pss_one (ps_ret (pe_op op_catA (pe_tup (pa_cons (pv 4) pa_nil)) (pe_callTy call_tuple_of (by rfl) B.tuple boot_tuple (pa_cons (pe_lc (own := [("turn", 7)]) (g := gName 7) (tt := tYes) (te := tCall (spTree K n) [] (fun _ _ _ => False) (tCons (tVar 0) (tCons (tVar 1) (tCons (tOp (rI0 fun i j => .int (i - j)) (tVar 2) (tC (.int 1))) tNil)))) rfl sc_tree.nd (pi_range1 (by rfl) B.range (pa_cons (pv 5) pa_nil)) (blkOk_by (N := ["source", "world", "deep", "some", "name", "number", "sign", "turn"]) (sc := defScope s_law_tree) (by decide +kernel))
          (fun _ _ _ _ _ => pg_name (i := 7) sc_tree.nd rfl (Or.inl rfl)) (fun _ _ _ _ _ => pts_nil) (fun _ _ _ _ _ => by exact pe_call G (hr.mono (by omega)) (by rfl) g F.kp b .nil pass0 (pa_cons (pv 0) (pa_cons (pv 1) (pa_cons (pe_op op_sub (pv 2) pe_int) pa_nil))))) pa_nil))))))), ?_⟩
    obtain ⟨pu, su, xs, rfl, hpu, hsu, qxs⟩ := wD_parts qu
    have npl : ∀ {q : Addr} {H1 : Hp}, Src H1 p → H1 q = none → q ≠ p := fun {q H1} S n z => by
      obtain ⟨_, _, hS, _⟩ := S
      rw [z, hS] at n
      cases n
    refine q_cut (M := fun σ' H' => σ' = [some (.ref p), some (.ref pu), some (.int dp), none, none, none, none, none] ∧ Src H' p ∧ But p H H') ?_ ?_
    · refine et_B (ev_ixT (i := 1) (ev_var rfl) ev_c hpu (atI_nat (j := 1) rfl)) H (Ex.refl _) _ fun H1 e1 => ?_
      refine ite2 (fun hm => ?_) (fun hm => ⟨rfl, S.ex e1, Ex.but e1⟩)
      refine ⟨_, rfl, p, 4, rfl, S.ex e1, by decide, by decide, fun r H2 r0 r1 S2 B2 => ⟨rfl, _, rfl, ?_⟩⟩
      refine ite2 (fun c => ?_) (fun c => ⟨rfl, S2, (Ex.but e1).trans B2⟩)
      refine ⟨.ref p, rfl, _, _, rfl, rfl, ⟨by decide, by decide, by decide⟩, (by show 14 ≤ sizeLine; decide), fun q hq => ⟨p, _, rfl, S2.ex (Ex.new hq), .inl ⟨q, leafNs.map V.int, rfl, .inl ⟨SqL.of upd_same, npl S2 hq⟩, by simp [leafNs], by simp [leafNs], fun i v H3 hv S3 B3 => ?_⟩⟩⟩
      obtain ⟨n, mn, rfl⟩ := int_of_get hv
      obtain ⟨n0, n1, n2⟩ := leaf_ok n mn
      refine ⟨(by show 2 ≤ sizeLine; decide), fun t ht => ?_⟩
      refine k (.ref t) (.tuple [.str star, .int n]) _ (S3.ex (Ex.new ht)) ((((Ex.but e1).trans B2).ex (Ex.new hq)).trans B3 |>.ex (Ex.new ht)) (leaf_tree ok hm n0) ⟨.tup (SqT.of upd_same) (.cons (.str _) (.cons (.int _) .nil)), rfl, ⟨6, ?_, .tup (.cons (.str (by decide) (by decide +kernel)) (.cons (.int n1 n2) .nil))⟩, ?_⟩
      · have := tM_pos dp
        omega
      · simp only [PyData.depth, PyData.depthAll]
        omega
    rintro σ' H1 ⟨rfl, S1, B1⟩
    have N1 := B1.nl S.lst
    have hpu1 := sqT_nl N1 hpu
    have hsu1 := sqT_nl N1 hsu
    have qxs1 := L2.Dqs.nl N1 qxs (signs_noL _)
    have lx := qxs1.len
    have l6 := (areSigns_all ok.fit).2.2.1
    rw [List.length_map] at lx l6
    refine q_asgL (el_lcT (fun i => decide (0 < (dp : Int)) || decide (V.int ((W.signs.map (·.2)).getD i 0) = .int 0)) (fun i => xs.getD i .non) (ev_ixT (i := 0) (ev_var rfl) ev_c hpu1 (atI_nat (j := 0) rfl)) hsu1 (by omega) (fun _ => rfl) (fun i x H3 e3 hx => ?_) fun i x H3 e3 hx _ => ?_) fun l H3 hl e3 h3 => ?_
    · obtain ⟨q, y, m, rfl, hq, hw⟩ := sign_at qxs1 hx
      have g1 : (W.signs.map (·.2)).getD i 0 = m := by rw [List.getD_eq_getElem?_getD, List.getElem?_map, hw]; rfl
      rw [g1]
      exact et_or (et_test (ev_op (ev_var rfl) ev_c rv_I0)) fun _ => et_test (ev_op (ev_ixT (i := 1) (ev_var rfl) ev_c (ex_t e3 hq) (atI_nat (j := 1) rfl)) ev_c (rv_eq rfl))
    · have g1 : xs.getD i .non = x := by rw [List.getD_eq_getElem?_getD, hx]; rfl
      rw [g1]
      exact ev_var rfl
    have S3 := S1.ex e3
    have N3 := N1.trans (NL.ex e3)
    obtain ⟨x0, m0⟩ := zero_in ok
    obtain ⟨j0, hj0, ej0⟩ := List.getElem_of_mem m0
    refine ⟨_, rfl, _, rfl, p, _, rfl, S3, .inl ⟨l, _, rfl, .inl ⟨sq_of h3, npl S1 hl⟩, given_ne (j := j0) (by omega) ?_, ?_, fun i v H4 hv S4 B4 => ?_⟩⟩
    · have : (W.signs.map (·.2)).getD j0 0 = 0 := by rw [List.getD_eq_getElem?_getD, List.getElem?_map, List.getElem?_eq_getElem hj0, ej0]; rfl
      rw [this]
      simp
    · have := given_len xs.length (fun i => decide (0 < (dp : Int)) || decide (V.int ((W.signs.map (·.2)).getD i 0) = .int 0)) (fun i => xs.getD i .non)
      omega
    obtain ⟨j, hj, fj, rfl⟩ := given_get hv
    obtain ⟨x, hx⟩ : ∃ x, xs[j]? = some x := ⟨_, List.getElem?_eq_getElem hj⟩
    obtain ⟨q, y, m, rfl, hq, hw⟩ := sign_at qxs hx
    have g1 : (W.signs.map (·.2)).getD j 0 = m := by rw [List.getD_eq_getElem?_getD, List.getElem?_map, hw]; rfl
    have g2 : xs.getD j .non = .ref q := by rw [List.getD_eq_getElem?_getD, hx]; rfl
    rw [g1] at fj
    rw [g2]
    obtain ⟨ny, m0, m3, num, nst⟩ := sign_in ok (List.mem_of_getElem? hw)
    have B4' := (B1.ex e3).trans B4
    have N4 := B4'.nl S.lst
    refine gpair (sqT_nl N4 hq) ?_
    refine ⟨_, rfl, (by show 1 ≤ sizeLine; decide), fun t ht => ?_⟩
    have e5 := Ex.new (o := .tup [.str y]) ht
    refine el_drawC (K := K) (j := 7) (n := tM (dp - 1)) (m := dp) (R := fun d => isTreeD W d = true) (p := p) (ea_cons (ev_var (i := 5) rfl) ea_nil) ⟨m0, by omega⟩ (S4.ex e5) (fun _ => by rfl) (fun i H5 hi S5 B5 Q' kk => ?_) fun D xs ds H6 hD S6 B6 hxs tr rd ld => ?_
    · have dp1 : 1 ≤ dp := by
        rw [Bool.or_eq_true, decide_eq_true_eq, decide_eq_true_eq] at fj
        rcases fj with fj | fj
        · omega
        · injection fj with fj
          omega
      have N5 : NL H H5 := (N4.trans (NL.ex e5)).trans (B5.nl (S4.ex e5).lst)
      refine ⟨_, rfl, _, rfl, _, rfl, _, _, rfl, rfl, p, _, W, dp - 1, ?_, S5, qu.nl N5 (world_noL W), ok, by omega, fun v d H2 S2 B2 td tr => kk v d H2 S2 B2 td (tr.more (Nat.le_refl _) (by omega))⟩
      show [V.ref p, V.ref pu, V.int ((dp : Int) - 1)] = [V.ref p, V.ref pu, V.int ((dp - 1 : Nat) : Int)]
      rw [Int.ofNat_sub dp1]
      rfl
    · have lxs := tr.q.len
      have ht6 : H6 t = some (.tup [.str y]) := B6 _ _ upd_same (npl S4 ht)
      have Bt : But p H H6 := (B4'.ex e5).trans B6
      have tt : isTreeD W (.tuple (.str y :: ds)) = true := by
        rw [tree_ne nst, num, fitsDs_of rd, ld]
        simp
      have bnd : 4 + tM (dp - 1) * 3 ≤ tM dp ∨ ds = [] := by
        by_cases z : dp = 0
        · right
          rw [Bool.or_eq_true, decide_eq_true_eq, decide_eq_true_eq] at fj
          rcases fj with fj | fj
          · omega
          · injection fj with fj
            exact List.length_eq_zero_iff.mp (by omega)
        · left
          have := tM_succ (dp - 1)
          rwa [Nat.sub_add_cancel (by omega)] at this
      have fin : ∀ (H7 : Hp) (q : Addr), Ex H6 H7 → SqT K H7 q (.str y :: xs) → Q (.ref q) H7 := by
        intro H7 q e7 hq7
        have tr7 : Tr K H7 (.ref q) (.tuple (.str y :: ds)) (4 + tM (dp - 1) * ds.length) (dp + 1) := Trs.tuple (Sm.name ny) (tr.nl (NL.ex e7)) hq7 (Nat.le_refl _)
        refine k (.ref q) _ H7 (S6.ex e7) (Bt.ex e7) tt (tr7.more ?_ (Nat.le_refl _))
        have := tM_pos dp
        rcases bnd with z | rfl
        · have := Nat.mul_le_mul_left (tM (dp - 1)) (show ds.length ≤ 3 by omega)
          omega
        · simp
          omega
      refine ⟨D, xs, rfl, .inl ⟨sq_of hxs, fun l hl => ⟨t, l, [.str y], xs, rfl, rfl, st_of (Ex.new hl _ _ ht6), SqT.of upd_same, sz_of (by rw [List.length_singleton]; omega), (fun z => nomatch z), fun _ z => ?_, fun _ _ r hr => ?_⟩⟩⟩
      · exact fin _ t (Ex.new hl) (by rw [z]; exact st_of (Ex.new hl _ _ ht6))
      · exact fin _ r ((Ex.new hl).trans (Ex.new hr)) (SqT.of upd_same)
theorem ok_tree {f fD fP : Addr} {fd fdD fdP : FuncData} (F : Fun K "_law_tree" "_law_tree" s_law_tree f fd) (B : Bt mg) (b : Binds K fd ["source", "world", "deep"] []) (g : mg "_law_tree" = some (.ref f))
    (kD : PySem.W.keepIn K (.ref fD) = true) (bD : Binds K fdD ["source", "span"] []) (gD : mg "_law_draw" = some (.ref fD)) (GD : FnOk P w K mg base CX0 1 fD fdD ["source", "span"] spDraw)
    (kP : PySem.W.keepIn K (.ref fP) = true) (bP : Binds K fdP ["source", "things"] []) (gP : mg "_law_pick" = some (.ref fP)) (GP : FnOk P w K mg base CX0 2 fP fdP ["source", "things"] (spPickG K)) : ∀ n, FnOk P w K mg base CX0 (n + 2) f fd ["source", "world", "deep"] (spTree K n)
  | 0 => (fn_none fun vs H Q E ⟨_, _, _, _, _, _, _, _, h, _⟩ => Nat.not_lt_zero _ h).mono (by decide)
  | n + 1 => ok_tree_step F B b g kD bD gD GD kP bP gP GP n (ok_tree F B b g kD bD gD GD kP bP gP GP n)
end
end KW
namespace KW
open PySem PySem.Spec PyProof.Rows L2 Evl
/-- a drawn form: letters from a list of names -/
def spForm (K : PySem.W.Frag) (n : Nat) : Sp := fun vs H Q _ => ∃ (p : Addr) (u : V) (W : Wd) (dp : Nat) (l : Addr) (ys : List Str) (bk : Bool), vs = [.ref p, u, .int dp, .ref l, .bl bk] ∧ Src H p ∧ Dq K H u (wD W) ∧ W.Ok ∧ H l = some (.lst (ys.map V.str)) ∧ l ≠ p ∧ ys ≠ [] ∧ ys.length < 1000 ∧ (∀ y ∈ ys, nameS y = true) ∧ dp < n ∧
  ∀ (v : V) (d : PyData) (H' : Hp), Src H' p → But p H H' → isFormD W d = true → Tr K H' v d (tM dp) dp → Q v H'
theorem open_form {W : Wd} {d : PyData} (h : isD "tuple" d = false) (o : (eqS d "_" || isNameD d) = true) : isFormD W d = true := by rw [form_no h]; exact o
section
variable {P : Program} {w : World} {K : PySem.W.Frag} {mg : Str → Option Value} {base : Heap}
theorem sc_form : FnScope ["source", "world", "deep", "letters", "blank", "kind", "name", "number", "turn"] ["source", "world", "deep", "letters", "blank"] (defScope s_law_form) := ⟨rfl, rfl, rfl, by decide +kernel, rfl, by decide +kernel, by decide +kernel⟩
theorem ok_form_step {f fD fP : Addr} {fd fdD fdP : FuncData} (F : Fun K "_law_form" "_law_form" s_law_form f fd) (B : Bt mg) (b : Binds K fd ["source", "world", "deep", "letters", "blank"] []) (g : mg "_law_form" = some (.ref f))
    (kD : PySem.W.keepIn K (.ref fD) = true) (bD : Binds K fdD ["source", "span"] []) (gD : mg "_law_draw" = some (.ref fD)) (GD : FnOk P w K mg base CX0 1 fD fdD ["source", "span"] spDraw)
    (kP : PySem.W.keepIn K (.ref fP) = true) (bP : Binds K fdP ["source", "things"] []) (gP : mg "_law_pick" = some (.ref fP)) (GP : FnOk P w K mg base CX0 2 fP fdP ["source", "things"] (spPickG K)) (n : Nat) (G : FnOk P w K mg base CX0 (n + 2) f fd ["source", "world", "deep", "letters", "blank"] (spForm K n)) :
    FnOk P w K mg base CX0 (n + 1 + 2) f fd ["source", "world", "deep", "letters", "blank"] (spForm K (n + 1)) := by
  refine F.ok sc_form (fun vs H Q E h => ?_) (fun cdv A outer s H vs Q E hr h => ?_)
  · obtain ⟨p, u, W, dp, l, ys, bk, rfl, _⟩ := h
    rfl
  · obtain ⟨p, u, W, dp, l, ys, bk, rfl, S, qu, ok, hl, nlp, yne, ylen, ynm, hdp, k⟩ := h
    have hr2 : Room 2 _ := hr.mono (by omega)
    have hr1 : Room 1 _ := hr.mono (by omega)
    refine ⟨_, pss_cons (ps_set (i := 5) sc_form.nd rfl (Or.inl rfl) (pe_call GD hr1 (by rfl) gD kD bD .nil pass0 (pa_cons (pv 0) (pa_cons pe_int pa_nil))))
      (pss_cut (ps_if (PW.pt (pw_or (pt_cmpR op_eq (pv 2) pe_int (nomark _)) (pw_or1 (pt_cmpR op_eq (pv 5) pe_int (nomark _)))))
        (pss_cons (ps_if (PW.pt (pw_and (pt_val (pv 4)) (pw_and1 (pt_cmpR op_eq (pe_call GD hr1 (by rfl) gD kD bD .nil pass0 (pa_cons (pv 0) (pa_cons pe_int pa_nil))) pe_int (nomark _))))) (pss_one (ps_ret pe_str)) pss_nil)
        (pss_one (ps_ret (pe_call GP hr2 (by rfl) gP kP bP .nil pass0 (pa_cons (pv 0) (pa_cons (pv 3) pa_nil)))))) pss_nil)
      (pss_cut (ps_if (PW.pt (pw_and (pt_val (pv 4)) (pw_and (pt_val (pe_ix ix_tup (pv 1) pe_int (fun _ _ => rfl))) (pw_and1 (pt_cmpR op_eq (pv 5) pe_int (nomark _)))))) (pss_one (ps_ret (pe_tup (pa_cons pe_str pa_nil)))) pss_nil)
      (pss_cons (ps_asg (pe_call GP hr2 (by rfl) gP kP bP .nil pass0 (pa_cons (pv 0) (pa_cons (pe_ix ix_tup (pv 1) pe_int (fun _ _ => rfl)) pa_nil))) (pg_tup rfl (pgs_cons (pg_name (i := 6) sc_form.nd rfl (Or.inl rfl)) (pgs_cons (pg_name (i := 7) sc_form.nd rfl (Or.inl rfl)) pgs_nil))))
      (pss_one (ps_ret (pe_op op_catA (pe_tup (pa_cons (pv 6) pa_nil)) (pe_callTy call_tuple_of (by rfl) B.tuple boot_tuple (pa_cons (pe_lc (own := [("turn", 8)]) (g := gName 8) (tt := tYes) (te := tCall (spForm K n) [] (fun _ _ _ => False) (tCons (tVar 0) (tCons (tVar 1) (tCons (tOp (rI0 fun i j => .int (i - j)) (tVar 2) (tC (.int 1))) (tCons (tVar 3) (tCons (tVar 4) tNil)))))) rfl sc_form.nd (pi_range1 (by rfl) B.range (pa_cons (pv 7) pa_nil)) (blkOk_by (N := ["source", "world", "deep", "letters", "blank", "kind", "name", "number", "turn"]) (sc := defScope s_law_form) (by decide +kernel))
          (fun _ _ _ _ _ => pg_name (i := 8) sc_form.nd rfl (Or.inl rfl)) (fun _ _ _ _ _ => pts_nil) (fun _ _ _ _ _ => by exact pe_call G (hr.mono (by omega)) (by rfl) g F.kp b .nil pass0 (pa_cons (pv 0) (pa_cons (pv 1) (pa_cons (pe_op op_sub (pv 2) pe_int) (pa_cons (pv 3) (pa_cons (pv 4) pa_nil))))))) pa_nil)))))))), ?_⟩
    obtain ⟨pu, su, xs, rfl, hpu, hsu, qxs⟩ := wD_parts qu
    have npl : ∀ {q : Addr} {H1 : Hp}, Src H1 p → H1 q = none → q ≠ p := fun {q H1} S n z => by
      obtain ⟨_, _, hS, _⟩ := S
      rw [z, hS] at n
      cases n
    have tp := tM_pos dp
    refine ⟨_, rfl, p, 5, rfl, S, by decide, by decide, fun kd H1 k0 k1 S1 B1 => ?_⟩
    refine q_cut (M := fun σ' H' => σ' = [some (.ref p), some (.ref pu), some (.int dp), some (.ref l), some (.bl bk), some (.int kd), none, none, none] ∧ Src H' p ∧ But p H H' ∧ dp ≠ 0) ?_ ?_
    · refine et_or (et_test (ev_op (ev_var rfl) ev_c (rv_eq rfl))) (fun _ => et_test (ev_op (ev_var rfl) ev_c (rv_eq rfl))) H1 (Ex.refl _) _ fun H2 e2 => ?_
      refine ite2 (fun c => ?_) (fun c => ⟨rfl, S1.ex e2, B1.ex e2, fun z => ?_⟩)
      · have leaf : ∀ H3, Src H3 p → But p H H3 → tRet (tCall (spPickG K) [] (fun _ _ _ => False) (tCons (tVar 0) (tCons (tVar 3) tNil))) { nx := fun _ H' => Q .non H', rt := Q } [some (.ref p), some (.ref pu), some (.int dp), some (.ref l), some (.bl bk), some (.int kd), none, none, none] H3 := by
          intro H3 S3 B3
          refine ⟨_, rfl, _, rfl, p, _, rfl, S3, .inl ⟨l, ys.map V.str, rfl, .inl ⟨sq_of (B3 _ _ hl nlp), nlp⟩, by simpa using yne, by rw [List.length_map]; omega, fun i v H4 hv S4 B4 => ?_⟩⟩
          obtain ⟨y, my, rfl⟩ : ∃ y, y ∈ ys ∧ v = .str y := by
            obtain ⟨y, m, e⟩ := List.mem_map.mp (List.mem_of_getElem? hv)
            exact ⟨y, m, e.symm⟩
          have ny := ynm y my
          refine k (.str y) (.str y) H4 S4 (B3.trans B4) (open_form rfl ?_) ⟨.str y, rfl, ⟨2, by omega, Sm.name ny⟩, by simp [PyData.depth]⟩
          show (eqS (.str y) "_" || nameS y) = true
          rw [ny, Bool.or_true]
        refine q_whenE (b := bk) (et_B (ev_var rfl)) (fun hb H3 e3 => leaf H3 ((S1.ex e2).ex e3) ((B1.ex e2).ex e3)) fun hb H3 e3 => ?_
        refine t_draw0 rfl ((S1.ex e2).ex e3) (by decide) (by decide) fun r H4 r0 r1 S4 B4 => ?_
        refine ite2 (fun c => ?_) (fun c => leaf H4 S4 (((B1.ex e2).ex e3).trans B4))
        exact k (.str "_") (.str "_") H4 S4 (((B1.ex e2).ex e3).trans B4) (open_form rfl rfl) ⟨.str _, rfl, ⟨2, by omega, .str (by decide) (by decide +kernel)⟩, by simp [PyData.depth]⟩
      · subst z
        exact c (by simp)
    rintro σ' H2 ⟨rfl, S2, B2, dp0⟩
    refine q_cut (M := fun σ' H' => σ' = [some (.ref p), some (.ref pu), some (.int dp), some (.ref l), some (.bl bk), some (.int kd), none, none, none] ∧ Src H' p ∧ But p H H') ?_ ?_
    · have N2 := B2.nl S.lst
      refine et_and (et_B (ev_var rfl)) (fun _ => et_and (et_B (ev_ixT (i := 1) (ev_var rfl) ev_c (sqT_nl N2 hpu) (atI_nat (j := 1) rfl))) fun _ => et_test (ev_op (ev_var rfl) ev_c (rv_eq rfl))) H2 (Ex.refl _) _ fun H3 e3 => ?_
      refine ite2 (fun c => ?_) (fun c => ⟨rfl, S2.ex e3, B2.ex e3⟩)
      rw [Bool.and_eq_true, Bool.and_eq_true] at c
      refine ⟨(by show 1 ≤ sizeLine; decide), fun t ht => ?_⟩
      refine k (.ref t) (.tuple [.str star]) _ ((S2.ex e3).ex (Ex.new ht)) ((B2.ex e3).ex (Ex.new ht)) ?_ ⟨.tup (SqT.of upd_same) (.cons (.str _) .nil), rfl, ⟨4, by omega, .tup (.cons (.str (by decide) (by decide +kernel)) .nil)⟩, ?_⟩
      · rw [form_star ok, c.2.1]
        rfl
      · simp only [PyData.depth, PyData.depthAll]
        omega
    rintro σ' H3 ⟨rfl, S3, B3⟩
    have N3 := B3.nl S.lst
    have qxs3 := L2.Dqs.nl N3 qxs (signs_noL _)
    have hsu3 := sqT_nl N3 hsu
    have lx := qxs3.len
    have l6 := (areSigns_all ok.fit).2.2.1
    have l1 := (areSigns_all ok.fit).2.2.2.1
    rw [List.length_map] at lx l6 l1
    refine ⟨_, rfl, ?_⟩
    refine ev_ixT (i := 0) (ev_var rfl) ev_c (sqT_nl N3 hpu) (atI_nat (j := 0) rfl) H3 (Ex.refl _) _ fun H4 e4 => ?_
    refine ⟨p, _, rfl, S3.ex e4, .inl ⟨su, xs, rfl, .inr (ex_t e4 hsu3), (fun z => by rw [z] at lx; simp at lx; omega), by omega, fun j v H5 hv S5 B5 => ?_⟩⟩
    obtain ⟨q, y, m, rfl, hq, hw⟩ := sign_at qxs hv
    obtain ⟨ny, m0, m3, num, nst⟩ := sign_in ok (List.mem_of_getElem? hw)
    have B5' := (B3.ex e4).trans B5
    have N5 := B5'.nl S.lst
    refine gpair (sqT_nl N5 hq) ?_
    refine ⟨_, rfl, (by show 1 ≤ sizeLine; decide), fun t ht => ?_⟩
    have e5 := Ex.new (o := .tup [.str y]) ht
    refine el_drawC (K := K) (j := 8) (n := tM (dp - 1)) (m := dp - 1) (R := fun d => isFormD W d = true) (p := p) (ea_cons (ev_var (i := 7) rfl) ea_nil) ⟨m0, by omega⟩ (S5.ex e5) (fun _ => by rfl) (fun i H6 hi S6 B6 Q' kk => ?_) fun D xs2 ds H6 hD S6 B6 hxs tr rd ld => ?_
    · have N6 : NL H H6 := (N5.trans (NL.ex e5)).trans (B6.nl (S5.ex e5).lst)
      have hl6 : H6 l = some (.lst (ys.map V.str)) := B6 _ _ (e5 _ _ (B5' _ _ hl nlp)) nlp
      refine ⟨_, rfl, _, rfl, _, rfl, _, _, rfl, rfl, _, rfl, _, rfl, p, _, W, dp - 1, l, ys, bk, ?_, S6, qu.nl N6 (world_noL W), ok, hl6, nlp, yne, ylen, ynm, by omega, fun v d H2 S2 B2 td tr => kk v d H2 S2 B2 td (tr.more (Nat.le_refl _) (by omega))⟩
      show [V.ref p, V.ref pu, V.int ((dp : Int) - 1), V.ref l, V.bl bk] = [V.ref p, V.ref pu, V.int ((dp - 1 : Nat) : Int), V.ref l, V.bl bk]
      rw [Int.ofNat_sub (by omega)]
      rfl
    · have lxs := tr.q.len
      have ht6 : H6 t = some (.tup [.str y]) := B6 _ _ upd_same (npl S5 ht)
      have Bt : But p H H6 := (B5'.ex e5).trans B6
      have tt : isFormD W (.tuple (.str y :: ds)) = true := by
        rw [form_ne nst, num, fitsDs_of rd, ld]
        simp
      have bnd : 4 + tM (dp - 1) * 3 ≤ tM dp := by
        have := tM_succ (dp - 1)
        rwa [Nat.sub_add_cancel (by omega)] at this
      have fin : ∀ (H7 : Hp) (q : Addr), Ex H6 H7 → SqT K H7 q (.str y :: xs2) → Q (.ref q) H7 := by
        intro H7 q e7 hq7
        have tr7 : Tr K H7 (.ref q) (.tuple (.str y :: ds)) (4 + tM (dp - 1) * ds.length) (dp - 1 + 1) := Trs.tuple (Sm.name ny) (tr.nl (NL.ex e7)) hq7 (Nat.le_refl _)
        refine k (.ref q) _ H7 (S6.ex e7) (Bt.ex e7) tt (tr7.more ?_ (by omega))
        have := Nat.mul_le_mul_left (tM (dp - 1)) (show ds.length ≤ 3 by omega)
        omega
      refine ⟨D, xs2, rfl, .inl ⟨sq_of hxs, fun r hr0 => ⟨t, r, [.str y], xs2, rfl, rfl, st_of (Ex.new hr0 _ _ ht6), SqT.of upd_same, sz_of (by rw [List.length_singleton]; omega), (fun z => nomatch z), fun _ z => ?_, fun _ _ r2 hr2 => ?_⟩⟩⟩
      · exact fin _ t (Ex.new hr0) (by rw [z]; exact st_of (Ex.new hr0 _ _ ht6))
      · exact fin _ r2 ((Ex.new hr0).trans (Ex.new hr2)) (SqT.of upd_same)
theorem ok_form {f fD fP : Addr} {fd fdD fdP : FuncData} (F : Fun K "_law_form" "_law_form" s_law_form f fd) (B : Bt mg) (b : Binds K fd ["source", "world", "deep", "letters", "blank"] []) (g : mg "_law_form" = some (.ref f))
    (kD : PySem.W.keepIn K (.ref fD) = true) (bD : Binds K fdD ["source", "span"] []) (gD : mg "_law_draw" = some (.ref fD)) (GD : FnOk P w K mg base CX0 1 fD fdD ["source", "span"] spDraw)
    (kP : PySem.W.keepIn K (.ref fP) = true) (bP : Binds K fdP ["source", "things"] []) (gP : mg "_law_pick" = some (.ref fP)) (GP : FnOk P w K mg base CX0 2 fP fdP ["source", "things"] (spPickG K)) : ∀ n, FnOk P w K mg base CX0 (n + 2) f fd ["source", "world", "deep", "letters", "blank"] (spForm K n)
  | 0 => (fn_none fun vs H Q E ⟨_, _, _, _, _, _, _, _, _, _, _, _, _, _, _, _, h, _⟩ => Nat.not_lt_zero _ h).mono (by decide)
  | n + 1 => ok_form_step F B b g kD bD gD GD kP bP gP GP n (ok_form F B b g kD bD gD GD kP bP gP GP n)
end
end KW
namespace KW
open PySem PySem.Spec PyProof.Rows L2 Evl
/-- what is known of World's making -/
structure WM (P : Program) (w : World) (K : PySem.W.Frag) (mg : Str → Option Value) (base : Heap) (C CB fI : Addr) (fd : FuncData) (gg : List Value → List Value → List Value) (ds : List Value) : Prop where
  mkC : Mk K C fI
  T : WC K C
  g : mg "World" = some (.ref C)
  G : FnOk P w K mg base (CX P w) 4 fI fd ["self", "signs", "more"] (spWorld K C CB)
  kb : KBn K fd ["self", "signs", "more"] 2 ["more"] gg (fun vs zs => vs ++ zs)
  nb : Binds K fd ["self", "signs", "more"] ds
  nv : Vals [.bl false] ds
section
variable {K : PySem.W.Frag} {C CB x dx : Addr} {H : Hp} {v : V} {d : PyData} {m : Bool} {Q : VK} {E : XK}
/-- the making of a world of any value -/
theorem mk_world (hx : H x = none) (hdx : H dx = none) (ne : dx ≠ x) (q : Dq K H v d) (s : Fit d) (hpl : ∀ ds, d = .tuple ds → areSigns ds = true → ∃ p ys, v = .ref p ∧ PlT H p ys ∧ Dqs K H ys ds)
    (k1 : ∀ ds, seqD d = some ds → areSigns ds = true → ∀ H', Ex H H' → WAt K C H' x (wOf ds m) → Q (.ref x) H')
    (k2 : signsD d = false → ∀ e H', H e = none → Ex H H' → H' e = some (.xd [("value", v)]) → E (.ref CB) (some e) H') :
    spWorld K C CB [.ref x, v, .bl m] (upd (upd H dx (.own x)) x (.ins C dx [])) (fun v H3 => v = .non ∧ Q (.ref x) H3) E := by
  have e1 : Ex H (upd (upd H dx (.own x)) x (.ins C dx [])) := Ex.mut (Ex.new hdx) hx
  refine ⟨x, dx, v, m, d, rfl, upd_same, (upd_ne ne).trans upd_same, q.ex e1, s, fun ds h ha => ?_, fun ds h1 h2 H' kp wa => ⟨rfl, ?_⟩, fun h e H' he e2 h3 => ?_⟩
  · obtain ⟨p, ys, rfl, hp, qs⟩ := hpl ds h ha
    exact ⟨p, ys, rfl, hp.ex e1, qs.ex e1⟩
  · refine k1 ds h1 h2 H' (fun b o hb => kp b o (e1 _ _ hb) fun z => ?_) wa
    rw [z, hx] at hb
    cases hb
  · exact k2 h e H' (fresh_back e1 he) (e1.trans e2) h3
theorem mk_worldR {R : VK} (hx : H x = none) (hdx : H dx = none) (ne : dx ≠ x) (q : Dq K H v d) (s : Fit d) (hpl : ∀ ds, d = .tuple ds → areSigns ds = true → ∃ p ys, v = .ref p ∧ PlT H p ys ∧ Dqs K H ys ds)
    (k1 : ∀ ds, seqD d = some ds → areSigns ds = true → ∀ H', Ex H H' → WAt K C H' x (wOf ds m) → R .non H')
    (k2 : signsD d = false → ∀ e H', H e = none → Ex H H' → H' e = some (.xd [("value", v)]) → E (.ref CB) (some e) H') :
    spWorld K C CB [.ref x, v, .bl m] (upd (upd H dx (.own x)) x (.ins C dx [])) R E := by
  have e1 : Ex H (upd (upd H dx (.own x)) x (.ins C dx [])) := Ex.mut (Ex.new hdx) hx
  refine ⟨x, dx, v, m, d, rfl, upd_same, (upd_ne ne).trans upd_same, q.ex e1, s, fun ds h ha => ?_, fun ds h1 h2 H' kp wa => ?_, fun h e H' he e2 h3 => ?_⟩
  · obtain ⟨p, ys, rfl, hp, qs⟩ := hpl ds h ha
    exact ⟨p, ys, rfl, hp.ex e1, qs.ex e1⟩
  · refine k1 ds h1 h2 H' (fun b o hb => kp b o (e1 _ _ hb) fun z => ?_) wa
    rw [z, hx] at hb
    cases hb
  · exact k2 h e H' (fresh_back e1 he) (e1.trans e2) h3
/-- the world that a row of signs tells is the one it was told of -/
theorem wOf_back {W : Wd} : wOf (W.signs.map signD) W.more = W := by
  unfold wOf
  rw [List.map_map]
  have : ((fun d => (nameOf d, numOf d)) ∘ signD) = id := by
    funext p
    rfl
  rw [this, List.map_id]
theorem signs_fit {W : Wd} (ok : W.Ok) : Fit (.tuple (W.signs.map signD)) := by
  have h := areSigns_all ok.fit
  refine .tuple (by omega) fun d m => ?_
  obtain ⟨y, i, rfl, hn, _⟩ := sign_is (List.all_eq_true.mp h.1 d m)
  refine .tuple (by simp) fun e me => ?_
  rcases List.mem_cons.mp me with rfl | me
  · exact .str (by have := name_len hn; omega) (name_ok hn)
  · rw [List.mem_singleton] at me
    rw [me]
    exact .flat rfl rfl rfl
end
/-- a drawn world: (signs, more), the signs in a tuple without a dict -/
structure Wt (K : PySem.W.Frag) (H : Hp) (u : V) (W : Wd) : Prop where
  q : Dq K H u (wD W)
  ok : W.Ok
  pl : ∃ p s xs, u = .ref p ∧ SqT K H p [.ref s, .bl W.more] ∧ PlT H s xs ∧ Dqs K H xs (W.signs.map signD)
theorem Wt.nl {K : PySem.W.Frag} {H H' : Hp} {u : V} {W : Wd} (k : NL H H') (h : Wt K H u W) : Wt K H' u W := ⟨h.q.nl k (world_noL W), h.ok, let ⟨p, s, xs, a, b, c, d⟩ := h.pl; ⟨p, s, xs, a, sqT_nl k b, plT_nl k c, d.nl k (signs_noL _)⟩⟩
/-- a world made of a drawn one -/
def spMade (K : PySem.W.Frag) (C : Addr) : Sp := fun vs H Q _ => ∃ u W, vs = [u] ∧ Wt K H u W ∧ ∀ x H', H x = none → Ex H H' → WAt K C H' x W → Q (.ref x) H'
section
variable {P : Program} {w : World} {K : PySem.W.Frag} {mg : Str → Option Value} {base : Heap} {C CB fI : Addr} {fdI : FuncData} {gg : List Value → List Value → List Value} {dsI : List Value}
theorem sc_made : FnScope ["world"] ["world"] (defScope s_law_made) := ⟨rfl, rfl, rfl, by decide +kernel, rfl, by decide +kernel, by decide +kernel⟩
theorem ok_made {f : Addr} {fd : FuncData} (F : Fun K "_law_made" "_law_made" s_law_made f fd) (M : WM P w K mg base C CB fI fdI gg dsI) : FnOk P w K mg base CX0 6 f fd ["world"] (spMade K C) := by
  refine F.ok sc_made (fun vs H Q E h => ?_) (fun cdv A outer s H vs Q E hr h => ?_)
  · obtain ⟨u, W, rfl, _⟩ := h
    rfl
  · obtain ⟨u, W, rfl, hw, k⟩ := h
    refine ⟨_, pss_one (ps_ret (pe_makeK M.mkC M.G hr (by rfl) M.g M.kb passL (pa_cons (pe_ix ix_tup (pv 0) pe_int (fun _ _ => rfl)) pa_nil) (pk_cons (pe_ix ix_tup (pv 0) pe_int (fun _ _ => rfl)) pk_nil))), ?_⟩
    obtain ⟨p, s, xs, rfl, hp, hs, qs⟩ := hw.pl
    refine ev_ixT (i := 0) (ev_var rfl) ev_c hp (atI_nat (j := 0) rfl) H (Ex.refl _) _ fun H1 e1 => ?_
    refine ev_ixT (i := 1) (ev_var rfl) ev_c (ex_t e1 hp) (atI_nat (j := 1) rfl) H1 (Ex.refl _) _ fun H2 e2 => ⟨rfl, rfl, fun x dx hx hdx ne => ?_⟩
    have e12 := e1.trans e2
    refine mk_world hx hdx ne (.tup (hs.ex e12).sq (qs.ex e12)) (signs_fit hw.ok) (fun ds h _ => ?_) (fun ds h1 h2 H' e3 wa => ?_) fun h => ?_
    · cases h
      exact ⟨s, xs, rfl, hs.ex e12, qs.ex e12⟩
    · cases h1
      rw [wOf_back] at wa
      exact k x H' (fresh_back e12 hx) (e12.trans e3) wa
    · have : areSigns (W.signs.map signD) = false := h
      rw [hw.ok.fit] at this
      cases this
end
end KW
namespace KW
open PySem PySem.Spec PyProof.Rows L2 Evl
def unS : V → Str
  | .str x => x
  | _ => ""
theorem strs_perm {ys : List V} {xs : List Str} (h : ys.Perm (xs.map V.str)) : ∃ zs : List Str, ys = zs.map V.str ∧ zs.Perm xs := by
  refine ⟨ys.map unS, ?_, ?_⟩
  · rw [List.map_map]
    conv => lhs; rw [← List.map_id ys]
    refine List.map_congr_left fun v hv => ?_
    obtain ⟨x, _, rfl⟩ := List.mem_map.mp (h.mem_iff.mp hv)
    rfl
  · have := h.map unS
    rw [List.map_map] at this
    have e : (unS ∘ V.str) = id := by
      funext x
      rfl
    rwa [e, List.map_id] at this
theorem dqs_perm {K : PySem.W.Frag} {H : Hp} {ys xs : List V} (h : ys.Perm xs) : ∀ {ds : List PyData}, Dqs K H xs ds → ∃ es, es.Perm ds ∧ Dqs K H ys es := by
  induction h with
  | nil => exact fun q => ⟨_, List.Perm.refl _, q⟩
  | cons x _ ih =>
    intro ds q
    cases q with
    | cons a q =>
      obtain ⟨es, p, r⟩ := ih q
      exact ⟨_, p.cons _, .cons a r⟩
  | swap x y l =>
    intro ds q
    cases q with
    | cons a q =>
      cases q with
      | cons b q => exact ⟨_, List.Perm.swap _ _ _, .cons b (.cons a q)⟩
  | trans _ _ ih1 ih2 =>
    intro ds q
    obtain ⟨es, p, r⟩ := ih2 q
    obtain ⟨fs, p2, r2⟩ := ih1 r
    exact ⟨fs, p2.trans p, r2⟩
theorem areSigns_perm {es ds : List PyData} (p : es.Perm ds) (h : areSigns ds = true) : areSigns es = true := by
  unfold areSigns at h ⊢
  simp only [Bool.and_eq_true, decide_eq_true_eq, List.all_eq_true] at h ⊢
  rw [p.length_eq]
  exact ⟨h.1, fun d m => h.2.1 d (p.mem_iff.mp m), (p.map nameOf).nodup_iff.mpr h.2.2.1, (p.map numOf).mem_iff.mpr h.2.2.2⟩
theorem fst_sub {α β : Type} : ∀ (a : List α) (b : List β), List.Sublist ((a.zip b).map Prod.fst) a
  | [], _ => by simp
  | x :: a, [] => by simp
  | x :: a, y :: b => by
    simp only [List.zip_cons_cons, List.map_cons]
    exact (fst_sub a b).cons₂ x
theorem nodup_set {w : Str} : ∀ {l : List Str} {j : Nat}, l.Nodup → w ∉ l → (l.set j w).Nodup
  | [], _, _, _ => by simp
  | x :: l, 0, h, n => by
    rw [List.set_cons_zero, List.nodup_cons]
    rw [List.nodup_cons] at h
    exact ⟨fun z => n (List.mem_cons_of_mem _ z), h.2⟩
  | x :: l, j + 1, h, n => by
    rw [List.set_cons_succ, List.nodup_cons]
    rw [List.nodup_cons] at h
    refine ⟨fun z => ?_, nodup_set h.2 fun z => n (List.mem_cons_of_mem _ z)⟩
    rcases List.mem_or_eq_of_mem_set z with z | z
    · exact h.1 z
    · exact n (z ▸ List.mem_cons_self ..)
theorem inV_strs (x : Str) (xs : List Str) : inV (.str x) (xs.map V.str) = decide (x ∈ xs) := by
  unfold inV
  rw [Bool.eq_iff_iff, List.any_eq_true, decide_eq_true_eq]
  constructor
  · rintro ⟨v, m, e⟩
    obtain ⟨y, my, rfl⟩ := List.mem_map.mp m
    have : (y == x) = true := e
    rw [beq_iff_eq] at this
    exact this ▸ my
  · intro m
    exact ⟨.str x, List.mem_map_of_mem m, (show (x == x) = true from beq_self_eq_true x)⟩
theorem strs_flat (xs : List Str) : (xs.map V.str).all flatV = true := by
  rw [List.all_map, List.all_eq_true]
  intro x _
  rfl
def someNames : List Str := ["nil", "one", "two", "pair", "leaf", "x", "y", "alike", "fits", "abcdefgh"]
theorem some_ok : someNames.Nodup ∧ (∀ x ∈ someNames, nameS x = true) ∧ someNames.length = 10 := by decide +kernel
def lotNs : List (List Int) := [[2], [0, 2], [0, 1, 2], [0, 1], [0, 0, 2], [1, 1], [3], [0], [0, 0, 1], [0, 0, 0]]
theorem lot_ok : ∀ l ∈ lotNs, l.length ≤ 3 ∧ ∀ n ∈ l, 0 ≤ n ∧ n ≤ 3 := by decide
def spDrawnWorld (K : PySem.W.Frag) : Sp := fun vs H Q _ => ∃ p, vs = [.ref p] ∧ Src H p ∧ ∀ (u : V) (W : Wd) (H' : Hp), Src H' p → But p H H' → Wt K H' u W → Q u H'
theorem zip_signs {names : List Str} {nums : List Int} (nd : names.Nodup) (nm : ∀ x ∈ names, nameS x = true) (l5 : names.length = 5) (hn : ∀ n ∈ nums, 0 ≤ n ∧ n ≤ 3) (ln : nums.length ≤ 4) (h0 : nums[0]? = some 0) : areSigns ((names.zip nums).map signD) = true := by
  unfold areSigns
  simp only [Bool.and_eq_true, decide_eq_true_eq, List.all_eq_true, List.length_map, List.length_zip, List.map_map]
  have lp : 0 < nums.length := by
    have := (List.getElem?_eq_some_iff.mp h0).1
    exact this
  refine ⟨by omega, fun d m => ?_, ?_, ?_⟩
  · obtain ⟨⟨x, n⟩, mz, rfl⟩ := List.mem_map.mp m
    have := List.of_mem_zip mz
    have a := nm x this.1
    have b := hn n this.2
    show (nameS x && (isIntD (.int n) && upTo3 (.int n))) = true
    rw [a]
    have : upTo3 (.int n) = true := by
      show (decide (0 ≤ n) && decide (n ≤ 3)) = true
      simp [b]
    rw [this]
    rfl
  · have e : (nameOf ∘ signD) = Prod.fst := by
      funext x
      rfl
    rw [e]
    exact nd.sublist (fst_sub _ _)
  · have e : (numOf ∘ signD) = Prod.snd := by
      funext x
      rfl
    rw [e]
    cases nums with
    | nil => cases h0
    | cons n nums =>
      cases names with
      | nil => cases l5
      | cons x names =>
        have : n = 0 := by simpa using h0
        simp [this]
def taC : List Int → TA
  | [] => tNil
  | n :: ns => tCons (tC (.int n)) (taC ns)
def taL : List (List Int) → TA
  | [] => tNil
  | l :: ls => tCons (tLst (taC l)) (taL ls)
theorem ta_c {σ : L2.St} : ∀ (ns : List Int) {H : Hp} {Q : List V → Hp → Prop}, Q (ns.map V.int) H → taC ns σ H Q
  | [], _, _, q => q
  | n :: ns, H, Q, q => ta_c ns (Q := fun xs H2 => Q (V.int n :: xs) H2) q
theorem ta_l {σ : L2.St} : ∀ (ls : List (List Int)) {H : Hp} {Q : List V → Hp → Prop}, (∀ l ∈ ls, l.length ≤ 1000) → (∀ ps H', Ex H H' → (∀ a ∈ ps, H a = none) → Paired (fun a (l : List Int) => H' a = some (.lst (l.map V.int))) ps ls → Q (ps.map V.ref) H') → taL ls σ H Q
  | [], H, Q, _, q => q [] H (Ex.refl _) (fun _ m => nomatch m) .nil
  | l :: ls, H, Q, z, q => by
    show taC l σ H fun xs H1 => xs.length ≤ sizeLine ∧ ∀ p, H1 p = none → taL ls σ (upd H1 p (.lst xs)) fun ys H2 => Q (V.ref p :: ys) H2
    refine ta_c l ⟨sz_of (by have := z l (List.mem_cons_self ..); rw [List.length_map]; omega), fun p hp => ?_⟩
    refine ta_l ls (fun m h => z m (List.mem_cons_of_mem _ h)) fun ps H' e f pr => ?_
    refine q (p :: ps) H' ((Ex.new hp).trans e) (fun a m => ?_) (.cons (e _ _ upd_same) pr)
    rcases List.mem_cons.mp m with rfl | m
    · exact hp
    · exact fresh_back (Ex.new hp) (f a m)
theorem lots_k {σ : L2.St} {H : Hp} {Q : List V → Hp → Prop} (q : ∀ ps H', Ex H H' → (∀ a ∈ ps, H a = none) → Paired (fun a (l : List Int) => H' a = some (.lst (l.map V.int))) ps lotNs → Q (ps.map V.ref) H') : (tCons (tLst (tCons (tC (.int 2)) tNil)) (tCons (tLst (tCons (tC (.int 0)) (tCons (tC (.int 2)) tNil))) (tCons (tLst (tCons (tC (.int 0)) (tCons (tC (.int 1)) (tCons (tC (.int 2)) tNil)))) (tCons (tLst (tCons (tC (.int 0)) (tCons (tC (.int 1)) tNil))) (tCons (tLst (tCons (tC (.int 0)) (tCons (tC (.int 0)) (tCons (tC (.int 2)) tNil)))) (tCons (tLst (tCons (tC (.int 1)) (tCons (tC (.int 1)) tNil))) (tCons (tLst (tCons (tC (.int 3)) tNil)) (tCons (tLst (tCons (tC (.int 0)) tNil)) (tCons (tLst (tCons (tC (.int 0)) (tCons (tC (.int 0)) (tCons (tC (.int 1)) tNil)))) (tCons (tLst (tCons (tC (.int 0)) (tCons (tC (.int 0)) (tCons (tC (.int 0)) tNil)))) tNil)))))))))) σ H Q := by
  have h := ta_l (σ := σ) (H := H) (Q := Q) lotNs (fun l m => Nat.le_trans (lot_ok l m).1 (by decide)) q
  simpa only [taL, taC, lotNs] using h
theorem q_lots {σ : L2.St} {H : Hp} {tz : TS} {D : Ends} {i : Nat} (q : ∀ ps H' lt, Ex H H' → (∀ a ∈ ps, H a = none) → H' lt = none → Paired (fun a (l : List Int) => H' a = some (.lst (l.map V.int))) ps lotNs → tz D (σ.set i (some (.ref lt))) (upd H' lt (.lst (ps.map V.ref)))) : tSeq (tAsg (tLst (tCons (tLst (tCons (tC (.int 2)) tNil)) (tCons (tLst (tCons (tC (.int 0)) (tCons (tC (.int 2)) tNil))) (tCons (tLst (tCons (tC (.int 0)) (tCons (tC (.int 1)) (tCons (tC (.int 2)) tNil)))) (tCons (tLst (tCons (tC (.int 0)) (tCons (tC (.int 1)) tNil))) (tCons (tLst (tCons (tC (.int 0)) (tCons (tC (.int 0)) (tCons (tC (.int 2)) tNil)))) (tCons (tLst (tCons (tC (.int 1)) (tCons (tC (.int 1)) tNil))) (tCons (tLst (tCons (tC (.int 3)) tNil)) (tCons (tLst (tCons (tC (.int 0)) tNil)) (tCons (tLst (tCons (tC (.int 0)) (tCons (tC (.int 0)) (tCons (tC (.int 1)) tNil)))) (tCons (tLst (tCons (tC (.int 0)) (tCons (tC (.int 0)) (tCons (tC (.int 0)) tNil)))) tNil))))))))))) (gName i)) tz D σ H := by
  show (tCons (tLst (tCons (tC (.int 2)) tNil)) (tCons (tLst (tCons (tC (.int 0)) (tCons (tC (.int 2)) tNil))) (tCons (tLst (tCons (tC (.int 0)) (tCons (tC (.int 1)) (tCons (tC (.int 2)) tNil)))) (tCons (tLst (tCons (tC (.int 0)) (tCons (tC (.int 1)) tNil))) (tCons (tLst (tCons (tC (.int 0)) (tCons (tC (.int 0)) (tCons (tC (.int 2)) tNil)))) (tCons (tLst (tCons (tC (.int 1)) (tCons (tC (.int 1)) tNil))) (tCons (tLst (tCons (tC (.int 3)) tNil)) (tCons (tLst (tCons (tC (.int 0)) tNil)) (tCons (tLst (tCons (tC (.int 0)) (tCons (tC (.int 0)) (tCons (tC (.int 1)) tNil)))) (tCons (tLst (tCons (tC (.int 0)) (tCons (tC (.int 0)) (tCons (tC (.int 0)) tNil)))) tNil)))))))))) σ H fun xs H1 => xs.length ≤ sizeLine ∧ ∀ p, H1 p = none → tz D (σ.set i (some (.ref p))) (upd H1 p (.lst xs))
  exact lots_k (Q := fun xs H1 => xs.length ≤ sizeLine ∧ ∀ p, H1 p = none → tz D (σ.set i (some (.ref p))) (upd H1 p (.lst xs))) fun ps H' e f pr => ⟨(by have := pr.length; rw [List.length_map, this]; decide), fun p hp => q ps H' p e f hp pr⟩
theorem pd_get {α β : Type} {R : α → β → Prop} : ∀ {as : List α} {bs : List β} {i : Nat} {a : α}, Paired R as bs → as[i]? = some a → ∃ b, bs[i]? = some b ∧ R a b
  | _, _, 0, _, .cons h t, e => by
    cases e
    exact ⟨_, rfl, h⟩
  | _, _, i + 1, _, .cons h t, e => by
    rw [List.getElem?_cons_succ] at e
    obtain ⟨b, h1, h2⟩ := pd_get t e
    exact ⟨b, by rw [List.getElem?_cons_succ]; exact h1, h2⟩
section
variable {P : Program} {w : World} {K : PySem.W.Frag} {mg : Str → Option Value} {base : Heap}
theorem sc_dw : FnScope ["source", "some", "word", "names", "lots", "numbers", "signs", "name", "number"] ["source"] (defScope s_law_world) := ⟨rfl, rfl, rfl, by decide +kernel, rfl, by decide +kernel, by decide +kernel⟩
theorem ok_dw {f fD fP fM fW : Addr} {fd fdD fdP fdM fdW : FuncData} (F : Fun K "_law_world" "_law_world" s_law_world f fd) (B : Bt mg)
    (kD : PySem.W.keepIn K (.ref fD) = true) (bD : Binds K fdD ["source", "span"] []) (gD : mg "_law_draw" = some (.ref fD)) (GD : FnOk P w K mg base CX0 1 fD fdD ["source", "span"] spDraw)
    (kP : PySem.W.keepIn K (.ref fP) = true) (bP : Binds K fdP ["source", "things"] []) (gP : mg "_law_pick" = some (.ref fP)) (GP : FnOk P w K mg base CX0 2 fP fdP ["source", "things"] (spPickG K))
    (kM : PySem.W.keepIn K (.ref fM) = true) (bM : Binds K fdM ["source", "things"] []) (gM : mg "_law_mixed" = some (.ref fM)) (GM : FnOk P w K mg base CX0 2 fM fdM ["source", "things"] (spMixed K))
    (kW : PySem.W.keepIn K (.ref fW) = true) (bW : Binds K fdW ["source"] []) (gW : mg "_law_word" = some (.ref fW)) (GW : FnOk P w K mg base CX0 3 fW fdW ["source"] (spWord K)) :
    FnOk P w K mg base CX0 4 f fd ["source"] (spDrawnWorld K) := by
  refine F.ok sc_dw (fun vs H Q E h => ?_) (fun cdv A outer s H vs Q E hr h => ?_)
  · obtain ⟨p, rfl, _⟩ := h
    rfl
  · obtain ⟨p, rfl, S, k⟩ := h
    have hr2 : Room 2 _ := hr.mono (by decide)
    have hr1 : Room 1 _ := hr.mono (by decide)
    refine ⟨_, pss_cons (ps_set (i := 1) sc_dw.nd rfl (Or.inl rfl) (pe_lst (pa_cons pe_str (pa_cons pe_str (pa_cons pe_str (pa_cons pe_str (pa_cons pe_str (pa_cons pe_str (pa_cons pe_str (pa_cons pe_str (pa_cons pe_str (pa_cons pe_str pa_nil))))))))))))
      (pss_cons (ps_set (i := 2) sc_dw.nd rfl (Or.inl rfl) (pe_call GW hr (by rfl) gW kW bW .nil pass0 (pa_cons (pv 0) pa_nil)))
      (pss_cons (ps_set (i := 3) sc_dw.nd rfl (Or.inl rfl) (pe_slice sl_list (pe_call GM hr2 (by rfl) gM kM bM .nil pass0 (pa_cons (pv 0) (pa_cons (pv 1) pa_nil))) po_none (po_some pe_int)))
      (pss_cut (ps_if (pt_cmpR op_notIn_seq (pv 2) (pv 3) rfl) (pss_one (ps_asg (pv 2) (pg_sub (pv 3) (pe_call GD hr1 (by rfl) gD kD bD .nil pass0 (pa_cons (pv 0) (pa_cons pe_int pa_nil))) set_list))) pss_nil)
      (pss_cons (ps_set (i := 4) sc_dw.nd rfl (Or.inl rfl) (pe_lst (pa_cons (pe_lst (pa_cons pe_int pa_nil)) (pa_cons (pe_lst (pa_cons pe_int (pa_cons pe_int pa_nil))) (pa_cons (pe_lst (pa_cons pe_int (pa_cons pe_int (pa_cons pe_int pa_nil)))) (pa_cons (pe_lst (pa_cons pe_int (pa_cons pe_int pa_nil))) (pa_cons (pe_lst (pa_cons pe_int (pa_cons pe_int (pa_cons pe_int pa_nil))))
          (pa_cons (pe_lst (pa_cons pe_int (pa_cons pe_int pa_nil))) (pa_cons (pe_lst (pa_cons pe_int pa_nil)) (pa_cons (pe_lst (pa_cons pe_int pa_nil)) (pa_cons (pe_lst (pa_cons pe_int (pa_cons pe_int (pa_cons pe_int pa_nil)))) (pa_cons (pe_lst (pa_cons pe_int (pa_cons pe_int (pa_cons pe_int pa_nil)))) pa_nil))))))))))))
      (pss_cons (ps_set (i := 5) sc_dw.nd rfl (Or.inl rfl) (pe_op op_cat (pe_lst (pa_cons pe_int pa_nil)) (pe_call GP hr2 (by rfl) gP kP bP .nil pass0 (pa_cons (pv 0) (pa_cons (pv 4) pa_nil)))))
      (pss_cons (ps_setLc (i := 6) (own := [("name", 7), ("number", 8)]) (g := gTup K 2 (gCons (gName 7) (gCons (gName 8) gNil))) (tt := tYes) (te := tTup (tCons (tVar 7) (tCons (tVar 8) tNil))) rfl sc_dw.nd rfl rfl (sw_true rfl rfl rfl (by decide +kernel)) (pi_zip (by rfl) B.zip (pa_cons (pv 3) (pa_cons (pv 5) pa_nil))) (blkOk_by (N := ["source", "some", "word", "names", "lots", "numbers", "signs", "name", "number"]) (sc := defScope s_law_world) (by decide +kernel))
          (fun _ _ _ _ _ => by exact pg_tup rfl (pgs_cons (pg_name (i := 7) sc_dw.nd rfl (Or.inl rfl)) (pgs_cons (pg_name (i := 8) sc_dw.nd rfl (Or.inl rfl)) pgs_nil))) (fun _ _ _ _ _ => pts_nil) (fun _ _ _ _ _ => by exact pe_tup (pa_cons (pv 7) (pa_cons (pv 8) pa_nil))))
      (pss_one (ps_ret (pe_tup (pa_cons (pe_callTy call_tupleP (by rfl) B.tuple boot_tuple (pa_cons (pe_call GM hr2 (by rfl) gM kM bM .nil pass0 (pa_cons (pv 0) (pa_cons (pv 6) pa_nil))) pa_nil)) (pa_cons (pe_cmpR op_eq (pe_call GD hr1 (by rfl) gD kD bD .nil pass0 (pa_cons (pv 0) (pa_cons pe_int pa_nil))) pe_int (nomark _)) pa_nil))))))))))), ?_⟩
    have npl : ∀ {q : Addr} {H1 : Hp}, Src H1 p → H1 q = none → q ≠ p := fun {q H1} S n z => by
      obtain ⟨_, _, hS, _⟩ := S
      rw [z, hS] at n
      cases n
    have hp0 : H p ≠ none := by
      obtain ⟨_, _, hS, _⟩ := S
      rw [hS]
      exact fun z => nomatch z
    refine ⟨(by show 10 ≤ sizeLine; decide), fun sm hsm => ?_⟩
    have e1 := Ex.new (o := .lst (someNames.map V.str)) hsm
    have h1 : upd H sm (.lst (someNames.map V.str)) sm = some (.lst (someNames.map V.str)) := upd_same
    generalize hH1 : upd H sm (.lst (someNames.map V.str)) = H1 at e1 h1
    have hH1' : upd H sm (.lst [V.str "nil", V.str "one", V.str "two", V.str "pair", V.str "leaf", V.str "x", V.str "y", V.str "alike", V.str "fits", V.str "abcdefgh"]) = H1 := hH1
    rw [hH1']
    refine ⟨_, rfl, p, rfl, S.ex e1, fun z H2 nz S2 B2 => ?_⟩
    have h2 := B2 _ _ h1 (npl S hsm)
    obtain ⟨snd, snm, sl⟩ := some_ok
    refine ⟨_, rfl, _, rfl, p, sm, someNames.map V.str, rfl, S2, .inl (sq_of h2), by rw [List.length_map, sl]; decide, fun nl ys H3 hnl pm S3 B3 h3 => ?_⟩
    obtain ⟨zs, rfl, pz⟩ := strs_perm pm
    have lz : zs.length = 10 := pz.length_eq.trans sl
    refine ⟨5, rfl, nl, zs.map V.str, rfl, sq_of h3, fun na hna => ?_⟩
    have ec : cutV (zs.map V.str) none (some 5) = (zs.take 5).map V.str := by
      unfold cutV
      rw [List.length_map, lz, List.map_take]
      rfl
    rw [ec]
    have e4 := Ex.new (o := .lst ((zs.take 5).map V.str)) hna
    have h4 : upd H3 na (.lst ((zs.take 5).map V.str)) na = some (.lst ((zs.take 5).map V.str)) := upd_same
    generalize upd H3 na (.lst ((zs.take 5).map V.str)) = H4 at e4 h4
    have B4 : But p H H4 := (((Ex.but e1).trans B2).trans B3).ex e4
    have nna : na ≠ p := npl S3 hna
    have hnaH : H na = none := by
      cases hh : H na with
      | none => rfl
      | some o => rw [(((Ex.but e1).trans B2).trans B3) na o hh nna] at hna; cases hna
    refine q_cut (M := fun σ' H' => σ' = [some (.ref p), some (.ref sm), some (.str z), some (.ref na), none, none, none, none, none] ∧ Src H' p ∧ But p H H' ∧ ∃ ns : List Str, H' na = some (.lst (ns.map V.str)) ∧ ns.Nodup ∧ (∀ x ∈ ns, nameS x = true) ∧ ns.length = 5) ?_ ?_
    · have nd5 : (zs.take 5).Nodup := (pz.nodup_iff.mpr snd).sublist (List.take_sublist _ _)
      have nm5 : ∀ x ∈ zs.take 5, nameS x = true := fun x m => snm x (pz.mem_iff.mp (List.mem_of_mem_take m))
      have l5 : (zs.take 5).length = 5 := by rw [List.length_take, lz]; rfl
      refine et_test (ev_op (ev_var (i := 2) rfl) (ev_var (i := 3) rfl) (rv_niL (sq_of h4) rfl (strs_flat _))) H4 (Ex.refl _) _ fun H5 e5 => ?_
      rw [inV_strs]
      refine ite2 (fun c => ?_) (fun c => ⟨rfl, (S3.ex e4).ex e5, B4.ex e5, zs.take 5, e5 _ _ h4, nd5, nm5, l5⟩)
      have nin : z ∉ zs.take 5 := by simpa using c
      refine ⟨_, rfl, _, rfl, _, rfl, p, 5, rfl, (S3.ex e4).ex e5, by decide, by decide, fun r H6 r0 r1 S6 B6 => ?_⟩
      have h6 := B6 _ _ (e5 _ _ h4) nna
      refine ⟨na, _, r, r.toNat, rfl, rfl, h6, ?_, ?_⟩
      · rw [List.length_map, l5]
        unfold ixN
        rw [if_pos r0]
        exact if_pos r1
      · refine ⟨rfl, S6.cut nna, fun b o hb nb => ?_, (zs.take 5).set r.toNat z, ?_, nodup_set nd5 nin, fun x m => ?_, by rw [List.length_set]; exact l5⟩
        · have nb2 : b ≠ na := fun q => by rw [q, hnaH] at hb; cases hb
          rw [upd_ne nb2]
          exact B6 _ _ (e5 _ _ (B4 _ _ hb nb)) nb
        · rw [upd_same, List.map_set]
        · rcases List.mem_or_eq_of_mem_set m with m | m
          · exact nm5 x m
          · rw [m]
            exact nz
    rintro σ' H5 ⟨rfl, S5, B5, ns, h5, nnd, nnm, nl5⟩
    -- the lots
    refine q_lots fun ps H6 lt e6 fr6 hlt pr6 => ?_
    have e7 := Ex.new (o := .lst (ps.map V.ref)) hlt
    have e57 := e6.trans e7
    refine ⟨(by show 1 ≤ sizeLine; decide), fun nl0 hnl0 => ?_⟩
    have e8 := Ex.new (o := .lst [V.int 0]) hnl0
    have e58 := e57.trans e8
    have h7 : upd (upd H6 lt (.lst (ps.map V.ref))) nl0 (.lst [V.int 0]) lt = some (.lst (ps.map V.ref)) := e8 _ _ upd_same
    have h8 : upd (upd H6 lt (.lst (ps.map V.ref))) nl0 (.lst [V.int 0]) nl0 = some (.lst [V.int 0]) := upd_same
    have hnl0' : upd H6 lt (.lst (ps.map V.ref)) nl0 = none := hnl0
    generalize upd (upd H6 lt (.lst (ps.map V.ref))) nl0 (.lst [V.int 0]) = H8 at e8 e58 h7 h8
    have nlt : lt ≠ p := npl (S5.ex e6) hlt
    have nnl0 : nl0 ≠ p := npl (S5.ex e57) hnl0
    refine ⟨_, rfl, _, rfl, p, _, rfl, S5.ex e58, .inl ⟨lt, ps.map V.ref, rfl, .inl ⟨sq_of h7, nlt⟩, (fun z => by have := pr6.length; rw [List.map_eq_nil_iff.mp z] at this; cases this), (by have := pr6.length; rw [List.length_map, this]; decide), fun i v H9 hv S9 B9 => ?_⟩⟩
    rw [List.getElem?_map] at hv
    obtain ⟨a, ha, rfl⟩ := Option.map_eq_some_iff.mp hv
    obtain ⟨l, hl, hal⟩ := pd_get pr6 ha
    have lm := List.mem_of_getElem? hl
    obtain ⟨l3, ln⟩ := lot_ok l lm
    have nap : a ≠ p := npl S5 (fr6 a (List.mem_of_getElem? ha))
    have ha9 : H9 a = some (.lst (l.map V.int)) := B9 _ _ (e8 _ _ (e7 _ _ hal)) nap
    refine ⟨nl0, a, _, _, rfl, rfl, B9 _ _ h8 nnl0, ha9, sz_of (by rw [List.length_map]; simp; omega), fun nu hnu => ?_⟩
    have e10 := Ex.new (o := .lst ([V.int 0] ++ l.map V.int)) hnu
    have h10 : upd H9 nu (.lst ([V.int 0] ++ l.map V.int)) nu = some (.lst ((0 :: l).map V.int)) := upd_same
    have B10 : But p H (upd H9 nu (.lst ([V.int 0] ++ l.map V.int))) := ((B5.ex e58).trans B9).ex e10
    have h5' : upd H9 nu (.lst ([V.int 0] ++ l.map V.int)) na = some (.lst (ns.map V.str)) := e10 _ _ (B9 _ _ (e58 _ _ h5) nna)
    have S10 := S9.ex e10
    generalize upd H9 nu (.lst ([V.int 0] ++ l.map V.int)) = H10 at e10 h10 B10 h5' S10
    have hn03 : ∀ n ∈ (0 :: l), 0 ≤ n ∧ n ≤ 3 := fun n m => by
      rcases List.mem_cons.mp m with rfl | m
      · decide
      · exact ln n m
    have ars : areSigns ((ns.zip (0 :: l)).map signD) = true := zip_signs nnd nnm nl5 hn03 (by rw [List.length_cons]; omega) rfl
    -- the signs
    refine ⟨_, rfl, _, rfl, na, nu, ns.map V.str, (0 :: l).map V.int, rfl, sq_of h5', sq_of h10, fun D hD => ?_⟩
    have nDp : D ≠ p := npl S10 hD
    refine lc_it (walk_zip (xs := ns.map V.str) (ys := (0 :: l).map V.int) (n := (ns.zip (0 :: l)).length) (by rw [List.length_zip, List.length_map, List.length_map])) (fun i H' => Ex H10 H' ∧ ∃ vs, H' D = some (.lst vs) ∧ Dqs K H' vs (((ns.zip (0 :: l)).take i).map signD)) ⟨Ex.new hD, [], upd_same, .nil⟩ (fun i H' _ ⟨ex, _⟩ => ⟨sq_of (ex _ _ h5'), sq_of (ex _ _ h10)⟩) (fun i x H' H'' hi ⟨ex, vs, hvs, qvs⟩ ⟨T, u, v, hx, hT, hH, hu, hv2⟩ => ?_) fun H11 ⟨ex, vs, hvs, qvs⟩ => ?_
    · subst hx hH
      replace hu : (ns.map V.str)[i]? = some u := hu
      replace hv2 : ((0 :: l).map V.int)[i]? = some v := hv2
      rw [List.getElem?_map] at hu hv2
      obtain ⟨y, hy, rfl⟩ := Option.map_eq_some_iff.mp hu
      obtain ⟨n, hn, rfl⟩ := Option.map_eq_some_iff.mp hv2
      have hz : (ns.zip (0 :: l))[i]? = some (y, n) := by
        rw [List.getElem?_zip_eq_some]
        exact ⟨hy, hn⟩
      refine gpair (st_of upd_same) ⟨rfl, ?_⟩
      unfold tYes
      dsimp only
      rw [if_pos rfl]
      refine ⟨_, rfl, _, rfl, (by show 2 ≤ sizeLine; decide), fun q hq => ?_⟩
      have e12 := (Ex.new (o := .tup [V.str y, V.int n]) hT).trans (Ex.new (o := .tup [V.str y, V.int n]) hq)
      have hvs12 := e12 _ _ hvs
      have lvs := qvs.len
      have lzz : (ns.zip (0 :: l)).length ≤ 5 := by
        rw [List.length_zip]
        omega
      refine ⟨vs, hvs12, sz_lt (by rw [lvs, List.length_map, List.length_take]; omega), Ex.mut (ex.trans e12) hD, vs ++ [.ref q], upd_same, ?_⟩
      rw [List.take_succ, hz, List.map_append]
      exact L2.Dqs.nl (NL.upd hvs12) ((qvs.ex e12).app (.cons (.tup (SqT.of upd_same) (.cons (.str y) (.cons (.int n) .nil))) .nil)) (by rw [← List.map_append]; exact signs_noL _)
    · rw [List.take_of_length_le (Nat.le_refl _)] at qvs
      -- in another sequence
      have lvs := qvs.len
      refine ⟨_, rfl, _, rfl, p, D, vs, rfl, S10.ex ex, .inl (sq_of hvs), by rw [lvs, List.length_map, List.length_zip]; omega, fun mx ws H12 hmx pm2 S12 B12 h12 => ?_⟩
      obtain ⟨es, pe, qes⟩ := dqs_perm pm2 qvs
      have areE := areSigns_perm pe ars
      have noE : noLs es = true := noLs_mem.mpr fun d m => noLs_mem.mp (signs_noL _) d (pe.mem_iff.mp m)
      have N12 := B12.nl (S10.ex ex).lst
      have qes12 := L2.Dqs.nl N12 qes noE
      refine ⟨mx, ws, rfl, .inl ⟨sq_of h12, fun sg o hsg ho => ?_⟩⟩
      have e13 := Ex.new (o := .frz o (.tup ws)) hsg
      have pl13 : PlT (upd H12 sg (.frz o (.tup ws))) sg ws := ⟨o, upd_same, ho⟩
      refine ⟨_, rfl, p, 3, rfl, S12.ex e13, by decide, by decide, fun r H14 r0 r1 S14 B14 => ⟨rfl, (by show 2 ≤ sizeLine; decide), fun t ht => ?_⟩⟩
      have N14 := (NL.ex e13).trans (B14.nl (S12.ex e13).lst)
      have e15 := Ex.new (o := .tup [V.ref sg, V.bl (decide (V.int r = V.int 0))]) ht
      have pl15 := (plT_nl (B14.nl (S12.ex e13).lst) pl13).ex e15
      have q15 : Dqs K (upd H14 t (.tup [V.ref sg, V.bl (decide (V.int r = V.int 0))])) ws ((wOf es (decide (V.int r = V.int 0))).signs.map signD) := by
        rw [wOf_signs _ (areSigns_all areE).1]
        exact (qes12.nl N14 noE).ex e15
      have okW := wOf_ok (decide (V.int r = V.int 0)) areE
      refine k (.ref t) (wOf es (decide (V.int r = V.int 0))) _ (S14.ex e15) (((((B10.ex ex).trans B12).ex e13).trans B14).ex e15) ⟨.tup (SqT.of upd_same) (.cons (.tup pl15.sq q15) (.cons (.bl _) .nil)), okW, t, sg, ws, rfl, SqT.of upd_same, pl15, q15⟩
end
end KW
namespace KW
open PySem PySem.Spec PyProof.Rows L2 Evl TL PySem.Builtin PySem.Builtin.Str
/-! ### texts of forms and trees: the mathematics -/
def lpS : Str := "("
def rpS : Str := ")"
def blS : Str := " "
def opS : Str := "()"
theorem tl_lp : tl lpS = [40] := by decide +kernel
theorem tl_rp : tl rpS = [41] := by decide +kernel
theorem tl_bl : tl blS = [32] := by decide +kernel
mutual
/-- the text of a form or tree -/
def textT : PyData → Str
  | .str x => x
  | .int i => Str.ofString (toString i)
  | .tuple (.str s :: ds) => lpS ++ s ++ textTs ds ++ rpS
  | _ => Str.empty
def textTs : List PyData → Str
  | [] => Str.empty
  | d :: ds => blS ++ textT d ++ textTs ds
end
/-- so many closing signs -/
def rps : Nat → Str
  | 0 => Str.empty
  | n + 1 => rpS ++ rps n
mutual
def wordsT : PyData → Nat → List Str
  | .tuple (.str s :: ds), c => if ds.isEmpty then [lpS ++ s ++ rps (c + 1)] else (lpS ++ s) :: wordsTs ds (c + 1)
  | d, c => [textT d ++ rps c]
def wordsTs : List PyData → Nat → List Str
  | [], _ => []
  | d :: ds, c => if ds.isEmpty then wordsT d c else wordsT d 0 ++ wordsTs ds c
end
theorem tl_empty : tl Str.empty = [] := rfl
theorem str_assoc (a b c : Str) : a ++ b ++ c = a ++ (b ++ c) := ext_tl (by rw [tl_append, tl_append, tl_append, tl_append, List.append_assoc])
theorem str_empty (a : Str) : a ++ Str.empty = a := ext_tl (by rw [tl_append, tl_empty, List.append_nil])
theorem empty_str (a : Str) : Str.empty ++ a = a := ext_tl (by rw [tl_append, tl_empty, List.nil_append])
theorem tl_rps : ∀ n, tl (rps n) = List.replicate n 41
  | 0 => rfl
  | n + 1 => by rw [rps, tl_append, tl_rp, tl_rps n]; rfl
theorem wordsT_ne : ∀ (d : PyData) (c : Nat), wordsT d c ≠ [] := by
  intro d c
  unfold wordsT
  split
  · split <;> simp
  · simp
theorem wordsTs_ne {ds : List PyData} (h : ds ≠ []) (c : Nat) : wordsTs ds c ≠ [] := by
  cases ds with
  | nil => exact absurd rfl h
  | cons d ds =>
    rw [wordsTs]
    split
    · exact wordsT_ne d c
    · have := wordsT_ne d 0
      simp [this]
/-- joined by blanks -/
abbrev joinB (ws : List Str) : Str := Str.join blS ws
theorem join_cons (w : Str) {ws : List Str} (h : ws ≠ []) : joinB (w :: ws) = w ++ blS ++ joinB ws := by
  cases ws with
  | nil => exact absurd rfl h
  | cons a b => rfl
theorem join_app : ∀ {as bs : List Str}, as ≠ [] → bs ≠ [] → joinB (as ++ bs) = joinB as ++ blS ++ joinB bs
  | [a], bs, _, hb => join_cons a hb
  | a :: b :: as, bs, _, hb => by
    rw [List.cons_append, join_cons a (by simp), join_app (by simp) hb, join_cons a (by simp)]
    simp only [str_assoc]
mutual
theorem text_words : ∀ (d : PyData) (c : Nat), textT d ++ rps c = joinB (wordsT d c)
  | .tuple (.str s :: ds), c => by
    rw [wordsT]
    split
    · rename_i h
      have : ds = [] := by simpa using h
      subst this
      show lpS ++ s ++ Str.empty ++ rpS ++ rps c = lpS ++ s ++ (rpS ++ rps c)
      simp only [str_assoc, empty_str]
    · rename_i h
      have h : ds ≠ [] := by simpa using h
      rw [join_cons _ (wordsTs_ne h _), textT, str_assoc (lpS ++ s) blS, ← texts_words ds (c + 1) h]
      show lpS ++ s ++ textTs ds ++ rpS ++ rps c = lpS ++ s ++ (textTs ds ++ (rpS ++ rps c))
      simp only [str_assoc]
  | .str x, c => rfl
  | .int x, c => rfl
  | .none, c => rfl
  | .bool _, c => rfl
  | .list _, c => rfl
  | .dict _, c => rfl
  | .tuple [], c => rfl
  | .tuple (.none :: _), c => rfl
  | .tuple (.bool _ :: _), c => rfl
  | .tuple (.int _ :: _), c => rfl
  | .tuple (.list _ :: _), c => rfl
  | .tuple (.tuple _ :: _), c => rfl
  | .tuple (.dict _ :: _), c => rfl
theorem texts_words : ∀ (ds : List PyData) (c : Nat), ds ≠ [] → textTs ds ++ rps c = blS ++ joinB (wordsTs ds c)
  | [], _, h => absurd rfl h
  | d :: ds, c, _ => by
    rw [wordsTs, textTs]
    split
    · rename_i h
      have : ds = [] := by simpa using h
      subst this
      rw [← text_words d c]
      show blS ++ textT d ++ Str.empty ++ rps c = _
      simp only [str_assoc, empty_str]
    · rename_i h
      have h : ds ≠ [] := by simpa using h
      rw [join_app (wordsT_ne d 0) (wordsTs_ne h c), str_assoc _ blS, ← texts_words ds c h, ← text_words d 0]
      show _ = blS ++ (textT d ++ Str.empty ++ _)
      simp only [str_assoc, empty_str]
end
/-! ### what is told by words -/
def isDig (c : Nat) : Bool := decide (48 ≤ c) && decide (c ≤ 57)
/-- a word of digits is a number -/
def numName (w : Str) : PyData := if decide (1 ≤ w.length) && (decide (w.length ≤ 800) && (tl w).all isDig) then .int ((NumText.digitsVal (tl w) : Nat) : Int) else .str w
def closeN : Nat → List (List PyData) → Option (List (List PyData))
  | 0, st => some st
  | n + 1, top :: r :: st => closeN n ((r ++ [.tuple top]) :: st)
  | _ + 1, _ => none
def addTop (d : PyData) : List (List PyData) → List (List PyData)
  | top :: st => (top ++ [d]) :: st
  | [] => []
def openW (w : Str) (st : List (List PyData)) : List (List PyData) := if Txt.startswith w lpS then [.str (Txt.stripChars w opS)] :: st else addTop (numName (Txt.stripChars w opS)) st
def closes (w : Str) : Nat := w.length - (Txt.rstripChars w rpS).length
def stepW (w : Str) (st : List (List PyData)) : Option (List (List PyData)) := closeN (closes w) (openW w st)
def foldW : List Str → List (List PyData) → Option (List (List PyData))
  | [], st => some st
  | w :: ws, st => (stepW w st).bind (foldW ws)
theorem foldW_app : ∀ (as bs : List Str) (st : List (List PyData)), foldW (as ++ bs) st = (foldW as st).bind (foldW bs)
  | [], bs, st => rfl
  | a :: as, bs, st => by
    rw [List.cons_append, foldW, foldW]
    cases stepW a st with
    | none => rfl
    | some s => exact foldW_app as bs s
def lastOf : Option (List (List PyData)) → PyData
  | some [[d]] => d
  | _ => .none
def toldT (t : Str) : PyData := lastOf (foldW (Txt.split t blS) [[]])
/-! strips of words -/
theorem tw_all {p : Nat → Bool} : ∀ {l : List Nat}, (∀ c ∈ l, p c = true) → l.takeWhile p = l
  | [], _ => rfl
  | a :: l, h => by
    rw [List.takeWhile_cons, if_pos (h a (List.mem_cons_self ..)), tw_all fun c m => h c (List.mem_cons_of_mem _ m)]
theorem tw_none {p : Nat → Bool} {a : Nat} {l : List Nat} (h : p a = false) : (a :: l).takeWhile p = [] := by
  rw [List.takeWhile_cons, if_neg (by rw [h]; decide)]
theorem tw_app {p : Nat → Bool} {a : Nat} {l m : List Nat} (h : ∀ c ∈ l, p c = true) (n : p a = false) : (l ++ a :: m).takeWhile p = l := by
  induction l with
  | nil => exact tw_none n
  | cons b l ih =>
    rw [List.cons_append, List.takeWhile_cons, if_pos (h b (List.mem_cons_self ..)), ih fun c m => h c (List.mem_cons_of_mem _ m)]
theorem tl_stripBy (goes : Nat → Bool) (l r : Bool) (x : Str) : tl (Txt.stripBy goes l r x) = tl (stripped goes l r x) := by
  unfold Txt.stripBy
  split
  · rename_i h
    unfold stripSame at h
    rw [Bool.and_eq_true, beq_iff_eq, beq_iff_eq] at h
    unfold stripped
    rw [h.2, h.1, tl_strSub_end]
    rfl
  · rfl
theorem tl_stripped (goes : Nat → Bool) (l r : Bool) (x : Str) : tl (stripped goes l r x) = ((tl x).drop (stripLo goes l x)).take (stripHi goes r x (stripLo goes l x) - stripLo goes l x) := tl_strSub _ _ _
/-- what is within, between what goes -/
theorem strip_mid {goes : Nat → Bool} {x : Str} {a b : List Nat} {s : List Nat} (hx : tl x = a ++ (s ++ b)) (ne : s ≠ []) (ha : ∀ c ∈ a, goes c = true) (hb : ∀ c ∈ b, goes c = true) (hs : ∀ c ∈ s, goes c = false) : tl (Txt.stripBy goes true true x) = s := by
  obtain ⟨f, s1, rfl⟩ : ∃ f s1, s = f :: s1 := by
    cases s with
    | nil => exact absurd rfl ne
    | cons f s1 => exact ⟨f, s1, rfl⟩
  have lo : stripLo goes true x = a.length := by
    show ((tl x).takeWhile goes).length = _
    rw [hx, List.cons_append, tw_app ha (hs f (List.mem_cons_self ..))]
  have lx : x.length = a.length + ((s1.length + 1) + b.length) := by rw [len_tl, hx, List.length_append, List.length_append, List.length_cons]
  have hi : stripHi goes true x a.length = a.length + (s1.length + 1) := by
    show x.length - (((tl x).drop a.length).reverse.takeWhile goes).length = _
    rw [hx, List.drop_left, List.reverse_append]
    obtain ⟨g, s2, e2⟩ : ∃ g s2, (f :: s1).reverse = g :: s2 := by
      cases e : (f :: s1).reverse with
      | nil => simp at e
      | cons g s2 => exact ⟨g, s2, rfl⟩
    have gm : g ∈ f :: s1 := List.mem_reverse.mp (by rw [e2]; exact List.mem_cons_self ..)
    rw [e2, tw_app (fun c m => hb c (List.mem_reverse.mp m)) (hs g gm), List.length_reverse, lx]
    omega
  rw [tl_stripBy, tl_stripped, lo, hi, hx, List.drop_left]
  rw [show a.length + (s1.length + 1) - a.length = (f :: s1).length by simp, List.take_left]
theorem rstrip_end {goes : Nat → Bool} {x : Str} {s b : List Nat} (hx : tl x = s ++ b) (ne : s ≠ []) (hb : ∀ c ∈ b, goes c = true) (hs : ∀ c ∈ s, goes c = false) : tl (Txt.stripBy goes false true x) = s := by
  have lo : stripLo goes false x = 0 := rfl
  have lx : x.length = s.length + b.length := by rw [len_tl, hx, List.length_append]
  have hi : stripHi goes true x 0 = s.length := by
    show x.length - (((tl x).drop 0).reverse.takeWhile goes).length = _
    rw [hx, List.drop_zero, List.reverse_append]
    obtain ⟨g, s2, e2⟩ : ∃ g s2, s.reverse = g :: s2 := by
      cases e : s.reverse with
      | nil => simp at e; exact absurd e ne
      | cons g s2 => exact ⟨g, s2, rfl⟩
    have gm : g ∈ s := List.mem_reverse.mp (by rw [e2]; exact List.mem_cons_self ..)
    rw [e2, tw_app (fun c m => hb c (List.mem_reverse.mp m)) (hs g gm), List.length_reverse, lx]
    omega
  rw [tl_stripBy, tl_stripped, lo, hi, hx, List.drop_zero, Nat.sub_zero, List.take_left]
end KW
namespace KW
open PySem PySem.Spec PyProof.Rows L2 Evl TL PySem.Builtin PySem.Builtin.Str
/-! ### forms and trees by their parts -/
theorem kid_treesX {W : Wd} {x : Str} {ds : List PyData} (n : x ≠ star) (h : isTreeD W (.tuple (.str x :: ds)) = true) : W.num x = some (ds.length : Int) ∧ ∀ d ∈ ds, isTreeD W d = true := by
  rw [tree_ne n, Bool.and_eq_true] at h
  exact ⟨of_decide_eq_true h.1, fitsDs_mem h.2⟩
theorem kid_formsX {W : Wd} {x : Str} {ds : List PyData} (n : x ≠ star) (h : isFormD W (.tuple (.str x :: ds)) = true) : W.num x = some (ds.length : Int) ∧ ∀ d ∈ ds, isFormD W d = true := by
  rw [form_ne n, Bool.and_eq_true] at h
  exact ⟨of_decide_eq_true h.1, fitsDs_mem h.2⟩
theorem num_in {W : Wd} {x : Str} {i : Int} (h : W.num x = some i) : (x, i) ∈ W.signs := by
  unfold Wd.num at h
  cases hf : W.signs.find? (fun p => decide (p.1 = x)) with
  | none => rw [hf] at h; cases h
  | some p =>
    rw [hf] at h
    have e0 := List.find?_some hf
    have e1 : p.1 = x := by simpa using e0
    have e2 : p.2 = i := Option.some.inj h
    have : p = (x, i) := by rw [← e1, ← e2]
    rw [← this]
    exact List.mem_of_find?_eq_some hf
theorem wt_memX : ∀ {ds : List PyData} {d : PyData}, d ∈ ds → wtD d ≤ wtDs ds := wt_mem
theorem tree_rec {W : Wd} (ok : W.Ok) {P : PyData → Prop} (hl : ∀ i : Int, W.more = true → 0 ≤ i → P (.tuple [.str star, .int i]))
    (hn : ∀ (x : Str) (ds : List PyData), nameS x = true → x ≠ star → W.num x = some (ds.length : Int) → ds.length ≤ 3 → (∀ d ∈ ds, isTreeD W d = true ∧ P d) → P (.tuple (.str x :: ds))) : ∀ d, isTreeD W d = true → P d := by
  have key : ∀ (n : Nat) (d : PyData), wtD d ≤ n → isTreeD W d = true → P d := by
    intro n
    induction n with
    | zero => intro d h _; have := wt_pos d; omega
    | succ n ih =>
      intro d hz h
      obtain ⟨y, ds, rfl, shape⟩ := tree_shape ok h
      rcases shape with ⟨ny, _⟩ | ⟨rfl, i, rfl⟩
      · obtain ⟨h1, h2⟩ := kid_treesX ny h
        obtain ⟨hy, h0, h3, _, _⟩ := sign_in ok (num_in h1)
        rw [wtD] at hz
        exact hn y ds hy ny h1 (by omega) fun d m => ⟨h2 d m, ih d (by have := wt_mem m; omega) (h2 d m)⟩
      · rw [tree_star ok] at h
        have h3 : (W.more && (eqS (.str star) star && (isIntD (.int i) && ge0 (.int i)))) = true := h
        simp only [Bool.and_eq_true] at h3
        exact hl i h3.1 (of_decide_eq_true h3.2.2.2)
  exact fun d h => key _ d (Nat.le_refl _) h
theorem form_rec {W : Wd} (ok : W.Ok) {P : PyData → Prop} (hs : ∀ x : Str, (x = "_" ∨ nameS x = true) → P (.str x)) (hl : W.more = true → P (.tuple [.str star]))
    (hn : ∀ (x : Str) (ds : List PyData), nameS x = true → x ≠ star → W.num x = some (ds.length : Int) → ds.length ≤ 3 → (∀ d ∈ ds, isFormD W d = true ∧ P d) → P (.tuple (.str x :: ds))) : ∀ d, isFormD W d = true → P d := by
  have key : ∀ (n : Nat) (d : PyData), wtD d ≤ n → isFormD W d = true → P d := by
    intro n
    induction n with
    | zero => intro d h _; have := wt_pos d; omega
    | succ n ih =>
      intro d hz h
      cases hd : isD "str" d with
      | true =>
        obtain ⟨x, rfl⟩ : ∃ x, d = .str x := by cases d <;> first | exact ⟨_, rfl⟩ | cases hd
        refine hs x ?_
        have h2 : (eqS (.str x) "_" || isNameD (.str x)) = true := h
        rw [Bool.or_eq_true] at h2
        rcases h2 with h2 | h2
        · exact .inl (by simpa [eqS] using h2)
        · exact .inr h2
      | false =>
        obtain ⟨y, ds, rfl, shape⟩ := form_shape ok h hd
        rcases shape with ⟨ny, _⟩ | ⟨rfl, rfl⟩
        · obtain ⟨h1, h2⟩ := kid_formsX ny h
          obtain ⟨hy, h0, h3, _, _⟩ := sign_in ok (num_in h1)
          rw [wtD] at hz
          exact hn y ds hy ny h1 (by omega) fun d m => ⟨h2 d m, ih d (by have := wt_mem m; omega) (h2 d m)⟩
        · rw [form_star ok, Bool.and_eq_true] at h
          exact hl h.1
  exact fun d h => key _ d (Nat.le_refl _) h
/-! ### what can be read back -/
def isDel (c : Nat) : Bool := decide (c = 32) || (decide (c = 40) || decide (c = 41))
def freeS (s : Str) : Bool := !(tl s).isEmpty && (tl s).all fun c => !isDel c
mutual
def goodT : PyData → Bool
  | .str x => freeS x && !(tl x).all isDig
  | .int i => decide (0 ≤ i) && decide ((numL i.toNat).length ≤ 640)
  | .tuple (.str s :: ds) => freeS s && goodTs ds
  | _ => false
def goodTs : List PyData → Bool
  | [] => true
  | d :: ds => goodT d && goodTs ds
end
theorem goodTs_mem : ∀ {ds : List PyData}, goodTs ds = true ↔ ∀ d ∈ ds, goodT d = true
  | [] => by simp [goodTs]
  | d :: ds => by rw [goodTs, Bool.and_eq_true, goodTs_mem]; simp
theorem free_ne {s : Str} (h : freeS s = true) : tl s ≠ [] := by
  unfold freeS at h
  rw [Bool.and_eq_true] at h
  intro z
  rw [z] at h
  cases h.1
theorem free_del {s : Str} (h : freeS s = true) : ∀ c ∈ tl s, isDel c = false := fun c m => by
  unfold freeS at h
  rw [Bool.and_eq_true] at h
  have := List.all_eq_true.mp h.2 c m
  simpa using this
theorem del_no {c : Nat} (h : isDel c = false) : c ≠ 32 ∧ c ≠ 40 ∧ c ≠ 41 := by
  unfold isDel at h
  simp only [Bool.or_eq_false_iff, decide_eq_false_iff_not] at h
  exact ⟨h.1, h.2.1, h.2.2⟩
theorem alpha_range : ∀ c ∈ alpha.cps.toList, 97 ≤ c ∧ c ≤ 122 := by decide +kernel
theorem name_chars {x : Str} (h : nameS x = true) : tl x ≠ [] ∧ x.length ≤ 8 ∧ ∀ c ∈ tl x, 97 ≤ c ∧ c ≤ 122 := by
  unfold nameS at h
  simp only [Bool.and_eq_true, decide_eq_true_eq] at h
  refine ⟨fun z => ?_, by omega, fun c m => alpha_range c ?_⟩
  · have := len_tl x
    rw [z] at this
    simp at this
    omega
  · exact of_decide_eq_true (List.all_eq_true.mp h.2 c m)
theorem name_free {x : Str} (h : nameS x = true) : freeS x = true := by
  obtain ⟨h1, h2, h3⟩ := name_chars h
  unfold freeS
  rw [Bool.and_eq_true]
  refine ⟨by simpa using h1, List.all_eq_true.mpr fun c m => ?_⟩
  have := h3 c m
  unfold isDel
  simp
  omega
theorem not_dig {l : List Nat} (h : l ≠ []) (k : ∀ c ∈ l, c < 48 ∨ 57 < c) : l.all isDig = false := by
  cases l with
  | nil => exact absurd rfl h
  | cons a l =>
    have := k a (List.mem_cons_self ..)
    rw [List.all_cons]
    have : isDig a = false := by
      unfold isDig
      rw [Bool.and_eq_false_iff, decide_eq_false_iff_not, decide_eq_false_iff_not]
      omega
    rw [this, Bool.false_and]
theorem name_leaf {x : Str} (h : x = "_" ∨ nameS x = true) : (freeS x && !(tl x).all isDig) = true := by
  rcases h with rfl | h
  · decide +kernel
  · obtain ⟨h1, h2, h3⟩ := name_chars h
    rw [name_free h, not_dig h1 fun c m => by have := h3 c m; omega]
    rfl
theorem star_free : freeS star = true := by decide +kernel
theorem form_good {W : Wd} (ok : W.Ok) : ∀ d, isFormD W d = true → goodT d = true := by
  refine form_rec ok (fun x hx => ?_) (fun _ => ?_) fun x ds hx nx hn hl hd => ?_
  · rw [goodT]
    exact name_leaf hx
  · rw [goodT, star_free]
    rfl
  · rw [goodT, name_free hx, Bool.true_and]
    exact goodTs_mem.mpr fun d m => (hd d m).2
mutual
/-- all numbers within have at most so many digits -/
def digsT (n : Nat) : PyData → Bool
  | .int i => decide ((numL i.toNat).length ≤ n)
  | .tuple ds => digsTs n ds
  | _ => true
def digsTs (n : Nat) : List PyData → Bool
  | [] => true
  | d :: ds => digsT n d && digsTs n ds
end
theorem digsT_str (n : Nat) (x : Str) : digsT n (.str x) = true := by
  rw [digsT]
  all_goals (intros; contradiction)
theorem digsTs_mem {n : Nat} : ∀ {ds : List PyData}, digsTs n ds = true ↔ ∀ d ∈ ds, digsT n d = true
  | [] => by simp [digsTs]
  | d :: ds => by rw [digsTs, Bool.and_eq_true, digsTs_mem]; simp
theorem tree_good {W : Wd} (ok : W.Ok) : ∀ d, isTreeD W d = true → digsT 640 d = true → goodT d = true := by
  refine tree_rec ok (P := fun d => digsT 640 d = true → goodT d = true) (fun i _ h0 hz => ?_) fun x ds hx nx hn hl hd hz => ?_
  · rw [digsT, digsTs, digsTs, digsTs, digsT_str, digsT, Bool.true_and, Bool.and_true] at hz
    rw [goodT, star_free, goodTs, goodTs, goodT, hz, decide_eq_true h0]
    rfl
  · rw [digsT, digsTs, digsT_str, Bool.true_and] at hz
    rw [goodT, name_free hx, Bool.true_and]
    exact goodTs_mem.mpr fun d m => (hd d m).2 (digsTs_mem.mp hz d m)
/-! ### (A): words are told back -/
theorem op_has {c : Nat} : opS.cps.contains c = (decide (c = 40) || decide (c = 41)) := by
  have : opS.cps = #[40, 41] := by decide +kernel
  rw [this]
  by_cases h : c = 40 <;> by_cases k : c = 41 <;> simp [h, k]
theorem rp_has {c : Nat} : rpS.cps.contains c = decide (c = 41) := by
  have : rpS.cps = #[41] := by decide +kernel
  rw [this]
  by_cases k : c = 41 <;> simp [k]
theorem sw_lp (w : Str) : Txt.startswith w lpS = decide ((tl w).head? = some 40) := by
  unfold Txt.startswith
  rw [StrLaws.subAt_eq]
  have h1 : lpS.length = 1 := by decide +kernel
  have h2 : lpS.cps.toList = [40] := by decide +kernel
  rw [h1, h2, len_tl]
  show (decide (0 + 1 ≤ (tl w).length) && (List.take 1 (List.drop 0 (tl w)) == [40])) = _
  generalize tl w = l
  cases l with
  | nil => rfl
  | cons a l =>
    rw [Bool.eq_iff_iff]
    simp
theorem strip_word {w s : Str} {a : List Nat} {c : Nat} (hw : tl w = a ++ (tl s ++ List.replicate c 41)) (ha : a = [] ∨ a = [40]) (hs : freeS s = true) : Txt.stripChars w opS = s := by
  refine ext_tl (strip_mid hw (free_ne hs) (fun x m => ?_) (fun x m => ?_) fun x m => ?_)
  · rw [op_has]
    rcases ha with rfl | rfl
    · cases m
    · rw [List.mem_singleton.mp m]
      rfl
  · rw [op_has, List.eq_of_mem_replicate m]
    rfl
  · rw [op_has]
    obtain ⟨_, h1, h2⟩ := del_no (free_del hs x m)
    simp [h1, h2]
theorem closes_word {w s : Str} {a : List Nat} {c : Nat} (hw : tl w = a ++ (tl s ++ List.replicate c 41)) (ha : a = [] ∨ a = [40]) (hs : freeS s = true) : closes w = c := by
  unfold closes
  have : tl (Txt.rstripChars w rpS) = a ++ tl s := by
    refine rstrip_end (b := List.replicate c 41) (by rw [hw, List.append_assoc]) (by have := free_ne hs; simp [this]) (fun x m => ?_) fun x m => ?_
    · rw [rp_has, List.eq_of_mem_replicate m]
      rfl
    · rw [rp_has]
      rcases List.mem_append.mp m with m | m
      · rcases ha with rfl | rfl
        · cases m
        · rw [List.mem_singleton.mp m]
          rfl
      · simp [(del_no (free_del hs x m)).2.2]
  rw [len_tl w, len_tl (Txt.rstripChars w rpS), this, hw]
  simp
  omega
theorem step_open {s : Str} {c : Nat} {st : List (List PyData)} (hs : freeS s = true) : stepW (lpS ++ s ++ rps c) st = closeN c ([.str s] :: st) := by
  have hw : tl (lpS ++ s ++ rps c) = [40] ++ (tl s ++ List.replicate c 41) := by rw [tl_append, tl_append, tl_lp, tl_rps, List.append_assoc]
  unfold stepW openW
  rw [closes_word hw (.inr rfl) hs, strip_word hw (.inr rfl) hs, sw_lp, hw, if_pos (by rfl)]
theorem step_leaf {s : Str} {c : Nat} {d : PyData} {r : List PyData} {st : List (List PyData)} (hs : freeS s = true) (hd : numName s = d) : stepW (s ++ rps c) (r :: st) = closeN c ((r ++ [d]) :: st) := by
  have hw : tl (s ++ rps c) = [] ++ (tl s ++ List.replicate c 41) := by rw [tl_append, tl_rps, List.nil_append]
  unfold stepW openW
  rw [closes_word hw (.inl rfl) hs, strip_word hw (.inl rfl) hs, sw_lp, hw, if_neg, hd]
  · rfl
  · obtain ⟨f, l, e⟩ : ∃ f l, tl s = f :: l := by
      cases e : tl s with
      | nil => exact absurd e (free_ne hs)
      | cons f l => exact ⟨f, l, rfl⟩
    have := (del_no (free_del hs f (by rw [e]; exact List.mem_cons_self ..))).2.1
    rw [e]
    simp [this]
theorem num_free (n : Nat) : freeS (Str.ofString (toString ((n : Nat) : Int))) = true := by
  unfold freeS
  rw [tl_num, Bool.and_eq_true]
  refine ⟨by simpa using numL_ne n, List.all_eq_true.mpr fun c m => ?_⟩
  have := numL_digits n c m
  unfold isDel
  simp
  omega
theorem num_dig (n : Nat) : (numL n).all isDig = true := List.all_eq_true.mpr fun c m => by
  have := numL_digits n c m
  unfold isDig
  rw [decide_eq_true (by omega), decide_eq_true (by omega)]
  rfl
theorem numName_num {n : Nat} (h : (numL n).length ≤ 640) : numName (Str.ofString (toString ((n : Nat) : Int))) = .int n := by
  unfold numName
  have l : (Str.ofString (toString ((n : Nat) : Int))).length = (numL n).length := by rw [len_tl, tl_num]
  have p : 1 ≤ (numL n).length := by
    have := numL_ne n
    cases e : numL n with
    | nil => exact absurd e this
    | cons a b => simp
  rw [l, tl_num, num_dig, decide_eq_true p, decide_eq_true (by omega), numL_val]
  rfl
theorem numName_leaf {x : Str} (h : (tl x).all isDig = false) : numName x = .str x := by
  unfold numName
  rw [h, Bool.and_false, Bool.and_false]
  rfl
mutual
theorem told_words : ∀ (d : PyData) (c : Nat) (r : List PyData) (st : List (List PyData)), goodT d = true → foldW (wordsT d c) (r :: st) = closeN c ((r ++ [d]) :: st)
  | .tuple (.str s :: ds), c, r, st, h => by
    rw [goodT, Bool.and_eq_true] at h
    rw [wordsT]
    split
    · rename_i e
      have : ds = [] := by simpa using e
      subst this
      rw [foldW, step_open h.1]
      show (closeN c ((r ++ [.tuple [.str s]]) :: st)).bind (foldW []) = _
      cases closeN c ((r ++ [.tuple [.str s]]) :: st) <;> rfl
    · rename_i e
      have e : ds ≠ [] := by simpa using e
      have := step_open (c := 0) (st := r :: st) h.1
      rw [show lpS ++ s ++ rps 0 = lpS ++ s from str_empty _] at this
      rw [foldW, this]
      show foldW (wordsTs ds (c + 1)) ([.str s] :: r :: st) = _
      rw [told_wordss ds (c + 1) _ _ e h.2]
      rfl
  | .str x, c, r, st, h => by
    rw [goodT, Bool.and_eq_true] at h
    show foldW [x ++ rps c] (r :: st) = _
    rw [foldW, step_leaf h.1 (numName_leaf (by simpa using h.2))]
    cases closeN c ((r ++ [.str x]) :: st) <;> rfl
  | .int i, c, r, st, h => by
    rw [goodT, Bool.and_eq_true, decide_eq_true_eq, decide_eq_true_eq] at h
    obtain ⟨n, rfl⟩ := Int.eq_ofNat_of_zero_le h.1
    show foldW [Str.ofString (toString ((n : Nat) : Int)) ++ rps c] (r :: st) = _
    rw [foldW, step_leaf (num_free n) (numName_num h.2)]
    cases closeN c ((r ++ [.int (n : Int)]) :: st) <;> rfl
  | .none, _, _, _, h => by rw [goodT] at h; cases h; all_goals (intros; contradiction)
  | .bool _, _, _, _, h => by rw [goodT] at h; cases h; all_goals (intros; contradiction)
  | .list _, _, _, _, h => by rw [goodT] at h; cases h; all_goals (intros; contradiction)
  | .dict _, _, _, _, h => by rw [goodT] at h; cases h; all_goals (intros; contradiction)
  | .tuple [], _, _, _, h => by rw [goodT] at h; cases h; all_goals (intros; contradiction)
  | .tuple (.none :: _), _, _, _, h => by rw [goodT] at h; cases h; all_goals (intros; contradiction)
  | .tuple (.bool _ :: _), _, _, _, h => by rw [goodT] at h; cases h; all_goals (intros; contradiction)
  | .tuple (.int _ :: _), _, _, _, h => by rw [goodT] at h; cases h; all_goals (intros; contradiction)
  | .tuple (.list _ :: _), _, _, _, h => by rw [goodT] at h; cases h; all_goals (intros; contradiction)
  | .tuple (.tuple _ :: _), _, _, _, h => by rw [goodT] at h; cases h; all_goals (intros; contradiction)
  | .tuple (.dict _ :: _), _, _, _, h => by rw [goodT] at h; cases h; all_goals (intros; contradiction)
theorem told_wordss : ∀ (ds : List PyData) (c : Nat) (r : List PyData) (st : List (List PyData)), ds ≠ [] → goodTs ds = true → foldW (wordsTs ds c) (r :: st) = closeN c ((r ++ ds) :: st)
  | [], _, _, _, h, _ => absurd rfl h
  | d :: ds, c, r, st, _, h => by
    rw [goodTs, Bool.and_eq_true] at h
    rw [wordsTs]
    split
    · rename_i e
      have : ds = [] := by simpa using e
      subst this
      exact told_words d c r st h.1
    · rename_i e
      have e : ds ≠ [] := by simpa using e
      rw [foldW_app, told_words d 0 r st h.1]
      show foldW (wordsTs ds c) ((r ++ [d]) :: st) = _
      rw [told_wordss ds c _ _ e h.2, List.append_assoc]
      rfl
end
mutual
theorem words_free : ∀ (d : PyData) (c : Nat), goodT d = true → ∀ w ∈ wordsT d c, 32 ∉ tl w
  | .tuple (.str s :: ds), c, h, w, m => by
    rw [goodT, Bool.and_eq_true] at h
    have hs : 32 ∉ tl s := fun z => (del_no (free_del h.1 32 z)).1 rfl
    rw [wordsT] at m
    split at m
    · rw [List.mem_singleton.mp m, tl_append, tl_append, tl_lp, tl_rps]
      intro z
      rcases List.mem_append.mp z with z | z
      · rcases List.mem_append.mp z with z | z
        · simp at z
        · exact hs z
      · have := List.eq_of_mem_replicate z
        omega
    · rcases List.mem_cons.mp m with rfl | m
      · rw [tl_append, tl_lp]
        intro z
        rcases List.mem_append.mp z with z | z
        · simp at z
        · exact hs z
      · exact words_frees ds (c + 1) h.2 w m
  | .str x, c, h, w, m => by
    rw [goodT, Bool.and_eq_true] at h
    have m : w ∈ [x ++ rps c] := m
    rw [List.mem_singleton.mp m, tl_append, tl_rps]
    intro z
    rcases List.mem_append.mp z with z | z
    · exact (del_no (free_del h.1 32 z)).1 rfl
    · have := List.eq_of_mem_replicate z
      omega
  | .int i, c, h, w, m => by
    rw [goodT, Bool.and_eq_true, decide_eq_true_eq, decide_eq_true_eq] at h
    obtain ⟨n, rfl⟩ := Int.eq_ofNat_of_zero_le h.1
    have m : w ∈ [Str.ofString (toString ((n : Nat) : Int)) ++ rps c] := m
    rw [List.mem_singleton.mp m, tl_append, tl_rps]
    intro z
    rcases List.mem_append.mp z with z | z
    · exact (del_no (free_del (num_free n) 32 z)).1 rfl
    · have := List.eq_of_mem_replicate z
      omega
  | .none, _, h, _, _ => by rw [goodT] at h; cases h; all_goals (intros; contradiction)
  | .bool _, _, h, _, _ => by rw [goodT] at h; cases h; all_goals (intros; contradiction)
  | .list _, _, h, _, _ => by rw [goodT] at h; cases h; all_goals (intros; contradiction)
  | .dict _, _, h, _, _ => by rw [goodT] at h; cases h; all_goals (intros; contradiction)
  | .tuple [], _, h, _, _ => by rw [goodT] at h; cases h; all_goals (intros; contradiction)
  | .tuple (.none :: _), _, h, _, _ => by rw [goodT] at h; cases h; all_goals (intros; contradiction)
  | .tuple (.bool _ :: _), _, h, _, _ => by rw [goodT] at h; cases h; all_goals (intros; contradiction)
  | .tuple (.int _ :: _), _, h, _, _ => by rw [goodT] at h; cases h; all_goals (intros; contradiction)
  | .tuple (.list _ :: _), _, h, _, _ => by rw [goodT] at h; cases h; all_goals (intros; contradiction)
  | .tuple (.tuple _ :: _), _, h, _, _ => by rw [goodT] at h; cases h; all_goals (intros; contradiction)
  | .tuple (.dict _ :: _), _, h, _, _ => by rw [goodT] at h; cases h; all_goals (intros; contradiction)
theorem words_frees : ∀ (ds : List PyData) (c : Nat), goodTs ds = true → ∀ w ∈ wordsTs ds c, 32 ∉ tl w
  | [], _, _, w, m => by rw [wordsTs] at m; cases m
  | d :: ds, c, h, w, m => by
    rw [goodTs, Bool.and_eq_true] at h
    rw [wordsTs] at m
    split at m
    · exact words_free d c h.1 w m
    · rcases List.mem_append.mp m with m | m
      · exact words_free d 0 h.1 w m
      · exact words_frees ds c h.2 w m
end
theorem split_text {d : PyData} (h : goodT d = true) : Txt.split (textT d) blS = wordsT d 0 := by
  have e := text_words d 0
  rw [show textT d ++ rps 0 = textT d from str_empty _] at e
  rw [e, show joinB (wordsT d 0) = Txt.join blS (wordsT d 0) from (join_eq _ _).symm]
  exact split_join (s := 32) (S := []) tl_bl (by decide +kernel) (wordsT_ne d 0) (words_free d 0 h)
theorem told_good {d : PyData} (h : goodT d = true) : toldT (textT d) = d := by
  unfold toldT
  rw [split_text h, told_words d 0 [] [] h]
  rfl
end KW
namespace KW
open PySem PySem.Spec PyProof.Rows L2 Evl TL PySem.Builtin PySem.Builtin.Str
/-! ### (B): the law's own reading -/
abbrev RdSt := List (List PyData) × Str
def flushR (s : RdSt) : RdSt := if (tl s.2).isEmpty then s else (addTop (.str s.2) s.1, Str.empty)
def opensR (c : Nat) (st : List (List PyData)) : List (List PyData) := if c = 40 then [] :: st else st
def delR (c : Nat) (s : RdSt) : RdSt := if isDel c then flushR s else s
def stepC (c : Nat) (s : RdSt) : Option RdSt :=
  if c = 41 then (closeN 1 (opensR c (delR c s).1)).map fun st => (st, (delR c s).2)
  else some (opensR c (delR c s).1, if isDel c then (delR c s).2 else (delR c s).2 ++ ⟨#[c]⟩)
def foldC : List Nat → RdSt → Option RdSt
  | [], s => some s
  | c :: l, s => (stepC c s).bind (foldC l)
def lastR : Option RdSt → PyData
  | some s => lastOf (some s.1)
  | none => .none
def readT (t : Str) : PyData := lastR (foldC (tl t ++ [32]) ([[]], Str.empty))
mutual
/-- numbers as they are read: texts -/
def unnum : PyData → PyData
  | .int i => .str (Str.ofString (toString i))
  | .tuple ds => .tuple (unnums ds)
  | d => d
def unnums : List PyData → List PyData
  | [] => []
  | d :: ds => unnum d :: unnums ds
end
theorem foldC_app : ∀ (as bs : List Nat) (s : RdSt), foldC (as ++ bs) s = (foldC as s).bind (foldC bs)
  | [], bs, s => rfl
  | a :: as, bs, s => by
    rw [List.cons_append, foldC, foldC]
    cases stepC a s with
    | none => rfl
    | some s => exact foldC_app as bs s
theorem step_flush {c : Nat} (h : isDel c = true) {s S : RdSt} (e : flushR s = flushR S) : stepC c s = stepC c S := by
  have : delR c s = delR c S := by
    unfold delR
    rw [if_pos h, if_pos h, e]
  unfold stepC
  rw [this]
theorem foldC_free : ∀ (l : List Nat) (st : List (List PyData)) (w : Str), (∀ c ∈ l, isDel c = false) → foldC l (st, w) = some (st, w ++ ⟨l.toArray⟩)
  | [], st, w, _ => by
    rw [foldC, show (w ++ ⟨([] : List Nat).toArray⟩ : Str) = w from str_empty w]
  | c :: l, st, w, h => by
    have hc := h c (List.mem_cons_self ..)
    obtain ⟨_, h1, h2⟩ := del_no hc
    have : stepC c (st, w) = some (st, w ++ ⟨#[c]⟩) := by
      unfold stepC
      rw [if_neg h2]
      have : delR c (st, w) = (st, w) := by
        unfold delR
        rw [hc]
        rfl
      rw [this, hc]
      unfold opensR
      rw [if_neg h1]
      rfl
    rw [foldC, this]
    show foldC l (st, w ++ ⟨#[c]⟩) = _
    rw [foldC_free l st _ fun d m => h d (List.mem_cons_of_mem _ m)]
    congr 2
    refine ext_tl ?_
    rw [tl_append, tl_append, tl_append, List.append_assoc]
    rfl
theorem flush_word {st : List (List PyData)} {r : List PyData} {x : Str} (h : tl x ≠ []) : flushR (r :: st, x) = ((r ++ [.str x]) :: st, Str.empty) := by
  unfold flushR
  rw [if_neg (by simpa using h)]
  rfl
theorem step_blank {s : RdSt} {st : List (List PyData)} (e : flushR s = (st, Str.empty)) : stepC 32 s = some (st, Str.empty) := by
  have : delR 32 s = (st, Str.empty) := by
    unfold delR
    rw [if_pos (by rfl), e]
  unfold stepC
  rw [if_neg (by decide), this, if_pos (by rfl)]
  rfl
theorem step_lp {s : RdSt} {st : List (List PyData)} (e : flushR s = (st, Str.empty)) : stepC 40 s = some ([] :: st, Str.empty) := by
  have : delR 40 s = (st, Str.empty) := by
    unfold delR
    rw [if_pos (by rfl), e]
  unfold stepC
  rw [if_neg (by decide), this, if_pos (by rfl)]
  rfl
theorem step_rp {s : RdSt} {top r : List PyData} {st : List (List PyData)} (e : flushR s = (top :: r :: st, Str.empty)) : stepC 41 s = some ((r ++ [.tuple top]) :: st, Str.empty) := by
  have : delR 41 s = (top :: r :: st, Str.empty) := by
    unfold delR
    rw [if_pos (by rfl), e]
  unfold stepC
  rw [if_pos rfl, this]
  rfl
theorem flush_done {st : List (List PyData)} : flushR (st, Str.empty) = (st, Str.empty) := by
  unfold flushR
  rw [if_pos (by rfl)]
mutual
theorem read_text : ∀ (d : PyData) (r : List PyData) (st : List (List PyData)), goodT d = true → ∃ S, foldC (tl (textT d)) (r :: st, Str.empty) = some S ∧ flushR S = ((r ++ [unnum d]) :: st, Str.empty)
  | .tuple (.str s :: ds), r, st, h => by
    rw [goodT, Bool.and_eq_true] at h
    have e0 : tl (textT (.tuple (.str s :: ds))) = [40] ++ (tl s ++ (tl (textTs ds) ++ [41])) := by
      rw [textT, tl_append, tl_append, tl_append, tl_lp, tl_rp]
      simp only [List.append_assoc]
    have f1 : flushR ([] :: r :: st, Str.empty ++ ⟨(tl s).toArray⟩) = ([.str s] :: r :: st, Str.empty) := by
      rw [show (Str.empty ++ ⟨(tl s).toArray⟩ : Str) = s from (empty_str _).trans (mk_tl s), flush_word (free_ne h.1)]
      rfl
    obtain ⟨S2, h2, f2⟩ := read_texts ds _ [.str s] (r :: st) h.2 f1
    refine ⟨((r ++ [unnum (.tuple (.str s :: ds))]) :: st, Str.empty), ?_, flush_done⟩
    rw [e0, foldC_app, show foldC [40] (r :: st, Str.empty) = some ([] :: r :: st, Str.empty) by rw [foldC, step_lp flush_done]; rfl]
    show foldC (tl s ++ (tl (textTs ds) ++ [41])) ([] :: r :: st, Str.empty) = _
    rw [foldC_app, foldC_free (tl s) _ _ (free_del h.1)]
    show foldC (tl (textTs ds) ++ [41]) _ = _
    rw [foldC_app, h2]
    show foldC [41] S2 = _
    rw [foldC, step_rp f2, unnum, unnums, show unnum (.str s) = .str s by rw [unnum]; all_goals (intros; contradiction)]
    rfl
  | .str x, r, st, h => by
    rw [goodT, Bool.and_eq_true] at h
    refine ⟨_, foldC_free (tl x) _ _ (free_del h.1), ?_⟩
    rw [show (Str.empty ++ ⟨(tl x).toArray⟩ : Str) = x from (empty_str _).trans (mk_tl x), flush_word (free_ne h.1), unnum]
    all_goals (intros; contradiction)
  | .int i, r, st, h => by
    rw [goodT, Bool.and_eq_true, decide_eq_true_eq, decide_eq_true_eq] at h
    obtain ⟨n, rfl⟩ := Int.eq_ofNat_of_zero_le h.1
    refine ⟨_, foldC_free (tl (textT (.int n))) _ _ (free_del (num_free n)), ?_⟩
    rw [show (Str.empty ++ ⟨(tl (textT (.int n))).toArray⟩ : Str) = Str.ofString (toString ((n : Nat) : Int)) from (empty_str _).trans (mk_tl _), flush_word (free_ne (num_free n)), unnum]
  | .none, _, _, h => by rw [goodT] at h; cases h; all_goals (intros; contradiction)
  | .bool _, _, _, h => by rw [goodT] at h; cases h; all_goals (intros; contradiction)
  | .list _, _, _, h => by rw [goodT] at h; cases h; all_goals (intros; contradiction)
  | .dict _, _, _, h => by rw [goodT] at h; cases h; all_goals (intros; contradiction)
  | .tuple [], _, _, h => by rw [goodT] at h; cases h; all_goals (intros; contradiction)
  | .tuple (.none :: _), _, _, h => by rw [goodT] at h; cases h; all_goals (intros; contradiction)
  | .tuple (.bool _ :: _), _, _, h => by rw [goodT] at h; cases h; all_goals (intros; contradiction)
  | .tuple (.int _ :: _), _, _, h => by rw [goodT] at h; cases h; all_goals (intros; contradiction)
  | .tuple (.list _ :: _), _, _, h => by rw [goodT] at h; cases h; all_goals (intros; contradiction)
  | .tuple (.tuple _ :: _), _, _, h => by rw [goodT] at h; cases h; all_goals (intros; contradiction)
  | .tuple (.dict _ :: _), _, _, h => by rw [goodT] at h; cases h; all_goals (intros; contradiction)
theorem read_texts : ∀ (ds : List PyData) (S : RdSt) (r : List PyData) (st : List (List PyData)), goodTs ds = true → flushR S = (r :: st, Str.empty) → ∃ S', foldC (tl (textTs ds)) S = some S' ∧ flushR S' = ((r ++ unnums ds) :: st, Str.empty)
  | [], S, r, st, _, f => ⟨S, rfl, by rw [f, unnums, List.append_nil]⟩
  | d :: ds, S, r, st, h, f => by
    rw [goodTs, Bool.and_eq_true] at h
    obtain ⟨S1, h1, f1⟩ := read_text d r st h.1
    obtain ⟨S2, h2, f2⟩ := read_texts ds S1 _ st h.2 f1
    refine ⟨S2, ?_, by rw [f2, unnums, List.append_assoc]; rfl⟩
    have e0 : tl (textTs (d :: ds)) = [32] ++ (tl (textT d) ++ tl (textTs ds)) := by
      rw [textTs, tl_append, tl_append, tl_bl, List.append_assoc]
    rw [e0, foldC_app, show foldC [32] S = some (r :: st, Str.empty) by rw [foldC, step_blank f]; rfl]
    show foldC (tl (textT d) ++ tl (textTs ds)) (r :: st, Str.empty) = _
    rw [foldC_app, h1]
    exact h2
end
theorem read_good {d : PyData} (h : goodT d = true) : readT (textT d) = unnum d := by
  unfold readT
  obtain ⟨S, h1, f1⟩ := read_text d [] [] h
  rw [foldC_app, h1]
  show lastR (foldC [32] S) = _
  rw [foldC, step_blank f1]
  rfl
theorem unnums_map : ∀ ds : List PyData, unnums ds = ds.map unnum
  | [] => rfl
  | d :: ds => by rw [unnums, unnums_map ds]; rfl
theorem unnum_str (x : Str) : unnum (.str x) = .str x := by
  rw [unnum]
  all_goals (intros; contradiction)
theorem form_unnum {W : Wd} (ok : W.Ok) : ∀ d, isFormD W d = true → unnum d = d := by
  refine form_rec ok (fun x hx => unnum_str x) (fun _ => ?_) fun x ds hx nx hn hl hd => ?_
  · rw [unnum, unnums, unnums, unnum_str]
  · rw [unnum, unnums, unnum_str, unnums_map]
    congr 2
    exact (List.map_congr_left fun d m => (hd d m).2).trans (List.map_id _)
/-! ### numbers again -/
def isDigits (w : Str) : Bool := !(tl w).isEmpty && (tl w).all isDig
def numOf? : List PyData → Option Int
  | [.str a, .str w] => if decide (a = star) && isDigits w then some ((NumText.digitsVal (tl w) : Nat) : Int) else none
  | _ => none
mutual
def numbD : PyData → PyData
  | .tuple ds => match numOf? ds with
    | some n => .tuple [.str star, .int n]
    | none => .tuple (numbDs ds)
  | d => d
def numbDs : List PyData → List PyData
  | [] => []
  | d :: ds => numbD d :: numbDs ds
end
theorem numbDs_map : ∀ ds : List PyData, numbDs ds = ds.map numbD
  | [] => rfl
  | d :: ds => by rw [numbDs, numbDs_map ds]; rfl
theorem numbD_str (x : Str) : numbD (.str x) = .str x := by
  rw [numbD]
  all_goals (intros; contradiction)
theorem tree_numb {W : Wd} (ok : W.Ok) : ∀ d, isTreeD W d = true → numbD (unnum d) = d := by
  refine tree_rec ok (fun i _ h0 => ?_) fun x ds hx nx hn hl hd => ?_
  · obtain ⟨n, rfl⟩ := Int.eq_ofNat_of_zero_le h0
    rw [unnum, unnums, unnums, unnums, unnum_str, unnum, numbD]
    have : numOf? [.str star, .str (Str.ofString (toString ((n : Nat) : Int)))] = some (n : Int) := by
      show (if (decide (star = star) && isDigits (Str.ofString (toString ((n : Nat) : Int)))) = true then some ((NumText.digitsVal (tl (Str.ofString (toString ((n : Nat) : Int)))) : Nat) : Int) else none) = _
      unfold isDigits
      rw [tl_num, num_dig, decide_eq_true rfl, numL_val]
      have := numL_ne n
      cases e : numL n with
      | nil => exact absurd e this
      | cons a b => rfl
    rw [this]
  · rw [unnum, unnums, unnum_str, numbD]
    have : numOf? (.str x :: unnums ds) = none := by
      unfold numOf?
      split
      · rename_i h
        injection h with h _
        injection h with h
        rw [decide_eq_false (by rw [← h]; exact nx)]
        rfl
      · rfl
    rw [this]
    show PyData.tuple (numbDs (.str x :: unnums ds)) = _
    rw [numbDs, numbD_str, numbDs_map, unnums_map, List.map_map]
    congr 2
    exact (List.map_congr_left fun d m => (hd d m).2).trans (List.map_id _)
/-! ### both ways say the same -/
/-- a form or tree told of a text, if the text is its own -/
def readF (W : Wd) (t : Str) : Option PyData := if isFormD W (toldT t) && decide (textT (toldT t) = t) then some (toldT t) else none
def readR (W : Wd) (t : Str) : Option PyData := if isTreeD W (toldT t) && decide (textT (toldT t) = t) then some (toldT t) else none
def dueF (W : Wd) (t : Str) : Option PyData := if isFormD W (readT t) && decide (textT (readT t) = t) then some (readT t) else none
def dueR (W : Wd) (t : Str) : Option PyData := if isTreeD W (numbD (readT t)) && decide (textT (numbD (readT t)) = t) then some (numbD (readT t)) else none
theorem form_same {W : Wd} (ok : W.Ok) (t : Str) : readF W t = dueF W t := by
  unfold readF dueF
  by_cases h : isFormD W (toldT t) = true ∧ textT (toldT t) = t
  · obtain ⟨h1, h2⟩ := h
    have g := form_good ok _ h1
    have r := read_good g
    rw [h2, form_unnum ok _ h1] at r
    rw [r, h1, decide_eq_true h2]
  · rw [if_neg (by simpa using h)]
    by_cases k : isFormD W (readT t) = true ∧ textT (readT t) = t
    · obtain ⟨k1, k2⟩ := k
      have r := told_good (form_good ok _ k1)
      rw [k2] at r
      rw [r] at h
      exact absurd ⟨k1, k2⟩ h
    · rw [if_neg (by simpa using k)]
theorem tree_same {W : Wd} (ok : W.Ok) (t : Str) (d1 : digsT 640 (toldT t) = true) (d2 : digsT 640 (numbD (readT t)) = true) : readR W t = dueR W t := by
  unfold readR dueR
  by_cases h : isTreeD W (toldT t) = true ∧ textT (toldT t) = t
  · obtain ⟨h1, h2⟩ := h
    have g := tree_good ok _ h1 d1
    have r := read_good g
    rw [h2] at r
    have r2 : numbD (readT t) = toldT t := by rw [r, tree_numb ok _ h1]
    rw [r2, h1, decide_eq_true h2]
  · rw [if_neg (by simpa using h)]
    by_cases k : isTreeD W (numbD (readT t)) = true ∧ textT (numbD (readT t)) = t
    · obtain ⟨k1, k2⟩ := k
      have r := told_good (tree_good ok _ k1 d2)
      rw [k2] at r
      rw [r] at h
      exact absurd ⟨k1, k2⟩ h
    · rw [if_neg (by simpa using k)]
end KW
namespace KW
open PySem PySem.Spec PyProof.Rows L2 Evl TL PySem.Builtin PySem.Builtin.Str
/-! ### form_text -/
mutual
/-- texts, numbers, and nodes that begin with a text -/
def txtT : PyData → Bool
  | .str _ => true
  | .int i => decide (i.natAbs.log2 < 1920)
  | .tuple (.str _ :: ds) => txtTs ds
  | _ => false
def txtTs : List PyData → Bool
  | [] => true
  | d :: ds => txtT d && txtTs ds
end
theorem txtTs_mem : ∀ {ds : List PyData}, txtTs ds = true ↔ ∀ d ∈ ds, txtT d = true
  | [] => by simp [txtTs]
  | d :: ds => by rw [txtTs, Bool.and_eq_true, txtTs_mem]; simp
mutual
def msr : PyData → Nat
  | .tuple (.str _ :: ds) => 2 + msrs ds
  | _ => 1
def msrs : List PyData → Nat
  | [] => 0
  | d :: ds => msr d + 1 + msrs ds
end
theorem msr_pos (d : PyData) : 1 ≤ msr d := by
  unfold msr
  split <;> omega
def msum (ds : List PyData) : Nat := (ds.map msr).sum
theorem msum_app (a b : List PyData) : msum (a ++ b) = msum a + msum b := by
  unfold msum
  rw [List.map_append, List.sum_append]
theorem msum_len : ∀ ds : List PyData, ds.length ≤ msum ds
  | [] => Nat.zero_le _
  | d :: ds => by
    have h1 := msr_pos d
    have h2 := msum_len ds
    show ds.length + 1 ≤ msr d + msum ds
    omega
theorem msum_one (d : PyData) : msum [d] = msr d := by simp [msum]
theorem msum_cons (d : PyData) (ds : List PyData) : msum (d :: ds) = msr d + msum ds := rfl
/-- all their texts, one behind the other -/
def textA : List PyData → Str
  | [] => Str.empty
  | d :: ds => textT d ++ textA ds
theorem textA_app : ∀ a b : List PyData, textA (a ++ b) = textA a ++ textA b
  | [], b => (empty_str _).symm
  | d :: a, b => by
    show textT d ++ textA (a ++ b) = textT d ++ textA a ++ textA b
    rw [textA_app a b, str_assoc]
/-- the parts as they wait: the last one first -/
def wPart (d : PyData) : List PyData := [d, .str blS]
def waitP (ds : List PyData) : List PyData := (ds.reverse.map wPart).flatten
theorem waitP_cons (d : PyData) (ds : List PyData) : waitP (d :: ds) = waitP ds ++ [d, .str blS] := by
  unfold waitP
  rw [List.reverse_cons, List.map_append, List.flatten_append]
  rfl
theorem waitP_text : ∀ ds : List PyData, textA (waitP ds).reverse = textTs ds
  | [] => rfl
  | d :: ds => by
    rw [waitP_cons, List.reverse_append, textA_app, waitP_text ds, textTs]
    show textT (.str blS) ++ (textT d ++ Str.empty) ++ textTs ds = _
    rw [str_empty]
    rfl
theorem waitP_msum : ∀ ds : List PyData, msum (waitP ds) = msrs ds
  | [] => rfl
  | d :: ds => by
    rw [waitP_cons, msum_app, waitP_msum ds, msrs]
    show msrs ds + (msr d + (1 + 0)) = _
    omega
theorem waitP_txt {ds : List PyData} (h : txtTs ds = true) : txtTs (waitP ds) = true := by
  refine txtTs_mem.mpr fun d m => ?_
  unfold waitP at m
  obtain ⟨l, hl, hd⟩ := List.mem_flatten.mp m
  obtain ⟨e, he, rfl⟩ := List.mem_map.mp hl
  rcases List.mem_cons.mp hd with rfl | hd
  · exact txtTs_mem.mp h d (List.mem_reverse.mp he)
  · rw [List.mem_singleton.mp hd]
    rfl
def catS : List Str → Str
  | [] => Str.empty
  | x :: xs => x ++ catS xs
theorem catS_snoc : ∀ (xs : List Str) (y : Str), catS (xs ++ [y]) = catS xs ++ y
  | [], y => by
    show y ++ Str.empty = Str.empty ++ y
    rw [str_empty, empty_str]
  | x :: xs, y => by
    show x ++ catS (xs ++ [y]) = x ++ catS xs ++ y
    rw [catS_snoc xs y, str_assoc]
theorem join_catS : ∀ xs : List Str, Str.join Str.empty xs = catS xs
  | [] => rfl
  | [x] => (str_empty x).symm
  | x :: y :: xs => by
    show x ++ Str.empty ++ Str.join Str.empty (y :: xs) = x ++ catS (y :: xs)
    rw [join_catS (y :: xs), str_empty]
theorem str_len_app (a b : Str) : (a ++ b).length = a.length + b.length := by rw [len_tl, len_tl, len_tl, tl_append, List.length_append]
theorem catS_len : ∀ xs : List Str, (catS xs).length = (xs.map (·.length)).sum
  | [] => rfl
  | x :: xs => by
    show (x ++ catS xs).length = _
    rw [str_len_app, catS_len xs]
    rfl
def spFT (K : PySem.W.Frag) : Sp := fun vs H Q _ => ∃ x d, vs = [x] ∧ Dq K H x d ∧ txtT d = true ∧ msr d ≤ 40000 ∧ (textT d).length ≤ 100000 ∧ ∀ H', Ex H H' → Q (.str (textT d)) H'
theorem spFT_v {K : PySem.W.Frag} {x : V} {d : PyData} {H : Hp} (q : Dq K H x d) (t : txtT d = true) (m : msr d ≤ 40000) (l : (textT d).length ≤ 100000) : SpV (spFT K) ([x] ++ []) H (.str (textT d)) := fun H1 e Q k E => ⟨x, d, rfl, q.ex e, t, m, l, k⟩
section
variable {P : Program} {w : World} {K : PySem.W.Frag} {mg : Str → Option Value} {base : Heap}
theorem sc_form_text : FnScope ["form", "pieces", "waiting", "node", "part"] ["form"] (defScope s_form_text) := ⟨rfl, rfl, rfl, by decide +kernel, rfl, by decide +kernel, by decide +kernel⟩
theorem ok_form_text {f : Addr} {fd : FuncData} (F : Fun K "form_text" "form_text" s_form_text f fd) (B : Bt mg) : FnOk P w K mg base CX0 1 f fd ["form"] (spFT K) := by
  refine F.ok sc_form_text (fun vs H Q E h => ?_) (fun cdv A outer s H vs Q E hr h => ?_)
  · obtain ⟨x, d, rfl, _⟩ := h
    rfl
  · obtain ⟨x, d, rfl, q, ht, hm, hl, k⟩ := h
    refine ⟨_, pss_cons (ps_set (i := 1) sc_form_text.nd rfl (Or.inl rfl) (pe_lst pa_nil))
      (pss_cons (ps_set (i := 2) sc_form_text.nd rfl (Or.inl rfl) (pe_lst (pa_cons (pv 0) pa_nil)))
      (pss_cons (ps_while PassesOwn.never (pt_truth (pv 2) (fun _ => rfl))
        (pss_cons (ps_set (i := 3) sc_form_text.nd rfl (Or.inl rfl) (pe_bm0 PySem.F.plainAttrs_list PySem.F.slot_list_pop PySem.F.type_list_pop mt_pop (pv 2)))
        (pss_one (ps_if (pt_val (pe_callB call_isD (by rfl) B.isinstance boot_isinstance (pa_cons (pv 3) (pa_cons (pe_tyN "tuple" (by rfl) B.tuple boot_tuple) pa_nil))))
          (pss_cons (ps_expr (pe_bm PySem.F.plainAttrs_list PySem.F.slot_list_append PySem.F.type_list_append mt_append (pv 1) (pa_cons (pe_op op_add_str pe_str (pe_ix ix_tup (pv 3) pe_int (fun _ _ => rfl))) pa_nil)))
          (pss_cons (ps_expr (pe_bm PySem.F.plainAttrs_list PySem.F.slot_list_append PySem.F.type_list_append mt_append (pv 2) (pa_cons pe_str pa_nil)))
          (pss_one (ps_for PassesOwn.never rfl (pi_tup (pe_tail (pv 3))) (pg_name (i := 4) sc_form_text.nd rfl (Or.inl rfl))
            (pss_one (ps_expr (pe_bm PySem.F.plainAttrs_list PySem.F.slot_list_extend PySem.F.type_list_extend mt_extend (pv 2) (pa_cons (pe_lst (pa_cons (pv 4) (pa_cons pe_str pa_nil))) pa_nil))))))))
          (pss_one (ps_expr (pe_bm PySem.F.plainAttrs_list PySem.F.slot_list_append PySem.F.type_list_append mt_append (pv 1) (pa_cons (pe_callTy (cr_either call_str_int SkE.call_str_str) (by rfl) B.str boot_str (pa_cons (pv 3) pa_nil)) pa_nil))))))))
      (pss_one (ps_ret (pe_bm PySem.F.plainAttrs_str PySem.F.slot_str_join PySem.F.type_str_join mt_join pe_str (pa_cons (pv 1) pa_nil)))))), ?_⟩
    refine q_asgL (el_lst ea_nil (by decide)) fun n H1 hn e1 h1 => ?_
    refine q_asgL (el_lst (ea_cons (ev_var rfl) ea_nil) (by simp)) fun wt H2 hwt e2 h2 => ?_
    have ne : n ≠ wt := fun z => by rw [z, hwt] at h1; cases h1
    have hwt0 : H wt = none := fresh_back e1 hwt
    have inv0 : ∀ {m : Nat} {σ : L2.St} {H' : Hp} (ys : List Str) (ws : List V) (todo : List PyData) (o3 o4 : Option V), σ = [some x, some (.ref n), some (.ref wt), o3, o4] → Ex H H' → H' n = some (.lst (ys.map V.str)) → H' wt = some (.lst ws) → Dqs K H ws todo → txtTs todo = true → catS ys ++ textA todo.reverse = textT d → ys.length + msum todo ≤ msr d → m = msum todo →
      (∃ (ys : List Str) (ws : List V) (todo : List PyData) (o3 o4 : Option V), σ = [some x, some (.ref n), some (.ref wt), o3, o4] ∧ Ex H H' ∧ H' n = some (.lst (ys.map V.str)) ∧ H' wt = some (.lst ws) ∧ Dqs K H ws todo ∧ txtTs todo = true ∧ catS ys ++ textA todo.reverse = textT d ∧ ys.length + msum todo ≤ msr d ∧ m = msum todo) :=
      fun ys ws todo o3 o4 a b c d e f g h i => ⟨ys, ws, todo, o3, o4, a, b, c, d, e, f, g, h, i⟩
    refine q_while (fun m σ H' => ∃ (ys : List Str) (ws : List V) (todo : List PyData) (o3 o4 : Option V), σ = [some x, some (.ref n), some (.ref wt), o3, o4] ∧ Ex H H' ∧ H' n = some (.lst (ys.map V.str)) ∧ H' wt = some (.lst ws) ∧ Dqs K H ws todo ∧ txtTs todo = true ∧ catS ys ++ textA todo.reverse = textT d ∧ ys.length + msum todo ≤ msr d ∧ m = msum todo) _
      (inv0 [] [x] [d] none none rfl (e1.trans e2) (e2 _ _ h1) h2 (.cons q .nil) (by rw [txtTs, ht]; rfl) (by show Str.empty ++ (textT d ++ Str.empty) = _; rw [empty_str, str_empty]) (by rw [msum_one]; simp) rfl) ?_
    rintro m σ H' ⟨ys, ws, todo, o3, o4, rfl, e3, h3, h4, q2, tt, hd, hms, rfl⟩
    refine ⟨!ws.isEmpty, fun H5 e5 Q' k' => ⟨.ref wt, rfl, _, .inl ⟨ws, sq_of (e5 _ _ h4), rfl⟩, k' H5 (Ex.refl _)⟩, fun c H5 e5 => ?_, fun c H5 e5 => ?_⟩
    · have wne : ws ≠ [] := by
        intro z
        rw [z] at c
        cases c
      obtain ⟨v, d0, es, hv, rfl, qv, qr⟩ := q2.last wne
      have t0 : txtT d0 = true := txtTs_mem.mp tt d0 (by simp)
      have te : txtTs es = true := txtTs_mem.mpr fun e m => txtTs_mem.mp tt e (by simp [m])
      rw [List.reverse_append, List.reverse_singleton] at hd
      have hd : catS ys ++ (textT d0 ++ textA es.reverse) = textT d := hd
      rw [msum_app, msum_one] at hms
      have p0 := msr_pos d0
      have lw := qr.len
      have le := msum_len es
      refine ⟨fun σ2 H2 => ∃ m', m' < msum (es ++ [d0]) ∧ ∃ (ys : List Str) (ws : List V) (todo : List PyData) (o3 o4 : Option V), σ2 = [some x, some (.ref n), some (.ref wt), o3, o4] ∧ Ex H H2 ∧ H2 n = some (.lst (ys.map V.str)) ∧ H2 wt = some (.lst ws) ∧ Dqs K H ws todo ∧ txtTs todo = true ∧ catS ys ++ textA todo.reverse = textT d ∧ ys.length + msum todo ≤ msr d ∧ m' = msum todo, fun σ2 H2 z => z, ?_⟩
      refine ⟨_, rfl, .inl ⟨rfl, ws, sq_of (e5 _ _ h4)⟩, wt, ws, v, rfl, rfl, e5 _ _ h4, hv, ?_⟩
      have hH6 : Ex H (upd H5 wt (.lst ws.dropLast)) := Ex.mut (e3.trans e5) hwt0
      have hw6 : upd H5 wt (.lst ws.dropLast) wt = some (.lst ws.dropLast) := upd_same
      have hn6 : upd H5 wt (.lst ws.dropLast) n = some (.lst (ys.map V.str)) := (upd_ne ne).trans (e5 _ _ h3)
      generalize upd H5 wt (.lst ws.dropLast) = H6 at hH6 hw6 hn6
      have ly : (ys.map V.str).length = ys.length := List.length_map _
      refine s_if (b := isD "tuple" d0) (et_B (ev_isD (ev_var rfl) (qv.ex hH6))) (fun c7 H7 e7 => ?_) fun c7 H7 e7 => ?_
      · obtain ⟨ds, rfl⟩ := signD_tuple c7
        obtain ⟨p, xs, rfl, hp, qs⟩ := Dq.tuple qv
        obtain ⟨y, es0, rfl⟩ : ∃ y es0, ds = .str y :: es0 := by
          match ds, t0 with
          | [], t => cases t
          | .str y :: es0, _ => exact ⟨y, es0, rfl⟩
          | .none :: _, t => cases t
          | .bool _ :: _, t => cases t
          | .int _ :: _, t => cases t
          | .list _ :: _, t => cases t
          | .tuple _ :: _, t => cases t
          | .dict _ :: _, t => cases t
        obtain ⟨us, rfl, qu⟩ : ∃ us, xs = V.str y :: us ∧ Dqs K H us es0 := by
          cases qs with
          | cons qa qs =>
            cases qa
            exact ⟨_, rfl, qs⟩
        have t1 : txtTs es0 = true := by rwa [txtT] at t0
        have em : msr (.tuple (.str y :: es0)) = 2 + msrs es0 := by rw [msr]
        have et : textT (.tuple (.str y :: es0)) = lpS ++ y ++ textTs es0 ++ rpS := by rw [textT]
        rw [em] at hms
        have lx : (lpS ++ y).length ≤ 100000 := by
          have := congrArg Str.length hd
          rw [str_len_app, str_len_app, et, str_len_app, str_len_app] at this
          omega
        have lx2 : lpS.length + y.length ≤ sizeLine := by
          rw [str_len_app] at lx
          exact sz_of lx
        have hp7 := ex_t (hH6.trans e7) hp
        refine q_app (l := n) (e7 _ _ hn6) (ev_var rfl) (v := .str (lpS ++ y)) (ev_op ev_c (ev_ixT (i := 0) (ev_var rfl) ev_c hp7 (atI_nat (j := 0) rfl)) fun H8 e8 Q8 k8 => ⟨_, _, rfl, rfl, lx2, k8 H8 (Ex.refl _)⟩) (by omega) fun H8 e8 => ?_
        have hH8 : Ex H (upd H8 n (.lst (ys.map V.str ++ [.str (lpS ++ y)]))) := Ex.mut ((hH6.trans e7).trans e8) hn
        have hn8 : upd H8 n (.lst (ys.map V.str ++ [.str (lpS ++ y)])) n = some (.lst (ys.map V.str ++ [.str (lpS ++ y)])) := upd_same
        have hw8 : upd H8 n (.lst (ys.map V.str ++ [.str (lpS ++ y)])) wt = some (.lst ws.dropLast) := (upd_ne (Ne.symm ne)).trans (e8 _ _ (e7 _ _ hw6))
        generalize upd H8 n (.lst (ys.map V.str ++ [.str (lpS ++ y)])) = H9 at hH8 hn8 hw8
        refine q_app (l := wt) (v := .str rpS) hw8 (ev_var rfl) ev_c (by omega) fun H10 e10 => ?_
        have hH11 : Ex H (upd H10 wt (.lst (ws.dropLast ++ [.str rpS]))) := Ex.mut (hH8.trans e10) hwt0
        have hn11 : upd H10 wt (.lst (ws.dropLast ++ [.str rpS])) n = some (.lst (ys.map V.str ++ [.str (lpS ++ y)])) := (upd_ne ne).trans (e10 _ _ hn8)
        have hw11 : upd H10 wt (.lst (ws.dropLast ++ [.str rpS])) wt = some (.lst (ws.dropLast ++ [.str rpS])) := upd_same
        generalize upd H10 wt (.lst (ws.dropLast ++ [.str rpS])) = H11 at hH11 hn11 hw11
        refine ⟨_, rfl, p, _, rfl, ex_t hH11 hp, fun t ht => ⟨t, rfl, ⟨_, SqT.of upd_same⟩, ?_⟩⟩
        have eT : ((V.str y :: us).drop 1).reverse = us.reverse := rfl
        rw [eT]
        have e12 := Ex.new (o := .tup us.reverse) ht
        have ht12 : upd H11 t (.tup us.reverse) t = some (.tup us.reverse) := upd_same
        have ntw : t ≠ wt := fun z => by rw [z, hw11] at ht; cases ht
        have ntn : t ≠ n := fun z => by rw [z, hn11] at ht; cases ht
        have hw12 := e12 _ _ hw11
        have hn12 := e12 _ _ hn11
        have hH12 := hH11.trans e12
        generalize upd H11 t (.tup us.reverse) = H12 at e12 ht12 hw12 hn12 hH12
        have lu := qu.len
        have msl : es0.length * 2 ≤ msrs es0 := by
          have gen : ∀ F : List PyData, F.length * 2 ≤ msrs F := by
            intro F
            induction F with
            | nil => exact Nat.zero_le _
            | cons a F ih =>
              have := msr_pos a
              rw [msrs, List.length_cons]
              omega
          exact gen es0
        refine for_it (walk_tup (xs := us.reverse)) (fun i σ H' => ∃ (o4 : Option V) (vs : List V), σ = [some x, some (.ref n), some (.ref wt), some (.ref p), o4] ∧ Kept (fun b => b = wt) H12 H' ∧ H' wt = some (.lst (ws.dropLast ++ [.str rpS] ++ vs)) ∧ Dqs K H vs ((es0.reverse.take i).map wPart).flatten)
          ⟨o4, [], rfl, (fun b o hb _ => hb), by rw [List.append_nil]; exact hw12, .nil⟩ (fun i σ H' _ ⟨_, _, _, kp, _⟩ => st_of (kp _ _ ht12 ntw)) ?_ ?_
        · rintro i v2 σ H' H'' hi ⟨o4', vs, rfl, kp, hw', qvs⟩ ⟨rfl, hv2⟩
          have qrev := qu.rev
          obtain ⟨e, he, qe⟩ := qrev.get i v2 hv2
          have lvs := qvs.len
          have lle : vs.length ≤ es0.length * 2 := by
            rw [lvs]
            have gen : ∀ F : List PyData, (F.map wPart).flatten.length = F.length * 2 := by
              intro F
              induction F with
              | nil => rfl
              | cons a F ih =>
                rw [List.map_cons, List.flatten_cons, List.length_append, ih, List.length_cons]
                show 2 + _ = _
                omega
            rw [gen, List.length_take, List.length_reverse]
            have := Nat.min_le_right i es0.length
            omega
          refine ⟨_, rfl, .inl ⟨rfl, _, sq_of hw'⟩, _, rfl, (by show 2 ≤ sizeLine; decide), fun l hl => ?_⟩
          have nlw : l ≠ wt := fun z => by rw [z, hw'] at hl; cases hl
          refine ⟨wt, l, _, [v2, .str blS], rfl, rfl, (upd_ne (Ne.symm nlw)).trans hw', upd_same, ?_, ?_⟩
          · simp only [List.length_append, List.length_cons, List.length_nil]
            exact sz_of (by omega)
          refine ⟨some v2, vs ++ [v2, .str blS], rfl, ?_, ?_, ?_⟩
          · intro b o hb nb
            rw [upd_ne nb, upd_ne (fun z => by have := kp b o hb nb; rw [z, hl] at this; cases this)]
            exact kp b o hb nb
          · rw [upd_same, List.append_assoc]
          · rw [List.take_succ, he]
            simp only [Option.toList_some, List.map_append, List.map_cons, List.map_nil, List.flatten_append, List.flatten_cons, List.flatten_nil, List.append_nil]
            exact qvs.app (.cons qe (.cons (.str _) .nil))
        · rintro σ H' ⟨o4', vs, rfl, kp, hw', qvs⟩
          have ll : us.reverse.length = es0.reverse.length := by rw [List.length_reverse, List.length_reverse, lu]
          rw [ll, List.take_length] at qvs
          have mw := waitP_msum es0
          have tot : msum (es ++ [.str rpS] ++ waitP es0) = msum es + 1 + msrs es0 := by rw [msum_app, msum_app, mw, msum_one]; rfl
          refine ⟨msum (es ++ [.str rpS] ++ waitP es0), ?_, inv0 (ys ++ [lpS ++ y]) _ (es ++ [.str rpS] ++ waitP es0) _ _ rfl (fun b o hb => kp b o (hH12 b o hb) fun z => by rw [z, hwt0] at hb; cases hb) (by rw [List.map_append]; exact kp _ _ hn12 ne) hw' ((qr.app (.cons (.str rpS) .nil)).app qvs) ?_ ?_ ?_ rfl⟩
          · rw [tot, msum_app, msum_one, em]
            omega
          · refine txtTs_mem.mpr fun e m => ?_
            rcases List.mem_append.mp m with m | m
            · rcases List.mem_append.mp m with m | m
              · exact txtTs_mem.mp te e m
              · rw [List.mem_singleton.mp m]
                rfl
            · exact txtTs_mem.mp (waitP_txt t1) e m
          · rw [List.reverse_append, List.reverse_append, textA_app, textA_app, waitP_text, catS_snoc, ← hd, et]
            show catS ys ++ (lpS ++ y) ++ (textTs es0 ++ ((textT (.str rpS) ++ Str.empty) ++ textA es.reverse)) = _
            rw [str_empty]
            show catS ys ++ (lpS ++ y) ++ (textTs es0 ++ (rpS ++ textA es.reverse)) = _
            simp only [str_assoc]
          · rw [List.length_append, tot, List.length_singleton]
            omega
      · have leaf : Ev (tCB (fun xs H Q => (∃ i, xs = [.int i] ∧ i.natAbs.log2 < 1920 ∧ Q (.str (toString i)) H) ∨ (∃ a, xs = [.str a] ∧ Q (.str a) H)) (tCons (tVar 3) tNil)) [some x, some (.ref n), some (.ref wt), some v, o4] H7 (.str (textT d0)) := by
          intro H8 e8 Q8 k8
          match d0, qv, t0, c7 with
          | .str z, .str _, _, _ => exact ⟨_, rfl, .inr ⟨_, rfl, k8 H8 (Ex.refl _)⟩⟩
          | .int z, .int _, t0, _ => exact ⟨_, rfl, .inl ⟨_, rfl, of_decide_eq_true t0, k8 H8 (Ex.refl _)⟩⟩
          | .none, _, t0, _ => cases t0
          | .bool _, _, t0, _ => cases t0
          | .list _, _, t0, _ => cases t0
          | .dict _, _, t0, _ => cases t0
          | .tuple _, _, _, c7 => cases c7
        refine s_app (l := n) (e7 _ _ hn6) (ev_var rfl) leaf (by omega) fun H8 e8 => ?_
        refine ⟨msum es, by rw [msum_app, msum_one]; omega, inv0 (ys ++ [textT d0]) _ es _ _ rfl (Ex.mut ((hH6.trans e7).trans e8) hn) (by rw [List.map_append]; exact upd_same) ((upd_ne (Ne.symm ne)).trans (e8 _ _ (e7 _ _ hw6))) qr te ?_ ?_ rfl⟩
        · rw [catS_snoc, str_assoc]
          exact hd
        · rw [List.length_append, List.length_singleton]
          omega
    · have w0 : ws = [] := by
        cases ws with
        | nil => rfl
        | cons a b => cases c
      subst w0
      cases q2
      have hd : catS ys ++ Str.empty = textT d := hd
      rw [str_empty] at hd
      refine ⟨rfl, _, rfl, Str.empty, n, ys, rfl, rfl, .inl (sq_of (e5 _ _ h3)), ?_, ?_⟩
      · have := catS_len ys
        rw [hd] at this
        have e0 : Str.empty.length = 0 := rfl
        rw [e0, Nat.mul_zero, ← this]
        omega
      · rw [join_eq, join_catS, hd]
        exact k H5 (e3.trans e5)
end
end KW
namespace KW
open PySem PySem.Spec PyProof.Rows L2 Evl TL PySem.Builtin PySem.Builtin.Str
/-! ### number_or_name -/
def digitS : Str := "0123456789"
structure Dt (mg : Str → Option Value) : Prop where
  digits : ∃ t, mg "DIGITS" = some (.str digitS t)
  most : ∃ t, mg "MOST_DIGITS" = some (.int 800 t)
theorem digit_in (c : Nat) : decide (c ∈ digitS.cps.toList) = isDig c := by
  have e : digitS.cps.toList = [48, 49, 50, 51, 52, 53, 54, 55, 56, 57] := by decide +kernel
  rw [e]
  unfold isDig
  rw [Bool.eq_iff_iff]
  simp
  omega
def vNum (w : Str) : V := match numName w with
  | .int i => .int i
  | .str x => .str x
  | _ => .non
theorem numName_cases (w : Str) : (∃ i : Nat, numName w = .int (i : Int)) ∨ numName w = .str w := by
  unfold numName
  split
  · exact .inl ⟨_, rfl⟩
  · exact .inr rfl
theorem vNum_dq {K : PySem.W.Frag} {H : Hp} (w : Str) : Dq K H (vNum w) (numName w) := by
  unfold vNum
  rcases numName_cases w with ⟨i, e⟩ | e
  · rw [e]
    exact .int _
  · rw [e]
    exact .str _
def spNN (K : PySem.W.Frag) : Sp := fun vs H Q _ => ∃ w : Str, vs = [.str w] ∧ w.length ≤ 640 ∧ ∀ H', Ex H H' → Q (vNum w) H'
theorem spNN_v {K : PySem.W.Frag} {w : Str} {H : Hp} (l : w.length ≤ 640) : SpV (spNN K) ([.str w] ++ []) H (vNum w) := fun H1 e Q k E => ⟨w, rfl, l, k⟩
theorem all_dig {l : List Nat} : l.all isDig = true → NumText.AllDigits l := fun h c m => by
  have := List.all_eq_true.mp h c m
  unfold isDig at this
  simp only [Bool.and_eq_true, decide_eq_true_eq] at this
  exact this
section
variable {P : Program} {w : World} {K : PySem.W.Frag} {mg : Str → Option Value} {base : Heap}
theorem sc_number_or_name : FnScope ["word", "sign"] ["word"] (defScope s_number_or_name) := ⟨rfl, rfl, rfl, by decide +kernel, rfl, by decide +kernel, by decide +kernel⟩
theorem ok_number_or_name {f : Addr} {fd : FuncData} (F : Fun K "number_or_name" "number_or_name" s_number_or_name f fd) (B : Bt mg) (M : Dt mg) : FnOk P w K mg base CX0 1 f fd ["word"] (spNN K) := by
  refine F.ok sc_number_or_name (fun vs H Q E h => ?_) (fun cdv A outer s H vs Q E hr h => ?_)
  · obtain ⟨x, rfl, _⟩ := h
    rfl
  · obtain ⟨z, rfl, hz, k⟩ := h
    obtain ⟨t1, m1⟩ := M.digits
    obtain ⟨t2, m2⟩ := M.most
    refine ⟨_, pss_cons (ps_if (PW.pt (pw_and (pt_chain op_le op_le pe_int (pe_callB call_len_str (by rfl) B.len PySem.boot_len (pa_cons (pv 0) pa_nil)) (pe_glob (v := .int 800) (by rfl) m2 ⟨_, rfl⟩))
        (pw_and1 (pt_val (pe_callB (cr_all rfl) (by rfl) B.all boot_all (pa_cons (pe_lc (own := [("sign", 1)]) (g := gName 1) (tt := tYes) (te := tOp (fun x y H Q => ∃ (c : Nat) (z : Str), x = .str ⟨#[c]⟩ ∧ y = .str z ∧ Q (.bl (decide (c ∈ z.cps.toList))) H) (tVar 1) (tC (.str digitS))) rfl sc_number_or_name.nd (pi_str (pv 0)) (blkOk_by (N := ["word", "sign"]) (sc := defScope s_number_or_name) (by decide +kernel))
        (fun _ _ _ _ _ => pg_name (i := 1) sc_number_or_name.nd rfl (Or.inl rfl)) (fun _ _ _ _ _ => pts_nil) (fun _ _ _ _ _ => by exact pe_cmpR op_in_sign (pv 1) (pe_glob (v := .str digitS) (by rfl) m1 ⟨_, rfl⟩) rfl)) pa_nil))))))
        (pss_one (ps_ret (pe_callTy call_int_str (by rfl) B.int boot_int (pa_cons (pv 0) pa_nil)))) pss_nil)
      (pss_one (ps_ret (pv 0))), ?_⟩
    have zl : z.length = z.cps.size := rfl
    have lenE : Ev (tCB (fun xs H Q => ∃ z, xs = [.str z] ∧ z.length ≤ sizeLine ∧ Q (.int z.length) H) (tCons (tVar 0) tNil)) (start ["word", "sign"] [.str z]) H (.int z.length) := fun H1 e Q k => ⟨_, rfl, z, rfl, sz_of (by omega), k H1 (Ex.refl _)⟩
    have allE : Ev (tCB (rAll K) (tCons (tLc (iStr (tVar 0)) (gName 1) tYes (tOp (fun x y H Q => ∃ (c : Nat) (z : Str), x = .str ⟨#[c]⟩ ∧ y = .str z ∧ Q (.bl (decide (c ∈ z.cps.toList))) H) (tVar 1) (tC (.str digitS))) [1]) tNil)) (start ["word", "sign"] [.str z]) H (.bl ((tl z).all isDig)) := by
      refine ev_is (ev_all (bs := z.cps.toList.map fun c => decide (c ∈ digitS.cps.toList)) ?_) (by
        rw [List.all_map]
        congr 2
        funext c
        exact digit_in c)
      have q := el_lcS (H := H) (σ := start ["word", "sign"] [.str z]) (tl := tVar 0) (tt := tYes) (te := tOp (fun x y H Q => ∃ (c : Nat) (z : Str), x = .str ⟨#[c]⟩ ∧ y = .str z ∧ Q (.bl (decide (c ∈ z.cps.toList))) H) (tVar 1) (tC (.str digitS))) (j := 1) (vs := [1]) (fun _ => true) (fun i => .bl (decide (z.cps.getD i 0 ∈ digitS.cps.toList))) (ev_var rfl) (by omega) (fun _ => rfl) (fun i c H1 e hc H2 e2 Q k => k H2 (Ex.refl _)) (fun i c H1 e hc _ => ?_)
      · refine el_is q ?_
        rw [given_all, List.map_map]
        exact range_map_str z fun c => V.bl (decide (c ∈ digitS.cps.toList))
      · refine ev_is (ev_op (ev_var rfl) ev_c (z := .bl (decide (c ∈ digitS.cps.toList))) fun H1 e Q k => ⟨c, digitS, rfl, rfl, k H1 (Ex.refl _)⟩) ?_
        rw [Array.getD_eq_getD_getElem?, hc]
        rfl
    refine q_when (et_and (et_test (ev_chain ev_c lenE ev_c rv_I0 rv_I0)) fun _ => et_B allE) (fun c H1 e => ?_) fun c H1 e => ?_
    · rw [Bool.and_eq_true, Bool.and_eq_true, decide_eq_true_eq, decide_eq_true_eq] at c
      have ne : tl z ≠ [] := by
        intro zz
        have := len_tl z
        rw [zz] at this
        simp at this
        omega
      have it := PySem.intText_digits (x := z) (all_dig c.2) ne (by omega)
      have ev : vNum z = .int ((NumText.digitsVal (tl z) : Nat) : Int) := by
        unfold vNum numName
        rw [c.2, decide_eq_true (by omega : 1 ≤ z.length), decide_eq_true (by omega : z.length ≤ 800)]
        rfl
      rw [ev] at k
      exact ⟨_, rfl, z, _, rfl, it, hz, k H1 e⟩
    · have ev : vNum z = .str z := by
        unfold vNum numName
        have : (decide (1 ≤ z.length) && (decide (z.length ≤ 800) && (tl z).all isDig)) = false := by
          rw [← c, ← Bool.and_assoc]
          congr 1
          rw [Bool.eq_iff_iff]
          simp
          omega
        rw [this]
        rfl
      rw [ev] at k
      exact s_ret (ev_var rfl) fun H2 e2 => k H2 (e.trans e2)
end
/-! ### what the rows weigh -/
mutual
/-- how much is within: the values and their signs -/
def szD : PyData → Nat
  | .str x => x.length + 1
  | .int i => (numL i.toNat).length + 1
  | .tuple ds => 1 + szDs ds
  | _ => 1
def szDs : List PyData → Nat
  | [] => 0
  | d :: ds => szD d + szDs ds
end
theorem szD_pos (d : PyData) : 1 ≤ szD d := by
  unfold szD
  split <;> omega
theorem szDs_app : ∀ a b : List PyData, szDs (a ++ b) = szDs a + szDs b
  | [], b => by simp [szDs]
  | d :: a, b => by
    rw [List.cons_append, szDs, szDs, szDs_app a b]
    omega
theorem szDs_len : ∀ ds : List PyData, ds.length ≤ szDs ds
  | [] => Nat.zero_le _
  | d :: ds => by
    have := szD_pos d
    have := szDs_len ds
    rw [szDs, List.length_cons]
    omega
def szR (st : List (List PyData)) : Nat := (st.map szDs).sum
theorem szR_cons (r : List PyData) (st : List (List PyData)) : szR (r :: st) = szDs r + szR st := rfl
theorem close_bounds : ∀ (n : Nat) (st st' : List (List PyData)), closeN n st = some st' → szR st' ≤ szR st + n ∧ st'.length ≤ st.length
  | 0, st, st', h => by
    cases h
    exact ⟨Nat.le_refl _, Nat.le_refl _⟩
  | n + 1, [], _, h => by cases h
  | n + 1, [_], _, h => by cases h
  | n + 1, top :: r :: st, st', h => by
    have h : closeN n ((r ++ [.tuple top]) :: st) = some st' := h
    have := close_bounds n _ st' h
    rw [szR_cons, szDs_app, szDs, szDs, szD] at this
    rw [szR_cons, szR_cons]
    simp only [List.length_cons] at this ⊢
    omega
theorem close_add : ∀ (a b : Nat) (st : List (List PyData)), closeN (a + b) st = (closeN a st).bind (closeN b)
  | 0, b, st => by rw [Nat.zero_add]; rfl
  | a + 1, b, [] => by rw [show a + 1 + b = (a + b) + 1 by omega]; rfl
  | a + 1, b, [_] => by rw [show a + 1 + b = (a + b) + 1 by omega]; rfl
  | a + 1, b, top :: r :: st => by
    rw [show a + 1 + b = (a + b) + 1 by omega]
    exact close_add a b _
theorem digits_lt : ∀ (l : List Nat) (a : Nat), NumText.AllDigits l → l.foldl (fun acc c => acc * 10 + (c - 48)) a + 1 ≤ (a + 1) * 10 ^ l.length
  | [], a, _ => by simp
  | c :: l, a, h => by
    have hc := h c (List.mem_cons_self ..)
    have ih := digits_lt l (a * 10 + (c - 48)) fun d m => h d (List.mem_cons_of_mem _ m)
    rw [List.foldl_cons, List.length_cons, Nat.pow_succ]
    refine Nat.le_trans ih ?_
    have e : (a + 1) * (10 ^ l.length * 10) = ((a + 1) * 10) * 10 ^ l.length := by rw [Nat.mul_assoc, Nat.mul_comm 10, ]
    rw [e]
    exact Nat.mul_le_mul_right _ (by omega)
theorem num_short {l : List Nat} (h : NumText.AllDigits l) (n : l ≠ []) : (numL (NumText.digitsVal l)).length ≤ l.length := by
  have p : 0 < l.length := List.length_pos_iff.mpr n
  refine numL_len p ?_
  have := digits_lt l 0 h
  have e : NumText.digitsVal l = l.foldl (fun acc c => acc * 10 + (c - 48)) 0 := rfl
  rw [e]
  omega
theorem numName_sz (w : Str) : szD (numName w) ≤ w.length + 1 := by
  unfold numName
  split
  · rename_i h
    simp only [Bool.and_eq_true, decide_eq_true_eq] at h
    have ne : tl w ≠ [] := by
      intro z
      have := len_tl w
      rw [z] at this
      simp at this
      omega
    have := num_short (all_dig h.2.2) ne
    rw [szD, len_tl]
    exact Nat.succ_le_succ this
  · rw [szD]
    exact Nat.le_refl _
theorem strip_len (goes : Nat → Bool) (l r : Bool) (x : Str) : (Txt.stripBy goes l r x).length ≤ x.length := by
  rw [len_tl, len_tl, tl_stripBy, tl_stripped]
  simp
  omega
theorem open_bounds (w : Str) (st : List (List PyData)) : szR (openW w st) ≤ szR st + (w.length + 1) ∧ (openW w st).length ≤ st.length + 1 := by
  have sl : (Txt.stripChars w opS).length ≤ w.length := strip_len _ _ _ _
  have ns := numName_sz (Txt.stripChars w opS)
  unfold openW
  split
  · rw [szR_cons, szDs, szDs, szD]
    exact ⟨by omega, Nat.le_refl _⟩
  · cases st with
    | nil => exact ⟨by show 0 ≤ _; omega, by show 0 ≤ _; omega⟩
    | cons r st =>
      show szR ((r ++ [numName _]) :: st) ≤ _ ∧ _
      rw [szR_cons, szR_cons, szDs_app, szDs, szDs]
      exact ⟨by omega, by show st.length + 1 ≤ _; simp⟩
def sizeW (ws : List Str) : Nat := (ws.map fun w => w.length + 1).sum
theorem closes_le (w : Str) : closes w ≤ w.length := Nat.sub_le _ _
theorem fold_bounds : ∀ (ws : List Str) (st st' : List (List PyData)), foldW ws st = some st' → szR st' ≤ szR st + 2 * sizeW ws ∧ st'.length ≤ st.length + ws.length
  | [], st, st', h => by
    cases h
    exact ⟨Nat.le_refl _, Nat.le_refl _⟩
  | w :: ws, st, st', h => by
    rw [foldW] at h
    cases hs : stepW w st with
    | none => rw [hs] at h; cases h
    | some s1 =>
      rw [hs] at h
      have h1 := close_bounds _ _ _ hs
      have h2 := open_bounds w st
      have h3 := fold_bounds ws s1 st' h
      have h4 := closes_le w
      have e : sizeW (w :: ws) = w.length + 1 + sizeW ws := rfl
      rw [e, List.length_cons]
      omega
theorem sizeW_join : ∀ (ws : List Str), ws ≠ [] → sizeW ws = (joinB ws).length + 1
  | [w], _ => by show w.length + 1 + 0 = _; rfl
  | w :: x :: ws, _ => by
    have ih := sizeW_join (x :: ws) (by simp)
    have e : sizeW (w :: x :: ws) = w.length + 1 + sizeW (x :: ws) := rfl
    have l1 : blS.length = 1 := by decide +kernel
    rw [e, ih, join_cons w (by simp), str_len_app, str_len_app, l1]
    omega
theorem split_ne (t : Str) : Txt.split t blS ≠ [] := by
  have := PyProof.Rows.split_pos t blS
  intro z
  rw [z] at this
  simp at this
theorem sizeW_split (t : Str) : sizeW (Txt.split t blS) = t.length + 1 := by
  rw [sizeW_join _ (split_ne t), show joinB (Txt.split t blS) = t from StrLaws.join_split t blS]
theorem sizeW_app (a b : List Str) : sizeW (a ++ b) = sizeW a + sizeW b := by
  unfold sizeW
  rw [List.map_append, List.sum_append]
theorem sizeW_take (ws : List Str) (i : Nat) : sizeW (ws.take i) ≤ sizeW ws := by
  have := sizeW_app (ws.take i) (ws.drop i)
  rw [List.take_append_drop] at this
  omega
theorem sizeW_mem {ws : List Str} {w : Str} (h : w ∈ ws) : w.length + 1 ≤ sizeW ws := by
  obtain ⟨a, b, rfl⟩ := List.append_of_mem h
  rw [sizeW_app]
  show _ ≤ _ + (w.length + 1 + sizeW b)
  omega
/-! ### rows in the heap -/
/-- at as (the top first) stand the rows st, all made since H0 -/
inductive RowsAt (K : PySem.W.Frag) (H0 H : Hp) (rl : Addr) : List Addr → List (List PyData) → Prop
  | nil : RowsAt K H0 H rl [] []
  | cons {a : Addr} {as : List Addr} {vs : List V} {ds : List PyData} {st : List (List PyData)} (h : H a = some (.lst vs)) (q : Dqs K H vs ds) (n : noLs ds = true) (f : H0 a = none) (r : a ≠ rl) (m : a ∉ as) (t : RowsAt K H0 H rl as st) : RowsAt K H0 H rl (a :: as) (ds :: st)
theorem RowsAt.len {K : PySem.W.Frag} {H0 H : Hp} {rl : Addr} : ∀ {as : List Addr} {st : List (List PyData)}, RowsAt K H0 H rl as st → as.length = st.length
  | _, _, .nil => rfl
  | _, _, .cons _ _ _ _ _ _ t => congrArg (· + 1) t.len
theorem RowsAt.isl {K : PySem.W.Frag} {H0 H : Hp} {rl : Addr} : ∀ {as : List Addr} {st : List (List PyData)}, RowsAt K H0 H rl as st → ∀ a ∈ as, (∃ vs, H a = some (.lst vs)) ∧ H0 a = none ∧ a ≠ rl
  | _, _, .nil, a, m => nomatch m
  | _, _, .cons h _ _ f r _ t, a, m => by
    rcases List.mem_cons.mp m with rfl | m
    · exact ⟨⟨_, h⟩, f, r⟩
    · exact t.isl a m
theorem RowsAt.frame {K : PySem.W.Frag} {H0 H H' : Hp} {rl : Addr} (k : NL H H') : ∀ {as : List Addr} {st : List (List PyData)}, RowsAt K H0 H rl as st → (∀ a ∈ as, H' a = H a) → RowsAt K H0 H' rl as st
  | _, _, .nil, _ => .nil
  | _, _, .cons h q n f r m t, e => .cons ((e _ (List.mem_cons_self ..)).trans h) (q.nl k n) n f r m (t.frame k fun a ma => e a (List.mem_cons_of_mem _ ma))
theorem RowsAt.ex {K : PySem.W.Frag} {H0 H H' : Hp} {rl : Addr} (e : Ex H H') {as : List Addr} {st : List (List PyData)} (r : RowsAt K H0 H rl as st) : RowsAt K H0 H' rl as st :=
  r.frame (NL.ex e) fun a m => by
    obtain ⟨⟨vs, h⟩, _⟩ := r.isl a m
    rw [h]
    exact e _ _ h
/-- the stack at rl -/
structure StkAt (K : PySem.W.Frag) (H0 H : Hp) (rl : Addr) (st : List (List PyData)) : Prop where
  ex : Ex H0 H
  fr : H0 rl = none
  rows : ∃ as, H rl = some (.lst (as.reverse.map V.ref)) ∧ RowsAt K H0 H rl as st
theorem StkAt.mono {K : PySem.W.Frag} {H0 H H' : Hp} {rl : Addr} {st : List (List PyData)} (S : StkAt K H0 H rl st) (e : Ex H H') : StkAt K H0 H' rl st := by
  obtain ⟨as, h, r⟩ := S.rows
  exact ⟨S.ex.trans e, S.fr, as, e _ _ h, r.ex e⟩
theorem last_rev {a : Addr} {as : List Addr} : ((a :: as).reverse.map V.ref) = as.reverse.map V.ref ++ [.ref a] := by rw [List.reverse_cons, List.map_append]; rfl
/-- a new row laid upon the others -/
theorem StkAt.push {K : PySem.W.Frag} {H0 H : Hp} {rl : Addr} {st : List (List PyData)} (S : StkAt K H0 H rl st) {l : Addr} {vs : List V} {ds : List PyData} {H1 : Hp} (hl : H l = none) (e : Ex H H1) (h1 : H1 l = some (.lst vs)) (q : Dqs K H1 vs ds) (n : noLs ds = true) {xs : List V} (hx : H1 rl = some (.lst xs)) :
    StkAt K H0 (upd H1 rl (.lst (xs ++ [.ref l]))) rl (ds :: st) := by
  obtain ⟨as, h, r⟩ := S.rows
  have hr := e _ _ h
  rw [hr] at hx
  cases hx
  have k : NL H1 (upd H1 rl (.lst (as.reverse.map V.ref ++ [.ref l]))) := NL.upd hr
  have nl : l ≠ rl := fun z => by rw [z, h] at hl; cases hl
  refine ⟨Ex.mut (S.ex.trans e) S.fr, S.fr, l :: as, by rw [last_rev]; exact upd_same, .cons ((upd_ne nl).trans h1) (q.nl k n) n (fresh_back S.ex hl) nl (fun m => ?_) ((r.ex e).frame k fun a m => upd_ne (r.isl a m).2.2)⟩
  obtain ⟨⟨vs, z⟩, _⟩ := r.isl l m
  rw [hl] at z
  cases z
/-- the top row -/
theorem StkAt.top {K : PySem.W.Frag} {H0 H : Hp} {rl : Addr} {r : List PyData} {st : List (List PyData)} (S : StkAt K H0 H rl (r :: st)) : ∃ (a : Addr) (as : List Addr) (vs : List V), H rl = some (.lst (as.reverse.map V.ref ++ [.ref a])) ∧ H a = some (.lst vs) ∧ Dqs K H vs r ∧ noLs r = true ∧ as.length = st.length ∧ a ≠ rl ∧ H0 a = none ∧
    (∀ {H1 : Hp} {v : V} {d : PyData}, Ex H H1 → Dq K H1 v d → noL d = true → StkAt K H0 (upd H1 a (.lst (vs ++ [v]))) rl ((r ++ [d]) :: st)) ∧
    (StkAt K H0 (upd H rl (.lst (as.reverse.map V.ref))) rl st) := by
  obtain ⟨as, h, R⟩ := S.rows
  cases R with
  | @cons a as vs ds st ha q n f nr m t =>
    refine ⟨a, as, vs, by rw [← last_rev]; exact h, ha, q, n, t.len, nr, f, fun {H1 v d} e qd nd => ?_, ?_⟩
    · have k : NL H1 (upd H1 a (.lst (vs ++ [v]))) := NL.upd (e _ _ ha)
      refine ⟨Ex.mut (S.ex.trans e) f, S.fr, a :: as, (upd_ne (Ne.symm nr)).trans (e _ _ h), .cons upd_same ((q.ex e).nl k n |>.app (.cons (qd.nl k nd) .nil)) (by rw [noLs_app, n, noLs, nd]; rfl) f nr m ((t.ex e).frame k fun b mb => upd_ne fun z => m (z ▸ mb))⟩
    · have k : NL H (upd H rl (.lst (as.reverse.map V.ref))) := NL.upd h
      exact ⟨Ex.mut S.ex S.fr, S.fr, as, upd_same, t.frame k fun b mb => upd_ne (t.isl b mb).2.2⟩
end KW
namespace KW
open PySem PySem.Spec PyProof.Rows L2 Evl TL PySem.Builtin PySem.Builtin.Str
/-! ### told_by -/
theorem close_ne : ∀ (n : Nat) (st st' : List (List PyData)), closeN n st = some st' → st ≠ [] → st' ≠ []
  | 0, st, st', h, n => by
    cases h
    exact n
  | n + 1, [], _, h, _ => by cases h
  | n + 1, [_], _, h, _ => by cases h
  | n + 1, top :: r :: st, st', h, _ => close_ne n _ st' h (by simp)
theorem open_ne {w : Str} {st : List (List PyData)} (h : st ≠ []) : openW w st ≠ [] := by
  unfold openW
  split
  · simp
  · cases st with
    | nil => exact absurd rfl h
    | cons r st => simp [addTop]
theorem fold_ne : ∀ (ws : List Str) (st st' : List (List PyData)), foldW ws st = some st' → st ≠ [] → st' ≠ []
  | [], st, st', h, n => by
    cases h
    exact n
  | w :: ws, st, st', h, n => by
    rw [foldW] at h
    cases hs : stepW w st with
    | none => rw [hs] at h; cases h
    | some s1 =>
      rw [hs] at h
      exact fold_ne ws s1 st' h (close_ne _ _ _ hs (open_ne n))
theorem fold_take {ws : List Str} {i : Nat} {w : Str} {s0 st : List (List PyData)} (h : foldW (ws.take i) s0 = some st) (hw : ws[i]? = some w) : foldW (ws.take (i + 1)) s0 = stepW w st := by
  rw [List.take_succ, hw, foldW_app, h]
  show (stepW w st).bind (foldW []) = _
  cases stepW w st <;> rfl
theorem fold_none {ws : List Str} {i : Nat} {w : Str} {s0 st : List (List PyData)} (h : foldW (ws.take i) s0 = some st) (hw : ws[i]? = some w) (n : stepW w st = none) : foldW ws s0 = none := by
  have e : foldW (ws.take (i + 1) ++ ws.drop (i + 1)) s0 = none := by rw [foldW_app, fold_take h hw, n]; rfl
  rwa [List.take_append_drop] at e
theorem ev_rstrip {K : PySem.W.Frag} {σ : L2.St} {H : Hp} {te tb : TE} {x y : Str} (h : Ev te σ H (.str x)) (h2 : Ev tb σ H (.str y)) (l : x.length ≤ 100000) :
    Ev (tBM K "str" (fun x xs H Q => ∃ a b, x = .str a ∧ xs = [.str b] ∧ a.length ≤ sizeLine ∧ Q (.str (Txt.rstripChars a b)) H) te (tCons tb tNil)) σ H (.str (Txt.rstripChars x y)) := fun H1 e Q k =>
  h H1 e _ fun H2 e2 => ⟨rfl, h2 H2 (e.trans e2) _ fun H3 e3 => ⟨x, y, rfl, rfl, sz_of l, k H3 (e2.trans e3)⟩⟩
theorem ev_strip {K : PySem.W.Frag} {σ : L2.St} {H : Hp} {te tb : TE} {x y : Str} (h : Ev te σ H (.str x)) (h2 : Ev tb σ H (.str y)) (l : x.length ≤ 100000) :
    Ev (tBM K "str" (fun x xs H Q => ∃ a b, x = .str a ∧ xs = [.str b] ∧ a.length ≤ sizeLine ∧ Q (.str (Txt.stripChars a b)) H) te (tCons tb tNil)) σ H (.str (Txt.stripChars x y)) := fun H1 e Q k =>
  h H1 e _ fun H2 e2 => ⟨rfl, h2 H2 (e.trans e2) _ fun H3 e3 => ⟨x, y, rfl, rfl, sz_of l, k H3 (e2.trans e3)⟩⟩
theorem ev_sw {K : PySem.W.Frag} {σ : L2.St} {H : Hp} {te tb : TE} {x y : Str} (h : Ev te σ H (.str x)) (h2 : Ev tb σ H (.str y)) :
    Ev (tBM K "str" (fun x xs H Q => ∃ a b, x = .str a ∧ xs = [.str b] ∧ Q (.bl (Txt.startswith a b)) H) te (tCons tb tNil)) σ H (.bl (Txt.startswith x y)) := fun H1 e Q k =>
  h H1 e _ fun H2 e2 => ⟨rfl, h2 H2 (e.trans e2) _ fun H3 e3 => ⟨x, y, rfl, rfl, k H3 (e2.trans e3)⟩⟩
theorem ev_lenS {σ : L2.St} {H : Hp} {te : TE} {x : Str} (h : Ev te σ H (.str x)) (l : x.length ≤ 100000) : Ev (tCB (fun xs H Q => ∃ z, xs = [.str z] ∧ z.length ≤ sizeLine ∧ Q (.int z.length) H) (tCons te tNil)) σ H (.int x.length) := fun H1 e Q k =>
  h H1 e _ fun H2 e2 => ⟨x, rfl, sz_of l, k H2 e2⟩
theorem noL_num (w : Str) : noL (numName w) = true := by
  rcases numName_cases w with ⟨i, e⟩ | e <;> rw [e] <;> rfl
theorem lastOf_no {st : List (List PyData)} (h : st.length ≠ 1) : lastOf (some st) = .none := by
  unfold lastOf
  split
  · rename_i e
    cases e
    exact absurd rfl h
  · rfl
def spTB (K : PySem.W.Frag) : Sp := fun vs H Q _ => ∃ t : Str, vs = [.str t] ∧ t.length ≤ 640 ∧ ∀ v H', Ex H H' → Dq K H' v (toldT t) → Q v H'
section
variable {P : Program} {w : World} {K : PySem.W.Frag} {mg : Str → Option Value} {base : Heap}
theorem sc_told_by : FnScope ["text", "rows", "word", "name", "_", "node"] ["text"] (defScope s_told_by) := ⟨rfl, rfl, rfl, by decide +kernel, rfl, by decide +kernel, by decide +kernel⟩
theorem ok_told_by {f fN : Addr} {fd fdN : FuncData} (F : Fun K "told_by" "told_by" s_told_by f fd) (B : Bt mg)
    (kN : PySem.W.keepIn K (.ref fN) = true) (bN : Binds K fdN ["word"] []) (gN : mg "number_or_name" = some (.ref fN)) (GN : FnOk P w K mg base CX0 1 fN fdN ["word"] (spNN K)) : FnOk P w K mg base CX0 2 f fd ["text"] (spTB K) := by
  refine F.ok sc_told_by (fun vs H Q E h => ?_) (fun cdv A outer s H vs Q E hr h => ?_)
  · obtain ⟨x, rfl, _⟩ := h
    rfl
  · obtain ⟨t, rfl, hz, k⟩ := h
    refine ⟨_, pss_cons (ps_set (i := 1) sc_told_by.nd rfl (Or.inl rfl) (pe_lst (pa_cons (pe_lst pa_nil) pa_nil)))
      (pss_cons (ps_for PassesOwn.never rfl (pi_list (pe_bm PySem.F.plainAttrs_str PySem.F.slot_str_split PySem.F.type_str_split mt_split (pv 0) (pa_cons pe_str pa_nil))) (pg_name (i := 2) sc_told_by.nd rfl (Or.inl rfl))
        (pss_cons (ps_set (i := 3) sc_told_by.nd rfl (Or.inl rfl) (pe_bm PySem.F.plainAttrs_str PySem.F.slot_str_strip PySem.F.type_str_strip mt_stripChars (pv 2) (pa_cons pe_str pa_nil)))
        (pss_cut (ps_if (pt_val (pe_bm PySem.F.plainAttrs_str PySem.F.slot_str_startswith PySem.F.type_str_startswith mt_startswith (pv 2) (pa_cons pe_str pa_nil)))
          (pss_one (ps_expr (pe_bm PySem.F.plainAttrs_list PySem.F.slot_list_append PySem.F.type_list_append mt_append (pv 1) (pa_cons (pe_lst (pa_cons (pv 3) pa_nil)) pa_nil))))
          (pss_one (ps_expr (pe_bm PySem.F.plainAttrs_list PySem.F.slot_list_append PySem.F.type_list_append mt_append (pe_ix ix_list (pv 1) (pe_un un_neg pe_int) (fun _ _ => rfl)) (pa_cons (pe_call GN hr (by rfl) gN kN bN .nil pass0 (pa_cons (pv 3) pa_nil)) pa_nil)))))
        (pss_one (ps_for PassesOwn.never rfl (pi_range1 (by rfl) B.range (pa_cons (pe_op op_sub (pe_callB call_len_str (by rfl) B.len PySem.boot_len (pa_cons (pv 2) pa_nil)) (pe_callB call_len_str (by rfl) B.len PySem.boot_len (pa_cons (pe_bm PySem.F.plainAttrs_str PySem.F.slot_str_rstrip PySem.F.type_str_rstrip mt_rstripChars (pv 2) (pa_cons pe_str pa_nil)) pa_nil))) pa_nil)) (pg_name (i := 4) sc_told_by.nd rfl (Or.inl rfl))
          (pss_cons (ps_if (pt_cmpR op_eq (pe_callB call_len_seq (by rfl) B.len PySem.boot_len (pa_cons (pv 1) pa_nil)) pe_int (nomark _)) (pss_one (ps_ret pe_non)) pss_nil)
          (pss_cons (ps_set (i := 5) sc_told_by.nd rfl (Or.inl rfl) (pe_callTy call_tuple_of (by rfl) B.tuple boot_tuple (pa_cons (pe_bm0 PySem.F.plainAttrs_list PySem.F.slot_list_pop PySem.F.type_list_pop mt_pop (pv 1)) pa_nil)))
          (pss_one (ps_expr (pe_bm PySem.F.plainAttrs_list PySem.F.slot_list_append PySem.F.type_list_append mt_append (pe_ix ix_list (pv 1) (pe_un un_neg pe_int) (fun _ _ => rfl)) (pa_cons (pv 5) pa_nil)))))))))))
      (pss_one (ps_ret (pe_ifExp (PW.pt (pw_and (pt_cmpR op_eq (pe_callB call_len_seq (by rfl) B.len PySem.boot_len (pa_cons (pv 1) pa_nil)) pe_int (nomark _)) (pw_and1 (pt_cmpR op_eq (pe_callB call_len_seq (by rfl) B.len PySem.boot_len (pa_cons (pe_ix ix_list (pv 1) pe_int (fun _ _ => rfl)) pa_nil)) pe_int (nomark _)))))
        (pe_ix ix_list (pe_ix ix_list (pv 1) pe_int (fun _ _ => rfl)) pe_int (fun _ _ => rfl)) pe_non)))), ?_⟩
    -- rows = [[]]
    refine (show tAsg (tLst (tCons (tLst tNil) tNil)) (gName 1) _ _ _ from ?_)
    refine ⟨(by show 0 ≤ sizeLine; decide), fun r0 hr0 => ⟨(by show 1 ≤ sizeLine; decide), fun rl hrl => ?_⟩⟩
    have e1 := Ex.new (o := .lst []) hr0
    have e2 := Ex.new (o := .lst [.ref r0]) hrl
    have h20 := e2 _ _ (show upd H r0 (.lst []) r0 = some (.lst []) from upd_same)
    have h2l : upd (upd H r0 (.lst [])) rl (.lst [.ref r0]) rl = some (.lst [.ref r0]) := upd_same
    have e12 := e1.trans e2
    have nrl : r0 ≠ rl := fun z => by rw [← z, upd_same] at hrl; cases hrl
    have hrl0 : H rl = none := fresh_back e1 hrl
    generalize upd (upd H r0 (.lst [])) rl (.lst [.ref r0]) = H2 at h20 h2l e12
    -- the words
    refine ⟨_, rfl, rfl, t, blS, rfl, rfl, by decide +kernel, sz_of (by omega), fun wl hwl => ⟨wl, rfl, ⟨_, SqL.of upd_same⟩, ?_⟩⟩
    have hwl0 : H wl = none := fresh_back e12 hwl
    have nwr : r0 ≠ wl := fun z => by rw [← z, h20] at hwl; cases hwl
    have nwl : rl ≠ wl := fun z => by rw [← z, h2l] at hwl; cases hwl
    have S0 : StkAt K (upd H wl (.lst ((Txt.split t blS).map V.str))) (upd H2 wl (.lst ((Txt.split t blS).map V.str))) rl [[]] := by
      refine ⟨fun b o hb => ?_, (upd_ne nwl).trans hrl0, [r0], (upd_ne nwl).trans h2l, .cons ((upd_ne nwr).trans h20) .nil rfl ((upd_ne nwr).trans hr0) nrl (fun m => nomatch m) .nil⟩
      by_cases z : b = wl
      · rw [z, upd_same] at hb ⊢
        exact hb
      · rw [upd_ne z] at hb ⊢
        exact e12 _ _ hb
    have eB : Ex H (upd H wl (.lst ((Txt.split t blS).map V.str))) := Ex.new hwl0
    have hB : upd H wl (.lst ((Txt.split t blS).map V.str)) wl = some (.lst ((Txt.split t blS).map V.str)) := upd_same
    have szT := sizeW_split t
    have toldE : toldT t = lastOf (foldW (Txt.split t blS) [[]]) := rfl
    generalize Txt.split t blS = ws at S0 eB hB szT toldE
    generalize upd H wl (.lst (ws.map V.str)) = HB at S0 eB hB
    generalize upd H2 wl (.lst (ws.map V.str)) = H3 at S0
    have lws : ws.length ≤ 641 := by
      have : ws.length ≤ sizeW ws := by
        have gen : ∀ l : List Str, l.length ≤ sizeW l := by
          intro l
          induction l with
          | nil => exact Nat.zero_le _
          | cons a l ih =>
            show l.length + 1 ≤ a.length + 1 + sizeW l
            omega
        exact gen ws
      omega
    refine for_it (walk_list (xs := ws.map V.str)) (fun i σ H' => ∃ (o2 o3 o4 o5 : Option V) (st : List (List PyData)), σ = [some (.str t), some (.ref rl), o2, o3, o4, o5] ∧ StkAt K HB H' rl st ∧ foldW (ws.take i) [[]] = some st) ⟨none, none, none, none, [[]], rfl, S0, rfl⟩
      (fun i σ H' _ ⟨_, _, _, _, _, _, S, _⟩ => sq_of (S.ex _ _ hB)) ?_ ?_
    · rintro i v σ H4 H5 hi ⟨o2, o3, o4, o5, st, rfl, S, hf⟩ ⟨rfl, hv⟩
      obtain ⟨wd, hwd, rfl⟩ : ∃ wd, ws[i]? = some wd ∧ v = .str wd := by
        rw [List.getElem?_map] at hv
        cases e : ws[i]? with
        | none => rw [e] at hv; cases hv
        | some wd => rw [e] at hv; exact ⟨wd, rfl, (Option.some.inj hv).symm⟩
      have bnd := fold_bounds _ _ _ hf
      have hi2 : i < ws.length := by simpa using hi
      have tk := sizeW_take ws i
      have mw := sizeW_mem (List.mem_of_getElem? hwd)
      have lt := List.length_take_le i ws
      have s00 : szR [[]] = 0 := rfl
      have l00 : ([[]] : List (List PyData)).length = 1 := rfl
      have ne := fold_ne _ _ _ hf (by simp)
      have bo := open_bounds wd st
      have lst := strip_len opS.cps.contains true true wd
      unfold gName
      -- name
      refine q_asg (σ := [some (.str t), some (.ref rl), some (.str wd), o3, o4, o5]) (ev_strip (y := opS) (ev_var rfl) ev_c (by omega)) fun H6 e6 => ?_
      have S6 := S.mono e6
      refine q_cut (M := fun σ' H' => σ' = [some (.str t), some (.ref rl), some (.str wd), some (.str (Txt.stripChars wd opS)), o4, o5] ∧ StkAt K HB H' rl (openW wd st)) ?_ ?_
      · refine s_if (ev_sw (y := lpS) (ev_var rfl) ev_c |> et_B) (fun c H7 e7 => ?_) fun c H7 e7 => ?_
        · have eo : openW wd st = [.str (Txt.stripChars wd opS)] :: st := if_pos c
          have S7 := S6.mono e7
          obtain ⟨as, h7, r7⟩ := S7.rows
          have l7 := r7.len
          refine ⟨_, rfl, .inl ⟨rfl, _, sq_of h7⟩, _, rfl, (by show 1 ≤ sizeLine; decide), fun l hl => ?_⟩
          have hr8 := Ex.new (o := .lst [.str (Txt.stripChars wd opS)]) hl _ _ h7
          refine ⟨rl, _, _, rfl, rfl, hr8, sz_lt (by rw [List.length_map, List.length_reverse]; omega), rfl, ?_⟩
          rw [eo]
          exact S7.push hl (Ex.new hl) upd_same (.cons (.str _) .nil) rfl hr8
        · have eo : openW wd st = addTop (numName (Txt.stripChars wd opS)) st := if_neg (by rw [c]; decide)
          have S7 := S6.mono e7
          cases st with
          | nil => exact absurd rfl ne
          | cons r st =>
            obtain ⟨a, as, vs, h7, ha, qv, nv, la, nar, fa, app, pop⟩ := S7.top
            have lv := qv.len
            have lr := szDs_len r
            rw [szR_cons] at bnd
            refine ⟨_, rfl, _, rfl, rl, _, -1, .ref a, rfl, rfl, sq_of h7, atI_last _ _, .inl ⟨rfl, vs, sq_of ha⟩, _, rfl, Txt.stripChars wd opS, rfl, by show (Txt.stripBy opS.cps.contains true true wd).length ≤ 640; omega, fun H8 e8 => ⟨a, vs, _, rfl, rfl, e8 _ _ ha, sz_lt (by omega), rfl, ?_⟩⟩
            rw [eo]
            exact app e8 (vNum_dq _) (noL_num _)
      rintro σ' H7 ⟨rfl, S7⟩
      have ne7 := open_ne (w := wd) ne
      have cl := closes_le wd
      refine s_forR1 (n := ((closes wd : Nat) : Int)) (j := 4) (ea_cons (ev_is (ev_op (ev_lenS (ev_var rfl) (by omega)) (ev_lenS (ev_rstrip (y := rpS) (ev_var rfl) ev_c (by omega)) (by have := strip_len rpS.cps.contains false true wd; show (Txt.stripBy rpS.cps.contains false true wd).length ≤ 100000; omega)) rv_I0) (by
        have := strip_len rpS.cps.contains false true wd
        have this : (Txt.rstripChars wd rpS).length ≤ wd.length := this
        unfold closes
        rw [Int.ofNat_sub this])) ea_nil) ⟨by omega, by omega⟩ (fun j σ H' => ∃ (o4 o5 : Option V) (sj : List (List PyData)), σ = [some (.str t), some (.ref rl), some (.str wd), some (.str (Txt.stripChars wd opS)), o4, o5] ∧ StkAt K HB H' rl sj ∧ closeN j (openW wd st) = some sj)
        (fun H8 e8 => ⟨o4, o5, _, rfl, S7.mono e8, rfl⟩) ?_ ?_
      · rintro j σ H8 hj ⟨o4, o5, sj, rfl, S8, hc⟩
        have bc := close_bounds _ _ _ hc
        have nj := close_ne _ _ _ hc ne7
        have hj' : j + 1 ≤ closes wd := by omega
        obtain ⟨as, h8, r8⟩ := S8.rows
        have l8 := r8.len
        refine q_when (σ := [some (.str t), some (.ref rl), some (.str wd), some (.str (Txt.stripChars wd opS)), some (.int (j : Int)), o5]) (et_test (ev_op (ev_len (ev_var rfl) (sq_of h8)) ev_c (rv_eq rfl))) (fun c H9 e9 => ?_) fun c H9 e9 => ?_
        · have c1 : sj.length = 1 := by
            have := of_decide_eq_true c
            injection this with this
            rw [List.length_map, List.length_reverse] at this
            omega
          obtain ⟨r, rfl⟩ : ∃ r, sj = [r] := by
            match sj, c1 with
            | [r], _ => exact ⟨r, rfl⟩
          have z1 : stepW wd st = none := by
            have e1 : closeN (j + 1) (openW wd st) = none := by rw [close_add j 1, hc]; rfl
            unfold stepW
            rw [show closes wd = (j + 1) + (closes wd - (j + 1)) by omega, close_add, e1]
            rfl
          have z2 : toldT t = .none := by rw [toldE, fold_none hf hwd z1]; rfl
          refine s_ret ev_c fun H10 e10 => k .non H10 (eB.trans ((S8.ex.trans e9).trans e10)) ?_
          rw [z2]
          exact .non
        · have c1 : sj.length ≠ 1 := by
            intro zz
            have := of_decide_eq_false c
            rw [List.length_map, List.length_reverse, l8, zz] at this
            exact this rfl
          obtain ⟨top, r, sr, rfl⟩ : ∃ top r sr, sj = top :: r :: sr := by
            match sj, nj, c1 with
            | [], n, _ => exact absurd rfl n
            | [_], _, n => exact absurd rfl n
            | a :: b :: c, _, _ => exact ⟨a, b, c, rfl⟩
          have S9 := S8.mono e9
          obtain ⟨a, as9, vs, h9, ha, qv, nv, la, nar, fa, app, pop⟩ := S9.top
          have lv := qv.len
          have lr := szDs_len top
          have lr2 := szDs_len r
          rw [szR_cons, szR_cons] at bc
          -- node = tuple(rows.pop())
          refine ⟨_, rfl, .inl ⟨rfl, _, sq_of h9⟩, rl, _, .ref a, rfl, rfl, h9, by simp, ?_⟩
          rw [List.dropLast_concat]
          have ha10 : upd H9 rl (.lst (as9.reverse.map V.ref)) a = some (.lst vs) := (upd_ne nar).trans ha
          have k10 : NL H9 (upd H9 rl (.lst (as9.reverse.map V.ref))) := NL.upd h9
          have q10 := qv.nl k10 nv
          generalize upd H9 rl (.lst (as9.reverse.map V.ref)) = H10 at pop ha10 q10
          refine ⟨a, vs, rfl, .inl ⟨sq_of ha10, fun tp htp => ?_⟩⟩
          have e11 := Ex.new (o := .tup vs) htp
          have S11 := pop.mono e11
          have d11 : Dq K (upd H10 tp (.tup vs)) (.ref tp) (.tuple top) := .tup (SqT.of upd_same) (q10.ex e11)
          generalize upd H10 tp (.tup vs) = H11 at S11 d11
          obtain ⟨b, as11, us, h11, hb, qu, nu, lb, nbr, fb, app11, _⟩ := S11.top
          have lu := qu.len
          refine ⟨_, rfl, _, rfl, rl, _, -1, .ref b, rfl, rfl, sq_of h11, atI_last _ _, .inl ⟨rfl, us, sq_of hb⟩, _, rfl, b, us, .ref tp, rfl, rfl, hb, sz_lt (by omega), ?_⟩
          refine ⟨some (.int (j : Int)), some (.ref tp), (r ++ [.tuple top]) :: sr, rfl, app11 (Ex.refl _) d11 (by rw [noL]; exact nv), ?_⟩
          rw [close_add j 1, hc]
          rfl
      · rintro σ H8 ⟨o4, o5, sj, rfl, S8, hc⟩
        rw [show (((closes wd : Nat) : Int)).toNat = closes wd by omega] at hc
        exact ⟨_, _, _, _, sj, rfl, S8, by rw [fold_take hf hwd]; exact hc⟩
    · rintro σ H4 ⟨o2, o3, o4, o5, st, rfl, S, hf⟩
      rw [List.length_map, List.take_length] at hf
      rw [hf] at toldE
      have eH : Ex H H4 := eB.trans S.ex
      have ne := fold_ne _ _ _ hf (by simp)
      obtain ⟨as, h4, r4⟩ := S.rows
      have l4 := r4.len
      dsimp only
      by_cases c1 : st.length = 1
      · obtain ⟨r, rfl⟩ : ∃ r, st = [r] := by
          match st, c1 with
          | [r], _ => exact ⟨r, rfl⟩
        cases r4 with
        | @cons a as' vs _ _ ha q n f nr m tt =>
          cases tt
          have h4 : H4 rl = some (.lst [.ref a]) := h4
          have lq := q.len
          have first : ∀ {H5 : Hp}, Ex H4 H5 → Ev (tOp (rIxL K) (tVar 1) (tC (.int 0))) [some (.str t), some (.ref rl), o2, o3, o4, o5] H5 (.ref a) := fun e => ev_op (ev_var rfl) ev_c (rv_ixL (sq_of (e _ _ h4)) (atI_nat (j := 0) rfl))
          by_cases c2 : r.length = 1
          · obtain ⟨d, rfl⟩ : ∃ d, r = [d] := by
              match r, c2 with
              | [d], _ => exact ⟨d, rfl⟩
            obtain ⟨v, rfl, qd⟩ : ∃ v, vs = [v] ∧ Dq K H4 v d := by
              cases q with
              | cons q1 q2 =>
                cases q2
                exact ⟨_, rfl, q1⟩
            refine s_ret (v := v) (ev_if (b := true) (et_is (et_and (a := true) (b := true) (et_is (et_test (ev_op (ev_len (ev_var rfl) (sq_of h4)) ev_c (rv_eq rfl))) rfl) fun _ => et_is (et_test (ev_op (ev_len (first (Ex.refl _)) (sq_of ha)) ev_c (rv_eq rfl))) rfl) rfl) (fun _ => ev_op (first (Ex.refl _)) ev_c (rv_ixL (sq_of ha) (atI_nat (j := 0) rfl))) (fun z => nomatch z)) fun H5 e5 => k v H5 (eH.trans e5) ?_
            rw [toldE]
            exact qd.ex e5
          · have z2 : toldT t = .none := by
              rw [toldE]
              match r, c2 with
              | [], _ => rfl
              | [_], z => exact absurd rfl z
              | _ :: _ :: _, _ => rfl
            refine s_ret (v := .non) (ev_if (b := false) (et_is (et_and (a := true) (b := false) (et_is (et_test (ev_op (ev_len (ev_var rfl) (sq_of h4)) ev_c (rv_eq rfl))) rfl) fun _ => et_is (et_test (ev_op (ev_len (first (Ex.refl _)) (sq_of ha)) ev_c (rv_eq rfl))) (decide_eq_false fun zz => by
              injection zz with zz
              omega)) rfl) (fun z => nomatch z) (fun _ => ev_c)) fun H5 e5 => k .non H5 (eH.trans e5) ?_
            rw [z2]
            exact .non
      · have z2 : toldT t = .none := by
          rw [toldE]
          exact lastOf_no c1
        refine s_ret (v := .non) (ev_if (b := false) (et_is (et_and (a := false) (b := false) (et_is (et_test (ev_op (ev_len (ev_var rfl) (sq_of h4)) ev_c (rv_eq rfl))) (decide_eq_false fun zz => by
          injection zz with zz
          rw [List.length_map, List.length_reverse] at zz
          omega)) fun z => nomatch z) rfl) (fun z => nomatch z) (fun _ => ev_c)) fun H5 e5 => k .non H5 (eH.trans e5) ?_
        rw [z2]
        exact .non
end
end KW
namespace KW
open PySem PySem.Spec PyProof.Rows L2 Evl TL PySem.Builtin PySem.Builtin.Str
/-! ### what is told is in bounds -/
mutual
/-- data of short texts, numbers of few digits, and tuples of such -/
def okT : PyData → Bool
  | .str x => decide (x.length ≤ 640) && PyData.strOk x
  | .int i => decide (0 ≤ i) && decide ((numL i.toNat).length ≤ 570)
  | .none => true
  | .tuple ds => okTs ds
  | _ => false
def okTs : List PyData → Bool
  | [] => true
  | d :: ds => okT d && okTs ds
end
theorem okTs_mem : ∀ {ds : List PyData}, okTs ds = true ↔ ∀ d ∈ ds, okT d = true
  | [] => by simp [okTs]
  | d :: ds => by rw [okTs, Bool.and_eq_true, okTs_mem]; simp
theorem okTs_app {a b : List PyData} : okTs (a ++ b) = (okTs a && okTs b) := by
  induction a with
  | nil => simp [okTs]
  | cons d a ih => rw [List.cons_append, okTs, okTs, ih, Bool.and_assoc]
theorem numL_lt_pow (n : Nat) : n < 10 ^ (numL n).length := by
  induction n using Nat.strongRecOn with
  | _ n ih =>
    by_cases h : n < 10
    · rw [numL_lt h]
      simpa using h
    · have h : 10 ≤ n := by omega
      rw [numL_step h, List.length_append, List.length_singleton, Nat.pow_succ]
      have := ih (n / 10) (by omega)
      omega
theorem log_digits {n k : Nat} (h : (numL n).length ≤ k) : n.log2 ≤ 4 * k := by
  by_cases z : n = 0
  · subst z
    simp
  · have h1 := numL_lt_pow n
    have h2 : 10 ^ (numL n).length ≤ 10 ^ k := Nat.pow_le_pow_right (by decide) h
    have h3 : 10 ^ k ≤ 16 ^ k := Nat.pow_le_pow_left (by decide) k
    have h4 : (16 : Nat) ^ k = 2 ^ (4 * k) := by rw [Nat.pow_mul]
    have h5 : n < 2 ^ (4 * k) := by omega
    have := (Nat.log2_lt z).mpr h5
    omega
theorem log_570 {n : Nat} (h : (numL n).length ≤ 570) : n.log2 < 1920 := by
  by_cases z : n = 0
  · subst z
    decide
  · have h1 := numL_lt_pow n
    have h2 : 10 ^ (numL n).length ≤ 10 ^ 570 := Nat.pow_le_pow_right (by decide) h
    have h3 : (10 : Nat) ^ 570 < 2 ^ 1920 := by decide +kernel
    exact (Nat.log2_lt z).mpr (by omega)
mutual
theorem ok_fit : ∀ d : PyData, okT d = true → szD d ≤ 40000 → Fit d
  | .str x, h, _ => by
    rw [okT, Bool.and_eq_true, decide_eq_true_eq] at h
    exact .str (by omega) h.2
  | .int _, _, _ => .flat rfl rfl rfl
  | .none, _, _ => .flat rfl rfl rfl
  | .bool _, _, _ => .flat rfl rfl rfl
  | .list _, h, _ => by rw [okT] at h; cases h; all_goals (intros; contradiction)
  | .dict _, h, _ => by rw [okT] at h; cases h; all_goals (intros; contradiction)
  | .tuple ds, h, z => by
    rw [okT] at h
    rw [szD] at z
    have := szDs_len ds
    exact .tuple (by omega) (ok_fits ds h (by omega))
theorem ok_fits : ∀ ds : List PyData, okTs ds = true → szDs ds ≤ 40000 → ∀ d ∈ ds, Fit d
  | [], _, _, d, m => nomatch m
  | e :: ds, h, z, d, m => by
    rw [okTs, Bool.and_eq_true] at h
    rw [szDs] at z
    rcases List.mem_cons.mp m with q | m
    · rw [q]
      exact ok_fit e h.1 (by omega)
    · exact ok_fits ds h.2 (by omega) d m
end
mutual
theorem wt_sz : ∀ d : PyData, wtD d ≤ szD d
  | .tuple (.str x :: ds) => by
    have := wt_szs ds
    rw [wtD, szD, szDs]
    omega
  | .str x => szD_pos _
  | .int _ => szD_pos _
  | .none => szD_pos _
  | .bool _ => szD_pos _
  | .list _ => szD_pos _
  | .dict _ => szD_pos _
  | .tuple [] => szD_pos _
  | .tuple (.none :: _) => szD_pos _
  | .tuple (.bool _ :: _) => szD_pos _
  | .tuple (.int _ :: _) => szD_pos _
  | .tuple (.list _ :: _) => szD_pos _
  | .tuple (.tuple _ :: _) => szD_pos _
  | .tuple (.dict _ :: _) => szD_pos _
theorem wt_szs : ∀ ds : List PyData, wtDs ds ≤ szDs ds
  | [] => Nat.le_refl _
  | d :: ds => by
    have := wt_sz d
    have := wt_szs ds
    rw [wtDs, szDs]
    omega
end
mutual
theorem msr_sz : ∀ d : PyData, msr d + 1 ≤ 2 * szD d
  | .tuple (.str x :: ds) => by
    have := msr_szs ds
    rw [msr, szD, szDs, szD]
    omega
  | .str x => by have := szD_pos (.str x); show 1 + 1 ≤ _; omega
  | .int i => by have := szD_pos (.int i); show 1 + 1 ≤ _; omega
  | .none => by show 1 + 1 ≤ 2 * 1; omega
  | .bool _ => by show 1 + 1 ≤ 2 * 1; omega
  | .list _ => by show 1 + 1 ≤ 2 * 1; omega
  | .dict _ => by show 1 + 1 ≤ 2 * 1; omega
  | .tuple [] => by have := szD_pos (.tuple []); show 1 + 1 ≤ _; omega
  | .tuple (.none :: l) => by have := szD_pos (.tuple (.none :: l)); show 1 + 1 ≤ _; omega
  | .tuple (.bool b :: l) => by have := szD_pos (.tuple (.bool b :: l)); show 1 + 1 ≤ _; omega
  | .tuple (.int b :: l) => by have := szD_pos (.tuple (.int b :: l)); show 1 + 1 ≤ _; omega
  | .tuple (.list b :: l) => by have := szD_pos (.tuple (.list b :: l)); show 1 + 1 ≤ _; omega
  | .tuple (.tuple b :: l) => by have := szD_pos (.tuple (.tuple b :: l)); show 1 + 1 ≤ _; omega
  | .tuple (.dict b :: l) => by have := szD_pos (.tuple (.dict b :: l)); show 1 + 1 ≤ _; omega
theorem msr_szs : ∀ ds : List PyData, msrs ds ≤ 2 * szDs ds
  | [] => Nat.le_refl _
  | d :: ds => by
    have := msr_sz d
    have := msr_szs ds
    rw [msrs, szDs]
    omega
end
theorem empty_len : Str.empty.length = 0 := rfl
theorem lp_len : lpS.length = 1 := by decide +kernel
theorem rp_len : rpS.length = 1 := by decide +kernel
theorem bl_len : blS.length = 1 := by decide +kernel
mutual
theorem text_sz : ∀ d : PyData, okT d = true → (textT d).length + 1 ≤ 3 * szD d
  | .tuple (.str s :: ds), h => by
    rw [okT, okTs, Bool.and_eq_true] at h
    have := text_szs ds h.2
    rw [textT, str_len_app, str_len_app, str_len_app, lp_len, rp_len, szD, szDs, szD]
    omega
  | .str x, _ => by
    show x.length + 1 ≤ 3 * (x.length + 1)
    omega
  | .int i, h => by
    rw [okT, Bool.and_eq_true, decide_eq_true_eq] at h
    obtain ⟨n, rfl⟩ := Int.eq_ofNat_of_zero_le h.1
    show (Str.ofString (toString ((n : Nat) : Int))).length + 1 ≤ 3 * ((numL n).length + 1)
    rw [len_tl, tl_num]
    omega
  | .none, _ => by show 0 + 1 ≤ 3 * 1; omega
  | .bool _, _ => by show 0 + 1 ≤ 3 * 1; omega
  | .list _, _ => by show 0 + 1 ≤ 3 * 1; omega
  | .dict _, _ => by show 0 + 1 ≤ 3 * 1; omega
  | .tuple [], _ => by have := szD_pos (.tuple []); show 0 + 1 ≤ _; omega
  | .tuple (.none :: l), _ => by have := szD_pos (.tuple (.none :: l)); show 0 + 1 ≤ _; omega
  | .tuple (.bool b :: l), _ => by have := szD_pos (.tuple (.bool b :: l)); show 0 + 1 ≤ _; omega
  | .tuple (.int b :: l), _ => by have := szD_pos (.tuple (.int b :: l)); show 0 + 1 ≤ _; omega
  | .tuple (.list b :: l), _ => by have := szD_pos (.tuple (.list b :: l)); show 0 + 1 ≤ _; omega
  | .tuple (.tuple b :: l), _ => by have := szD_pos (.tuple (.tuple b :: l)); show 0 + 1 ≤ _; omega
  | .tuple (.dict b :: l), _ => by have := szD_pos (.tuple (.dict b :: l)); show 0 + 1 ≤ _; omega
theorem text_szs : ∀ ds : List PyData, okTs ds = true → (textTs ds).length ≤ 3 * szDs ds
  | [], _ => Nat.le_refl _
  | d :: ds, h => by
    rw [okTs, Bool.and_eq_true] at h
    have := text_sz d h.1
    have := text_szs ds h.2
    rw [textTs, str_len_app, str_len_app, bl_len, szDs]
    omega
end
theorem ok_digs : ∀ {n : Nat} (d : PyData), okT d = true → 570 ≤ n → digsT n d = true := by
  intro n d
  have key : ∀ (k : Nat) (d : PyData), szD d ≤ k → okT d = true → 570 ≤ n → digsT n d = true := by
    intro k
    induction k with
    | zero => intro d h; have := szD_pos d; omega
    | succ k ih =>
      intro d hz h hn
      cases d with
      | int i =>
        rw [okT, Bool.and_eq_true, decide_eq_true_eq, decide_eq_true_eq] at h
        rw [digsT]
        exact decide_eq_true (by omega)
      | tuple ds =>
        rw [okT] at h
        rw [digsT]
        rw [szD] at hz
        refine digsTs_mem.mpr fun e m => ih e ?_ (okTs_mem.mp h e m) hn
        obtain ⟨a, b, rfl⟩ := List.append_of_mem m
        rw [szDs_app, szDs] at hz
        omega
      | _ => rw [digsT]; all_goals (intros; contradiction)
  exact key _ d (Nat.le_refl _)
theorem ok_noL : ∀ (d : PyData), okT d = true → noL d = true := by
  intro d
  have key : ∀ (k : Nat) (d : PyData), szD d ≤ k → okT d = true → noL d = true := by
    intro k
    induction k with
    | zero => intro d h; have := szD_pos d; omega
    | succ k ih =>
      intro d hz h
      cases d with
      | tuple ds =>
        rw [okT] at h
        rw [noL]
        rw [szD] at hz
        refine noLs_mem.mpr fun e m => ih e ?_ (okTs_mem.mp h e m)
        obtain ⟨a, b, rfl⟩ := List.append_of_mem m
        rw [szDs_app, szDs] at hz
        omega
      | list _ => rw [okT] at h; cases h; all_goals (intros; contradiction)
      | dict _ => rw [okT] at h; cases h; all_goals (intros; contradiction)
      | _ => rfl
  exact key _ d (Nat.le_refl _)
mutual
theorem ok_weight : ∀ d : PyData, okT d = true → d.weight + 1 ≤ 4 * szD d
  | .str x, _ => by
    simp only [PyData.weight]
    show x.length + 1 ≤ 4 * (x.length + 1)
    omega
  | .int i, h => by
    rw [okT, Bool.and_eq_true, decide_eq_true_eq, decide_eq_true_eq] at h
    obtain ⟨n, rfl⟩ := Int.eq_ofNat_of_zero_le h.1
    have l := log_digits (Nat.le_refl (numL n).length)
    have p : 1 ≤ (numL n).length := List.length_pos_iff.mpr (numL_ne n)
    simp only [PyData.weight]
    show (if ((n : Int) == 0) = true then 0 else n.log2 + 1) + 1 ≤ 4 * ((numL n).length + 1)
    split <;> omega
  | .none, _ => by show 0 + 1 ≤ 4 * 1; omega
  | .bool _, h => by rw [okT] at h; cases h; all_goals (intros; contradiction)
  | .list _, h => by rw [okT] at h; cases h; all_goals (intros; contradiction)
  | .dict _, h => by rw [okT] at h; cases h; all_goals (intros; contradiction)
  | .tuple ds, h => by
    rw [okT] at h
    have := ok_weights ds h
    simp only [PyData.weight]
    rw [szD]
    omega
theorem ok_weights : ∀ ds : List PyData, okTs ds = true → PyData.weightAll ds ≤ 4 * szDs ds
  | [], _ => by simp [PyData.weightAll]
  | d :: ds, h => by
    rw [okTs, Bool.and_eq_true] at h
    have := ok_weight d h.1
    have := ok_weights ds h.2
    simp only [PyData.weightAll]
    rw [szDs]
    omega
end
theorem shown_nat {n : Nat} (h : (numL n).length ≤ 570) : (PyData.shown (.int (n : Int))).length ≤ 600 := by
  have e : PyData.shown (.int (n : Int)) = Str.ofString (toString ((n : Nat) : Int)) := by simp [PyData.shown]
  rw [e, len_tl, tl_num]
  omega
mutual
theorem ok_short : ∀ d : PyData, okT d = true → PyData.leavesShort 600 d = true
  | .str x, h => by
    rw [okT, Bool.and_eq_true] at h
    simp only [PyData.leavesShort]
    exact strOk_short h.2
  | .int i, h => by
    rw [okT, Bool.and_eq_true, decide_eq_true_eq, decide_eq_true_eq] at h
    obtain ⟨n, rfl⟩ := Int.eq_ofNat_of_zero_le h.1
    simp only [PyData.leavesShort]
    exact decide_eq_true (shown_nat h.2)
  | .none, _ => by simp [PyData.leavesShort]
  | .bool _, _ => by simp [PyData.leavesShort]
  | .list _, h => by rw [okT] at h; cases h; all_goals (intros; contradiction)
  | .dict _, h => by rw [okT] at h; cases h; all_goals (intros; contradiction)
  | .tuple ds, h => by
    rw [okT] at h
    simp only [PyData.leavesShort]
    exact ok_shorts ds h
theorem ok_shorts : ∀ ds : List PyData, okTs ds = true → PyData.leavesShortAll 600 ds = true
  | [], _ => by simp [PyData.leavesShortAll]
  | d :: ds, h => by
    rw [okTs, Bool.and_eq_true] at h
    simp only [PyData.leavesShortAll, Bool.and_eq_true]
    exact ⟨ok_short d h.1, ok_shorts ds h.2⟩
end
mutual
theorem ok_show : ∀ d : PyData, okT d = true → d.showable = true
  | .str x, h => by simp [PyData.showable]
  | .int i, h => by
    rw [okT, Bool.and_eq_true, decide_eq_true_eq, decide_eq_true_eq] at h
    obtain ⟨n, rfl⟩ := Int.eq_ofNat_of_zero_le h.1
    simp only [PyData.showable]
    exact decide_eq_true (log_570 h.2)
  | .none, _ => by simp [PyData.showable]
  | .bool _, _ => by simp [PyData.showable]
  | .list _, h => by rw [okT] at h; cases h; all_goals (intros; contradiction)
  | .dict _, h => by rw [okT] at h; cases h; all_goals (intros; contradiction)
  | .tuple ds, h => by
    rw [okT] at h
    simp only [PyData.showable]
    exact ok_shows ds h
theorem ok_shows : ∀ ds : List PyData, okTs ds = true → PyData.showableAll ds = true
  | [], _ => by simp [PyData.showableAll]
  | d :: ds, h => by
    rw [okTs, Bool.and_eq_true] at h
    simp only [PyData.showableAll, Bool.and_eq_true]
    exact ⟨ok_show d h.1, ok_shows ds h.2⟩
end
mutual
theorem ok_lay : ∀ d : PyData, okT d = true → d.canLay0 = true
  | .str x, h => by
    rw [okT, Bool.and_eq_true] at h
    simp only [PyData.canLay0]
    exact h.2
  | .int i, h => by simp [PyData.canLay0]
  | .none, _ => by simp [PyData.canLay0]
  | .bool _, _ => by simp [PyData.canLay0]
  | .list _, h => by rw [okT] at h; cases h; all_goals (intros; contradiction)
  | .dict _, h => by rw [okT] at h; cases h; all_goals (intros; contradiction)
  | .tuple ds, h => by
    rw [okT] at h
    simp only [PyData.canLay0]
    exact ok_lays ds h
theorem ok_lays : ∀ ds : List PyData, okTs ds = true → PyData.canLayAll0 ds = true
  | [], _ => by simp [PyData.canLayAll0]
  | d :: ds, h => by
    rw [okTs, Bool.and_eq_true] at h
    simp only [PyData.canLayAll0, Bool.and_eq_true]
    exact ⟨ok_lay d h.1, ok_lays ds h.2⟩
end
mutual
theorem ok_depth : ∀ d : PyData, okT d = true → d.depth = hgt d
  | .str x, h => rfl
  | .int i, h => rfl
  | .none, _ => rfl
  | .bool _, _ => rfl
  | .list _, h => by rw [okT] at h; cases h; all_goals (intros; contradiction)
  | .dict _, h => by rw [okT] at h; cases h; all_goals (intros; contradiction)
  | .tuple ds, h => by
    rw [okT] at h
    rw [PyData.depth, hgt, ok_depths ds h]
    omega
theorem ok_depths : ∀ ds : List PyData, okTs ds = true → PyData.depthAll ds = hgts ds
  | [], _ => by simp [PyData.depthAll, hgts]
  | d :: ds, h => by
    rw [okTs, Bool.and_eq_true] at h
    rw [PyData.depthAll, hgts, ok_depth d h.1, ok_depths ds h.2]
end
theorem ok_shown {d : PyData} (h : okT d = true) (z : szD d ≤ 2600) : d.shown.length ≤ 6500000 := by
  have h1 := PyData.shown_le 600 (by decide) d (ok_short d h)
  have h2 := ok_weight d h
  omega
/-! #### closure over the words -/
theorem closeN_all {P : PyData → Prop} (ht : ∀ ds, (∀ d ∈ ds, P d) → P (.tuple ds)) : ∀ (n : Nat) (st st' : List (List PyData)), (∀ r ∈ st, ∀ d ∈ r, P d) → closeN n st = some st' → ∀ r ∈ st', ∀ d ∈ r, P d
  | 0, st, st', h, e => by
    cases e
    exact h
  | n + 1, [], _, _, e => by cases e
  | n + 1, [_], _, _, e => by cases e
  | n + 1, top :: r :: st, st', h, e => by
    have e : closeN n ((r ++ [.tuple top]) :: st) = some st' := e
    refine closeN_all ht n ((r ++ [.tuple top]) :: st) st' (fun q mq d md => ?_) e
    rcases List.mem_cons.mp mq with rfl | mq
    · rcases List.mem_append.mp md with md | md
      · exact h r (by simp) d md
      · rw [List.mem_singleton.mp md]
        exact ht top (h top (by simp))
    · exact h q (by simp [mq]) d md
theorem fold_all {P : PyData → Prop} (ht : ∀ ds, (∀ d ∈ ds, P d) → P (.tuple ds)) : ∀ (ws : List Str) (st st' : List (List PyData)), (∀ w ∈ ws, P (.str (Txt.stripChars w opS)) ∧ P (numName (Txt.stripChars w opS))) → (∀ r ∈ st, ∀ d ∈ r, P d) → foldW ws st = some st' → ∀ r ∈ st', ∀ d ∈ r, P d
  | [], st, st', _, h, e => by
    cases e
    exact h
  | w :: ws, st, st', hw, h, e => by
    rw [foldW] at e
    cases hs : stepW w st with
    | none => rw [hs] at e; cases e
    | some s1 =>
      rw [hs] at e
      refine fold_all ht ws s1 st' (fun w m => hw w (List.mem_cons_of_mem _ m)) (closeN_all ht _ _ _ (fun r mr d md => ?_) hs) e
      obtain ⟨p1, p2⟩ := hw w (List.mem_cons_self ..)
      unfold openW at mr
      split at mr
      · rcases List.mem_cons.mp mr with rfl | mr
        · rw [List.mem_singleton.mp md]
          exact p1
        · exact h r mr d md
      · cases st with
        | nil => cases mr
        | cons q st =>
          rcases List.mem_cons.mp mr with rfl | mr
          · rcases List.mem_append.mp md with md | md
            · exact h q (by simp) d md
            · rw [List.mem_singleton.mp md]
              exact p2
          · exact h r (by simp [mr]) d md
theorem last_all {P : PyData → Prop} (hn : P .none) {o : Option (List (List PyData))} (h : ∀ st, o = some st → ∀ r ∈ st, ∀ d ∈ r, P d) : P (lastOf o) := by
  unfold lastOf
  split
  · rename_i d
    exact h [[d]] rfl [d] (by simp) d (by simp)
  · exact hn
theorem join_sub : ∀ (ws : List Str) (w : Str), w ∈ ws → (tl w).Sublist (tl (joinB ws))
  | [x], w, m => by rw [List.mem_singleton.mp m]; exact List.Sublist.refl _
  | x :: y :: ws, w, m => by
    rw [join_cons x (by simp), tl_append, tl_append]
    rcases List.mem_cons.mp m with rfl | m
    · rw [List.append_assoc]
      exact List.sublist_append_left _ _
    · exact (join_sub (y :: ws) w m).trans (List.sublist_append_right _ _)
theorem split_sub {t w : Str} (m : w ∈ Txt.split t blS) : (tl w).Sublist (tl t) := by
  have := join_sub _ w m
  rwa [show joinB (Txt.split t blS) = t from StrLaws.join_split t blS] at this
theorem strip_sub (goes : Nat → Bool) (l r : Bool) (x : Str) : (tl (Txt.stripBy goes l r x)).Sublist (tl x) := by
  rw [tl_stripBy, tl_stripped]
  exact (List.take_sublist _ _).trans (List.drop_sublist _ _)
/-- a text that may be read -/
structure TextOk (t : Str) : Prop where
  len : t.length ≤ 640
  ok : PyData.strOk t = true
  dig : (tl t).countP isDig ≤ 570
theorem strOk_tl {x : Str} : PyData.strOk x = true ↔ ∀ c ∈ tl x, c < 0x110000 := by
  unfold PyData.strOk
  rw [Array.all_eq_true']
  constructor
  · intro h c m
    exact of_decide_eq_true (h c (by simpa [tl] using m))
  · intro h c m
    exact decide_eq_true (h c (by simpa [tl] using m))
theorem sub_ok {t w : Str} (h : TextOk t) (s : (tl w).Sublist (tl t)) : okT (.str w) = true ∧ okT (numName w) = true := by
  have l := s.length_le
  rw [← len_tl, ← len_tl] at l
  have o : okT (.str w) = true := by
    rw [okT, decide_eq_true (by have := h.len; omega), Bool.true_and]
    exact strOk_tl.mpr fun c m => strOk_tl.mp h.ok c (s.subset m)
  refine ⟨o, ?_⟩
  unfold numName
  split
  · rename_i e
    simp only [Bool.and_eq_true, decide_eq_true_eq] at e
    have ne : tl w ≠ [] := by
      intro z
      have := len_tl w
      rw [z] at this
      simp at this
      omega
    have h1 := num_short (all_dig e.2.2) ne
    have h2 : (tl w).countP isDig = (tl w).length := List.countP_eq_length.mpr fun c m => List.all_eq_true.mp e.2.2 c m
    have h3 := s.countP_le (p := isDig)
    have := h.dig
    rw [okT, decide_eq_true (Int.natCast_nonneg _), Bool.true_and]
    exact decide_eq_true (by rw [Int.toNat_natCast]; omega)
  · exact o
theorem told_ok {t : Str} (h : TextOk t) : okT (toldT t) = true := by
  unfold toldT
  refine last_all (P := fun d => okT d = true) rfl fun st e => ?_
  refine fold_all (P := fun d => okT d = true) (fun ds hd => by rw [okT]; exact okTs_mem.mpr hd) _ _ _ (fun w m => ?_) (fun r mr d md => ?_) e
  · exact sub_ok h ((strip_sub _ _ _ w).trans (split_sub m))
  · rw [List.mem_singleton.mp mr] at md
    cases md
theorem told_sz (t : Str) : szD (toldT t) ≤ 2 * t.length + 2 := by
  unfold toldT lastOf
  split
  · rename_i d e
    have := (fold_bounds _ _ _ e).1
    rw [sizeW_split] at this
    have e1 : szR [[d]] = szD d + 0 + 0 := rfl
    have e2 : szR [[]] = 0 := rfl
    omega
  · show 1 ≤ _
    omega
/-! #### how deep -/
def opens (t : Str) : Nat := (tl t).countP fun c => decide (c = 40)
def depB (c : Nat) : List (List PyData) → Prop
  | [] => True
  | r :: st => (∀ d ∈ r, hgt d + st.length ≤ c) ∧ depB c st
theorem depB_mono {c e : Nat} (l : c ≤ e) : ∀ {st : List (List PyData)}, depB c st → depB e st
  | [], _ => trivial
  | r :: st, h => ⟨fun d m => Nat.le_trans (h.1 d m) l, depB_mono l h.2⟩
theorem hgts_le {ds : List PyData} {n : Nat} (h : ∀ d ∈ ds, hgt d ≤ n) : hgts ds ≤ n := by
  induction ds with
  | nil => exact Nat.zero_le _
  | cons d ds ih =>
    rw [hgts]
    have := h d (List.mem_cons_self ..)
    have := ih fun e m => h e (List.mem_cons_of_mem _ m)
    omega
theorem closeN_dep {c : Nat} : ∀ (n : Nat) (st st' : List (List PyData)), depB c st → st.length ≤ c + 1 → closeN n st = some st' → depB c st' ∧ st'.length ≤ c + 1
  | 0, st, st', h, l, e => by
    cases e
    exact ⟨h, l⟩
  | n + 1, [], _, _, _, e => by cases e
  | n + 1, [_], _, _, _, e => by cases e
  | n + 1, top :: r :: st, st', h, l, e => by
    have e : closeN n ((r ++ [.tuple top]) :: st) = some st' := e
    refine closeN_dep n ((r ++ [.tuple top]) :: st) st' ⟨fun d m => ?_, h.2.2⟩ (by simp only [List.length_cons] at l ⊢; omega) e
    simp only [List.length_cons] at l
    rcases List.mem_append.mp m with m | m
    · exact h.2.1 d m
    · rw [List.mem_singleton.mp m, hgt]
      have : hgts top ≤ c - (st.length + 1) := hgts_le fun d m => by
        have := h.1 d m
        rw [List.length_cons] at this
        omega
      omega
theorem hgt_num (w : Str) : hgt (numName w) = 0 := by
  rcases numName_cases w with ⟨i, e⟩ | e <;> rw [e] <;> rfl
theorem fold_dep : ∀ (ws : List Str) (c : Nat) (st st' : List (List PyData)), depB c st → st.length ≤ c + 1 → foldW ws st = some st' → depB (c + (ws.map opens).sum) st' ∧ st'.length ≤ c + (ws.map opens).sum + 1
  | [], c, st, st', h, l, e => by
    cases e
    exact ⟨h, l⟩
  | w :: ws, c, st, st', h, l, e => by
    rw [foldW] at e
    cases hs : stepW w st with
    | none => rw [hs] at e; cases e
    | some s1 =>
      rw [hs] at e
      have e1 : (List.map opens (w :: ws)).sum = opens w + (ws.map opens).sum := rfl
      rw [e1, ← Nat.add_assoc]
      have step : depB (c + opens w) (openW w st) ∧ (openW w st).length ≤ c + opens w + 1 := by
        unfold openW
        rw [sw_lp]
        split
        · rename_i hp
          have p : 1 ≤ opens w := by
            have hp := of_decide_eq_true hp
            unfold opens
            cases ht : tl w with
            | nil => rw [ht] at hp; cases hp
            | cons a b =>
              rw [ht] at hp
              cases hp
              rw [List.countP_cons_of_pos (by rfl)]
              omega
          refine ⟨⟨fun d m => ?_, depB_mono (by omega) h⟩, by rw [List.length_cons]; omega⟩
          rw [List.mem_singleton.mp m]
          show 0 + _ ≤ _
          omega
        · cases st with
          | nil => exact ⟨trivial, Nat.zero_le _⟩
          | cons r st =>
            rw [List.length_cons] at l
            refine ⟨⟨fun d m => ?_, depB_mono (by omega) h.2⟩, by show st.length + 1 ≤ _; omega⟩
            rcases List.mem_append.mp m with m | m
            · exact Nat.le_trans (h.1 d m) (by omega)
            · rw [List.mem_singleton.mp m, hgt_num]
              omega
      obtain ⟨h1, l1⟩ := closeN_dep _ _ _ step.1 step.2 hs
      exact fold_dep ws _ s1 st' h1 l1 e
theorem opens_join : ∀ ws : List Str, (ws.map opens).sum = opens (joinB ws)
  | [] => rfl
  | [w] => by show opens w + 0 = opens w; rfl
  | w :: x :: ws => by
    have ih := opens_join (x :: ws)
    rw [join_cons w (by simp)]
    have e1 : (List.map opens (w :: x :: ws)).sum = opens w + ((x :: ws).map opens).sum := rfl
    rw [e1, ih]
    unfold opens
    rw [tl_append, tl_append, List.countP_append, List.countP_append, tl_bl]
    rfl
theorem told_hgt (t : Str) : hgt (toldT t) ≤ opens t := by
  unfold toldT lastOf
  split
  · rename_i d e
    have := (fold_dep _ 0 _ _ (show depB 0 [[]] from ⟨(fun d m => nomatch m), trivial⟩) (Nat.le_refl _) e).1.1 d (by simp)
    rw [opens_join, show joinB (Txt.split t blS) = t from StrLaws.join_split t blS] at this
    have l0 : ([] : List (List PyData)).length = 0 := rfl
    omega
  · exact Nat.zero_le _
/-- forms and trees are texts' readings -/
theorem form_txt {W : Wd} (ok : W.Ok) : ∀ d, isFormD W d = true → txtT d = true := by
  refine form_rec ok (fun x hx => rfl) (fun _ => rfl) fun x ds hx nx hn hl hd => ?_
  rw [txtT]
  exact txtTs_mem.mpr fun d m => (hd d m).2
theorem tree_txt {W : Wd} (ok : W.Ok) : ∀ d, isTreeD W d = true → okT d = true → txtT d = true := by
  refine tree_rec ok (P := fun d => okT d = true → txtT d = true) (fun i _ h0 h => ?_) fun x ds hx nx hn hl hd h => ?_
  · rw [okT, okTs, okTs, okTs, okT, okT] at h
    simp only [Bool.and_eq_true, decide_eq_true_eq] at h
    obtain ⟨n, rfl⟩ := Int.eq_ofNat_of_zero_le h0
    rw [txtT, txtTs, txtTs, txtT]
    have l : n.log2 < 1920 := log_570 h.2.1.2
    show (decide (n.log2 < 1920) && true) = true
    rw [decide_eq_true l]
    rfl
  · rw [okT, okTs, Bool.and_eq_true] at h
    rw [txtT]
    exact txtTs_mem.mpr fun d m => (hd d m).2 (okTs_mem.mp h.2 d m)
end KW
namespace KW
open PySem PySem.Spec PyProof.Rows L2 Evl TL PySem.Builtin PySem.Builtin.Str
/-! ### read_form, read_tree -/
def readG (f : Wd → PyData → Bool) (W : Wd) : PyData → Option PyData
  | .str t => if f W (toldT t) && decide (textT (toldT t) = t) then some (toldT t) else none
  | _ => none
def spRd (K : PySem.W.Frag) (C CB : Addr) (f : Wd → PyData → Bool) : Sp := fun vs H Q E => ∃ a W x e, vs = [.ref a, x] ∧ WAt K C H a W ∧ W.Ok ∧ Dq K H x e ∧ (∀ t, e = .str t → TextOk t) ∧
  (∀ d, readG f W e = some d → ∀ v H', Ex H H' → Dq K H' v d → Q v H') ∧ (readG f W e = none → ∀ b H', H b = none → Ex H H' → H' b = some (.xd [("value", x)]) → E (.ref CB) (some b) H')
theorem form_none (W : Wd) : isFormD W .none = false := by
  show (eqS .none "_" || isNameD .none) = false
  rfl
theorem tree_none (W : Wd) : isTreeD W .none = false := rfl
section
variable {P : Program} {w : World} {K : PySem.W.Frag} {mg : Str → Option Value} {base : Heap} {C CB : Addr}
theorem sc_bad_text : FnScope ["self", "value"] ["self", "value"] (defScope s_BadText___init__) := ⟨rfl, rfl, rfl, by decide +kernel, rfl, by decide +kernel, by decide +kernel⟩
theorem ok_bad_text {f : Addr} {fd : FuncData} (F : Fun K "__init__" "BadText.__init__" s_BadText___init__ f fd) : FnOk P w K mg base CX0 1 f fd ["self", "value"] (spKeep K "value") := by
  refine F.ok sc_bad_text (fun vs H Q E h => ?_) (fun cdv A outer s H vs Q E hr h => ?_)
  · obtain ⟨a, C, v, rfl, _⟩ := h
    rfl
  · obtain ⟨a, C, v, rfl, T, hno, ha, k⟩ := h
    exact ⟨_, pss_one (ps_ost (pv 0) (pv 1)), _, rfl, _, rfl, a, C, rfl, T, hno, .inl ⟨ha, k⟩⟩
/-- what both of them do -/
theorem rd_core {E : XK} {Q : VK} {sp : Sp} {H : Hp} {a : Addr} {W : Wd} {x : V} {e : PyData} {f : Wd → PyData → Bool} {m : Str} (nm : ∀ sg nb rk, (W.flds sg nb rk).lookup m = none) (fn : f W .none = false) (ft : ∀ d, f W d = true → okT d = true → txtT d = true)
    (hW : WAt K C H a W) (ok : W.Ok) (q : Dq K H x e) (to : ∀ t, e = .str t → TextOk t) (k1 : ∀ d, readG f W e = some d → ∀ v H', Ex H H' → Dq K H' v d → Q v H') (k2 : readG f W e = none → ∀ b H', H b = none → Ex H H' → H' b = some (.xd [("value", x)]) → E (.ref CB) (some b) H') (T : OexC K CB) (no : PySem.W.findIn K (.ref CB) "value" = some none)
    {D : Ends} (hD : D.rt = Q) {tr : TS} (htr : ∀ σ' H', tMkO CB (spKeep K "value") [] (tCons (tVar 1) tNil) σ' H' (fun c o H'' => E c o H'') → tr { D with nx := tRet (tVar 2) D } σ' H') :
    tSeq (tAsg (tIf (tB (tCB (rIsD K) (tCons (tVar 1) (tCons (tC (.ty "str")) tNil)))) (tCall (spTB K) [] (fun _ _ _ => False) (tCons (tVar 1) tNil)) (tC .non)) (gName 2))
      (tSeq (tIfS (tOr (tNot (tB (tMeth C m (spWw K C f) [] (fun _ _ _ => False) (tVar 0) (tCons (tVar 2) tNil)))) (tTest (tOp rNe (tCall (spFT K) [] (fun _ _ _ => False) (tCons (tVar 2) tNil)) (tVar 1)))) tr tNext) (tRet (tVar 2))) D [some (.ref a), some x, none] H := by
  obtain ⟨dx, sg, nb, rk, hins⟩ := hW.ins
  -- what is told
  have told : ∀ (Q' : VK), (∀ v d H', Ex H H' → Dq K H' v d → okT d = true → szD d ≤ 1282 → (∀ t, e = .str t → d = toldT t) → (isD "str" e = false → d = .none) → Q' v H') → tIf (tB (tCB (rIsD K) (tCons (tVar 1) (tCons (tC (.ty "str")) tNil)))) (tCall (spTB K) [] (fun _ _ _ => False) (tCons (tVar 1) tNil)) (tC .non) [some (.ref a), some x, none] H Q' := by
    intro Q' kk
    refine et_B (ev_isD (ev_var rfl) q) H (Ex.refl _) _ fun H1 e1 => ?_
    refine ite2 (fun c => ?_) fun c => ?_
    · obtain ⟨t, rfl, rfl⟩ := dq_str q c
      have tk := to t rfl
      refine ⟨_, rfl, t, rfl, tk.len, fun v H2 e2 qv => ?_⟩
      exact kk v (toldT t) H2 (e1.trans e2) qv (told_ok tk) (by have := told_sz t; have := tk.len; omega) (fun t' et => by cases et; rfl) (fun z => by rw [c] at z; cases z)
    · have c : isD "str" e = false := by simpa using c
      exact kk .non .none H1 e1 .non rfl (by decide) (fun t et => by rw [et] at c; cases c) (fun _ => rfl)
  refine told _ fun v d H1 e1 qv od zd dt dn => ?_
  unfold gName
  show tSeq (tIfS (tOr (tNot (tB (tMeth C m (spWw K C f) [] (fun _ _ _ => False) (tVar 0) (tCons (tVar 2) tNil)))) (tTest (tOp rNe (tCall (spFT K) [] (fun _ _ _ => False) (tCons (tVar 2) tNil)) (tVar 1)))) tr tNext) (tRet (tVar 2)) D [some (.ref a), some x, some v] H1
  have rg : readG f W e = if f W d && eqS e (textT d) then some d else none := by
    cases hs : isD "str" e with
    | true =>
      obtain ⟨t, rfl, rfl⟩ := dq_str q hs
      have := dt t rfl
      subst this
      unfold readG
      have : decide (textT (toldT t) = t) = eqS (.str t) (textT (toldT t)) := by
        show _ = (t == textT (toldT t))
        by_cases z : textT (toldT t) = t
        · rw [decide_eq_true z, z]
          simp
        · rw [decide_eq_false z]
          exact (beq_eq_false_iff_ne.mpr (Ne.symm z)).symm
      show (if (f W (toldT t) && decide (textT (toldT t) = t)) = true then some (toldT t) else none) = _
      rw [this]
    | false =>
      have := dn hs
      subst this
      rw [fn, Bool.false_and, if_neg (by decide)]
      cases e <;> first | rfl | cases hs
  have fit := ok_fit d od (by omega)
  have wz : wtD d ≤ 4000 := Nat.le_trans (wt_sz d) (by omega)
  have raise : readG f W e = none → ∀ {H2 : Hp}, Ex H1 H2 → tr { D with nx := tRet (tVar 2) D } [some (.ref a), some x, some v] H2 := fun hn {H2} e2 => by
    refine htr [some (.ref a), some x, some v] H2 ?_
    refine raise_value (v := x) T no (ev_var rfl) fun dd H3 hd e3 h3 => ?_
    exact k2 hn dd H3 (fresh_back (e1.trans e2) hd) ((e1.trans e2).trans e3) h3
  have tst : EvT (tNot (tB (tMeth C m (spWw K C f) [] (fun _ _ _ => False) (tVar 0) (tCons (tVar 2) tNil)))) [some (.ref a), some x, some v] H1 (!f W d) :=
    et_not (et_B (ev_meth (ev_var rfl) (e1 _ _ hins) (nm sg nb rk) (ea_cons (ev_var rfl) ea_nil) (spWw_v (hW.ex e1) ok qv fit wz)))
  have cond : EvT (tOr (tNot (tB (tMeth C m (spWw K C f) [] (fun _ _ _ => False) (tVar 0) (tCons (tVar 2) tNil)))) (tTest (tOp rNe (tCall (spFT K) [] (fun _ _ _ => False) (tCons (tVar 2) tNil)) (tVar 1)))) [some (.ref a), some x, some v] H1 (!f W d || !eqS e (textT d)) := by
    refine et_or tst fun c => ?_
    have hf : f W d = true := by simpa using c
    have hs : isD "str" e = true := by
      cases h : isD "str" e with
      | true => rfl
      | false =>
        rw [dn h, fn] at hf
        cases hf
    obtain ⟨t, rfl, rfl⟩ := dq_str q hs
    have tx := ft d hf od
    have m1 := msr_sz d
    have l1 := text_sz d od
    refine et_is (et_test (ev_op (ev_call (ea_cons (ev_var rfl) ea_nil) (spFT_v qv tx (by omega) (by omega))) (ev_var rfl) (rv_ne rfl))) ?_
    show (!decide (V.str (textT d) = V.str t)) = !(t == textT d)
    congr 1
    by_cases z : textT d = t
    · rw [z, decide_eq_true rfl]
      simp
    · rw [decide_eq_false (fun y => z (by injection y))]
      exact (beq_eq_false_iff_ne.mpr (Ne.symm z)).symm
  refine q_when cond (fun c H2 e2 => ?_) fun c H2 e2 => ?_
  · refine raise ?_ e2
    rw [rg, if_neg]
    intro z
    rw [Bool.and_eq_true] at z
    rw [z.1, z.2] at c
    cases c
  · refine ⟨v, rfl, ?_⟩
    rw [hD]
    refine k1 d ?_ v H2 (e1.trans e2) (qv.ex e2)
    rw [rg, if_pos]
    rw [Bool.or_eq_false_iff] at c
    rw [Bool.and_eq_true]
    exact ⟨by simpa using c.1, by simpa using c.2⟩
theorem sc_read_form : FnScope ["world", "text", "form"] ["world", "text"] (defScope s_read_form) := ⟨rfl, rfl, rfl, by decide +kernel, rfl, by decide +kernel, by decide +kernel⟩
theorem ok_read_form {f ff fT fF fI : Addr} {fd fdf fdT fdF fdI : FuncData} (F : Fun K "read_form" "read_form" s_read_form f fd) (B : Bt mg) (T : WC K C) (mf : Meth K C "is_form" ff) (bf : Binds K fdf ["self", "value"] []) (Gf : FnOk P w K mg base CX0 4 ff fdf ["self", "value"] (spWw K C isFormD))
    (kT : PySem.W.keepIn K (.ref fT) = true) (bT : Binds K fdT ["text"] []) (gT : mg "told_by" = some (.ref fT)) (GT : FnOk P w K mg base CX0 4 fT fdT ["text"] (spTB K)) (kF : PySem.W.keepIn K (.ref fF) = true) (bF : Binds K fdF ["form"] []) (gF : mg "form_text" = some (.ref fF)) (GF : FnOk P w K mg base CX0 4 fF fdF ["form"] (spFT K))
    (EB : EC P w K mg base "BadText" CB fI fdI) : FnOk P w K mg base (CX P w) 5 f fd ["world", "text"] (spRd K C CB isFormD) := by
  refine F.okX sc_read_form (fun vs H Q E h => ?_) (fun cdv A outer s H vs Q E hr h => ?_)
  · obtain ⟨a, W, x, d, rfl, _⟩ := h
    rfl
  · obtain ⟨a, W, x, e, rfl, hW, ok, q, to, k1, k2⟩ := h
    refine ⟨_, pss_cons (ps_set (i := 2) sc_read_form.nd rfl (Or.inl rfl) (pe_ifExp (pt_val (pe_callB call_isD (by rfl) B.isinstance boot_isinstance (pa_cons (pv 1) (pa_cons (pe_tyN "str" (by rfl) B.str boot_str) pa_nil)))) (pe_call GT hr (by rfl) gT kT bT .nil pass0 (pa_cons (pv 1) pa_nil)) pe_non))
      (pss_cons (ps_if (PW.pt (pw_or (pt_not (pt_val (pe_meth (pv 0) T.cl mf Gf hr bf .nil pass0 (pa_cons (pv 2) pa_nil)))) (pw_or1 (pt_cmpR op_ne (pe_call GF hr (by rfl) gF kF bF .nil pass0 (pa_cons (pv 2) pa_nil)) (pv 1) (nomark _)))))
        (pss_one (ps_raise rfl (takes_of rfl rfl rfl rfl) (pmk_oex EB.T EB.iC EB.tI EB.G (hr.mono (by decide)) EB.b .nil pass0 (by rfl) EB.g (pa_cons (pv 1) pa_nil)))) pss_nil)
      (PSs.nox (pss_one (ps_ret (pv 2))))), ?_⟩
    exact rd_core (sp := spTB K) (fun _ _ _ => rfl) (form_none W) (fun d h _ => form_txt ok d h) hW ok q to k1 k2 EB.T EB.no rfl fun σ' H' z => z
theorem sc_read_tree : FnScope ["world", "text", "tree"] ["world", "text"] (defScope s_read_tree) := ⟨rfl, rfl, rfl, by decide +kernel, rfl, by decide +kernel, by decide +kernel⟩
theorem ok_read_tree {f ff fT fF fI : Addr} {fd fdf fdT fdF fdI : FuncData} (F : Fun K "read_tree" "read_tree" s_read_tree f fd) (B : Bt mg) (T : WC K C) (mf : Meth K C "is_tree" ff) (bf : Binds K fdf ["self", "value"] []) (Gf : FnOk P w K mg base CX0 4 ff fdf ["self", "value"] (spWw K C isTreeD))
    (kT : PySem.W.keepIn K (.ref fT) = true) (bT : Binds K fdT ["text"] []) (gT : mg "told_by" = some (.ref fT)) (GT : FnOk P w K mg base CX0 4 fT fdT ["text"] (spTB K)) (kF : PySem.W.keepIn K (.ref fF) = true) (bF : Binds K fdF ["form"] []) (gF : mg "form_text" = some (.ref fF)) (GF : FnOk P w K mg base CX0 4 fF fdF ["form"] (spFT K))
    (EB : EC P w K mg base "BadText" CB fI fdI) : FnOk P w K mg base (CX P w) 5 f fd ["world", "text"] (spRd K C CB isTreeD) := by
  refine F.okX sc_read_tree (fun vs H Q E h => ?_) (fun cdv A outer s H vs Q E hr h => ?_)
  · obtain ⟨a, W, x, d, rfl, _⟩ := h
    rfl
  · obtain ⟨a, W, x, e, rfl, hW, ok, q, to, k1, k2⟩ := h
    refine ⟨_, pss_cons (ps_set (i := 2) sc_read_tree.nd rfl (Or.inl rfl) (pe_ifExp (pt_val (pe_callB call_isD (by rfl) B.isinstance boot_isinstance (pa_cons (pv 1) (pa_cons (pe_tyN "str" (by rfl) B.str boot_str) pa_nil)))) (pe_call GT hr (by rfl) gT kT bT .nil pass0 (pa_cons (pv 1) pa_nil)) pe_non))
      (pss_cons (ps_if (PW.pt (pw_or (pt_not (pt_val (pe_meth (pv 0) T.cl mf Gf hr bf .nil pass0 (pa_cons (pv 2) pa_nil)))) (pw_or1 (pt_cmpR op_ne (pe_call GF hr (by rfl) gF kF bF .nil pass0 (pa_cons (pv 2) pa_nil)) (pv 1) (nomark _)))))
        (pss_one (ps_raise rfl (takes_of rfl rfl rfl rfl) (pmk_oex EB.T EB.iC EB.tI EB.G (hr.mono (by decide)) EB.b .nil pass0 (by rfl) EB.g (pa_cons (pv 1) pa_nil)))) pss_nil)
      (PSs.nox (pss_one (ps_ret (pv 2))))), ?_⟩
    exact rd_core (sp := spTB K) (fun _ _ _ => rfl) (tree_none W) (fun d h o => tree_txt ok d h o) hW ok q to k1 k2 EB.T EB.no rfl fun σ' H' z => z
end
end KW
namespace KW
open PySem PySem.Spec PyProof.Rows L2 Evl TL PySem.Builtin PySem.Builtin.Str
/-! ### the law's texts -/
theorem textTs_app : ∀ a b : List PyData, textTs (a ++ b) = textTs a ++ textTs b
  | [], b => (empty_str _).symm
  | d :: a, b => by
    rw [List.cons_append, textTs, textTs, textTs_app a b]
    simp only [str_assoc]
theorem range_getD {α β : Type} (l : List α) (a0 : α) (f : α → β) : (List.range l.length).map (fun i => f (l.getD i a0)) = l.map f := by
  apply List.ext_getElem?
  intro i
  simp only [List.getElem?_map, List.getElem?_range]
  by_cases h : i < l.length
  · simp [h, List.getD_eq_getElem?_getD]
  · simp [h]
theorem okTs_take {ds : List PyData} (h : okTs ds = true) (i : Nat) : okTs (ds.take i) = true := okTs_mem.mpr fun d m => okTs_mem.mp h d (List.mem_of_mem_take m)
theorem szDs_take (ds : List PyData) (i : Nat) : szDs (ds.take i) ≤ szDs ds := by
  have := szDs_app (ds.take i) (ds.drop i)
  rw [List.take_append_drop] at this
  omega
theorem szDs_mem {ds : List PyData} {d : PyData} (m : d ∈ ds) : szD d ≤ szDs ds := by
  obtain ⟨a, b, rfl⟩ := List.append_of_mem m
  rw [szDs_app, szDs]
  omega
def spLX (K : PySem.W.Frag) (n : Nat) : Sp := fun vs H Q _ => ∃ x d, vs = [x] ∧ Dq K H x d ∧ txtT d = true ∧ okT d = true ∧ szD d ≤ 30000 ∧ isD "int" d = false ∧ hgt d < n ∧ ∀ H', Ex H H' → Q (.str (textT d)) H'
theorem spLX_v {K : PySem.W.Frag} {n : Nat} {x : V} {d : PyData} {H : Hp} (q : Dq K H x d) (t : txtT d = true) (o : okT d = true) (z : szD d ≤ 30000) (i : isD "int" d = false) (h : hgt d < n) : SpV (spLX K n) ([x] ++ []) H (.str (textT d)) := fun H1 e Q k E => ⟨x, d, rfl, q.ex e, t, o, z, i, h, k⟩
section
variable {P : Program} {w : World} {K : PySem.W.Frag} {mg : Str → Option Value} {base : Heap}
theorem ev_int {σ : L2.St} {H : Hp} {te : TE} {x : Str} {n : Int} (h : Ev te σ H (.str x)) (i : PySem.intText? x = some n) (l : x.length ≤ 640) : Ev (tCB (fun xs H Q => ∃ a n, xs = [.str a] ∧ PySem.intText? a = some n ∧ a.length ≤ 640 ∧ Q (.int n) H) (tCons te tNil)) σ H (.int n) := fun H1 e Q k =>
  h H1 e _ fun H2 e2 => ⟨x, n, rfl, i, l, k H2 e2⟩
theorem ev_cat {σ : L2.St} {H : Hp} {ta tb : TE} {x y : Str} (h : Ev ta σ H (.str x)) (k : Ev tb σ H (.str y)) (l : x.length + y.length ≤ 16777216) : Ev (tOp (fun x y H Q => ∃ i j, x = .str i ∧ y = .str j ∧ i.length + j.length ≤ sizeLine ∧ Q (.str (i ++ j)) H) ta tb) σ H (.str (x ++ y)) :=
  ev_op h k fun H1 e Q q => ⟨_, _, rfl, rfl, l, q H1 (Ex.refl _)⟩
theorem sc_lx : FnScope ["form", "found", "part"] ["form"] (defScope s_law_text) := ⟨rfl, rfl, rfl, by decide +kernel, rfl, by decide +kernel, by decide +kernel⟩
theorem ok_lx_step {f : Addr} {fd : FuncData} (F : Fun K "_law_text" "_law_text" s_law_text f fd) (B : Bt mg) (b : Binds K fd ["form"] []) (g : mg "_law_text" = some (.ref f)) (n : Nat) (G : FnOk P w K mg base CX0 n f fd ["form"] (spLX K n)) : FnOk P w K mg base CX0 (n + 1) f fd ["form"] (spLX K (n + 1)) := by
  refine F.ok sc_lx (fun vs H Q E h => ?_) (fun cdv A outer s H vs Q E hr h => ?_)
  · obtain ⟨x, d, rfl, _⟩ := h
    rfl
  · obtain ⟨x, d, rfl, q, ht, ho, hz, hi, hh, k⟩ := h
    refine ⟨_, pss_cons (ps_if (pt_val (pe_callB call_isD (by rfl) B.isinstance boot_isinstance (pa_cons (pv 0) (pa_cons (pe_tyN "str" (by rfl) B.str boot_str) pa_nil)))) (pss_one (ps_ret (pv 0))) pss_nil)
      (pss_cons (ps_set (i := 1) sc_lx.nd rfl (Or.inl rfl) (pe_op op_add_str pe_str (pe_ix ix_tup (pv 0) pe_int (fun _ _ => rfl))))
      (pss_cons (ps_for PassesOwn.never rfl (pi_tup (pe_slice sl_tup (pv 0) (po_some pe_int) po_none)) (pg_name (i := 2) sc_lx.nd rfl (Or.inl rfl))
        (pss_one (ps_set (i := 1) sc_lx.nd rfl (Or.inl rfl) (pe_op op_add_str (pe_op op_add_str (pv 1) pe_str) (pe_ifExp (pt_val (pe_callB call_isD (by rfl) B.isinstance boot_isinstance (pa_cons (pv 2) (pa_cons (pe_tyN "int" (by rfl) B.int boot_int) pa_nil)))) (pe_callTy call_str_int (by rfl) B.str boot_str (pa_cons (pv 2) pa_nil)) (pe_call G hr (by rfl) g F.kp b .nil pass0 (pa_cons (pv 2) pa_nil)))))))
      (pss_one (ps_ret (pe_op op_add_str (pv 1) pe_str))))), ?_⟩
    refine q_when (b := isD "str" d) (et_B (ev_isD (ev_var rfl) q)) (fun hs H1 e => ?_) fun hs H1 e => ?_
    · obtain ⟨z, rfl, rfl⟩ := dq_str q hs
      exact s_ret (ev_var rfl) fun H2 e2 => k H2 (e.trans e2)
    · obtain ⟨y, ds, rfl⟩ : ∃ y ds, d = .tuple (.str y :: ds) := by
        match d, ht, hi, hs with
        | .str _, _, _, h => cases h
        | .int _, _, h, _ => cases h
        | .tuple (.str y :: ds), _, _, _ => exact ⟨y, ds, rfl⟩
        | .none, h, _, _ => cases h
        | .bool _, h, _, _ => cases h
        | .list _, h, _, _ => cases h
        | .dict _, h, _, _ => cases h
        | .tuple [], h, _, _ => cases h
        | .tuple (.none :: _), h, _, _ => cases h
        | .tuple (.bool _ :: _), h, _, _ => cases h
        | .tuple (.int _ :: _), h, _, _ => cases h
        | .tuple (.list _ :: _), h, _, _ => cases h
        | .tuple (.tuple _ :: _), h, _, _ => cases h
        | .tuple (.dict _ :: _), h, _, _ => cases h
      obtain ⟨p, xs, rfl, hp, qx⟩ := Dq.tuple q
      obtain ⟨us, rfl, qu⟩ : ∃ us, xs = V.str y :: us ∧ Dqs K H us ds := by
        cases qx with
        | cons qa qs =>
          cases qa
          exact ⟨_, rfl, qs⟩
      have lu := qu.len
      rw [txtT] at ht
      rw [okT, okTs, Bool.and_eq_true] at ho
      have et : textT (.tuple (.str y :: ds)) = lpS ++ y ++ textTs ds ++ rpS := by rw [textT]
      rw [et] at k
      rw [szD, szDs, szD] at hz
      have ly : y.length ≤ 30000 := by omega
      refine q_asg (v := .str (lpS ++ y)) (ev_cat (x := lpS) ev_c (ev_ixT (i := 0) (ev_var rfl) ev_c (ex_t e hp) (atI_nat (j := 0) rfl)) (by rw [lp_len]; omega)) fun H2 e2 => ?_
      have e02 := e.trans e2
      refine eu_tail (ev_var rfl) (ex_t e02 hp) H2 (Ex.refl _) _ fun t H3 ht3 e3 h3 => ⟨t, rfl, ⟨us, st_of h3⟩, ?_⟩
      have e03 := e02.trans e3
      refine for_it (walk_tup (xs := us)) (fun i σ H' => ∃ o2, σ = [some (.ref p), some (.str (lpS ++ y ++ textTs (ds.take i))), o2] ∧ Ex H3 H') ⟨none, by rw [List.take_zero, textTs, str_empty]; rfl, Ex.refl _⟩ (fun i σ H' _ ⟨_, _, ex⟩ => st_of (ex _ _ h3)) ?_ ?_
      · rintro i v σ H4 H5 hi2 ⟨o2, rfl, ex⟩ ⟨rfl, hv⟩
        obtain ⟨dn, hdn, qn⟩ := qu.get i v hv
        have mem : dn ∈ ds := List.mem_of_getElem? hdn
        have on := okTs_mem.mp ho.2 dn mem
        have tn := txtTs_mem.mp ht dn mem
        have b1 := text_szs _ (okTs_take ho.2 i)
        have b2 := szDs_take ds i
        have b3 := text_sz dn on
        have b4 := szDs_mem mem
        have part : Ev (tIf (tB (tCB (rIsD K) (tCons (tVar 2) (tCons (tC (.ty "int")) tNil)))) (tCB (fun xs H Q => ∃ i, xs = [.int i] ∧ i.natAbs.log2 < 1920 ∧ Q (.str (toString i)) H) (tCons (tVar 2) tNil)) (tCall (spLX K n) [] (fun _ _ _ => False) (tCons (tVar 2) tNil))) [some (.ref p), some (.str (lpS ++ y ++ textTs (ds.take i))), some v] H5 (.str (textT dn)) := by
          refine ev_if (b := isD "int" dn) (et_B (ev_isD (ev_var rfl) (qn.ex (e03.trans ex)))) (fun c => ?_) fun c => ?_
          · obtain ⟨m, rfl⟩ : ∃ m, dn = .int m := by
              cases dn <;> first | exact ⟨_, rfl⟩ | (cases tn; done) | (cases c; done)
            cases qn
            exact fun H6 e6 Q6 k6 => ⟨_, rfl, _, rfl, of_decide_eq_true tn, k6 H6 (Ex.refl _)⟩
          · refine ev_call (ea_cons (ev_var rfl) ea_nil) (spLX_v (qn.ex (e03.trans ex)) tn on (by omega) c ?_)
            have h1 := hgt_mem (List.mem_cons_of_mem (.str y) mem)
            have h2 : hgt (.tuple (.str y :: ds)) = 1 + hgts (.str y :: ds) := by rw [hgt]
            omega
        refine s_asg (v := .str (lpS ++ y ++ textTs (ds.take i) ++ blS ++ textT dn)) (ev_cat (ev_cat (y := blS) (ev_var rfl) ev_c ?_) part ?_) fun H6 e6 => ⟨some v, ?_, ex.trans e6⟩
        · rw [str_len_app, str_len_app, lp_len, bl_len]
          omega
        · rw [str_len_app, str_len_app, str_len_app, lp_len, bl_len]
          omega
        · rw [List.take_succ, hdn]
          show _ = [some (V.ref p), some (.str (lpS ++ y ++ textTs (ds.take i ++ [dn]))), some v]
          rw [textTs_app]
          show _ = [some (V.ref p), some (.str (lpS ++ y ++ (textTs (ds.take i) ++ (blS ++ textT dn ++ Str.empty)))), some v]
          rw [str_empty, ← str_assoc, ← str_assoc (lpS ++ y ++ textTs (ds.take i))]
          rfl
      · rintro σ H4 ⟨o2, rfl, ex⟩
        rw [lu, List.take_length]
        have b1 := text_szs _ ho.2
        dsimp only
        refine s_ret (ev_cat (y := rpS) (ev_var rfl) ev_c ?_) fun H5 e5 => k H5 ((e03.trans ex).trans e5)
        rw [str_len_app, str_len_app, lp_len, rp_len]
        omega
theorem ok_lx {f : Addr} {fd : FuncData} (F : Fun K "_law_text" "_law_text" s_law_text f fd) (B : Bt mg) (b : Binds K fd ["form"] []) (g : mg "_law_text" = some (.ref f)) : ∀ n, FnOk P w K mg base CX0 n f fd ["form"] (spLX K n)
  | 0 => fn_none fun vs H Q E ⟨_, _, _, _, _, _, _, _, h, _⟩ => Nat.not_lt_zero _ h
  | n + 1 => ok_lx_step F B b g n (ok_lx F B b g n)
end
/-! ### numbers read -/
/-- a comprehension of new data over a tuple -/
theorem lc_dat {K : PySem.W.Frag} {σ : L2.St} {H : Hp} {te tl : TE} {a : Addr} {xs : List V} {j : Nat} {vs : List Nat} {Q : VK} (f : Nat → PyData) (h : Ev tl σ H (.ref a)) (hx : SqT K H a xs) (hz : xs.length ≤ 40000) (hw : ∀ x, wipe ((wipe σ vs).set j (some x)) vs = wipe σ vs) (nl : ∀ i, i < xs.length → noL (f i) = true)
    (he : ∀ (i : Nat) (x : V) H1, Ex H H1 → xs[i]? = some x → ∀ Q : VK, (∀ v H2, Ex H1 H2 → Dq K H2 v (f i) → Q v H2) → te ((wipe σ vs).set j (some x)) H1 Q)
    (k : ∀ (D : Addr) (ys : List V) H2, Ex H H2 → H D = none → H2 D = some (.lst ys) → Dqs K H2 ys ((List.range xs.length).map f) → Q (.ref D) H2) : tLc (iTup K tl) (gName j) tYes te vs σ H Q := by
  refine h H (Ex.refl _) _ fun H1 e1 => ⟨a, rfl, ⟨xs, ex_t e1 hx⟩, fun D hD => ?_⟩
  refine lc_it (walk_tup (xs := xs)) (fun i H' => Ex H1 H' ∧ ∃ ys, H' D = some (.lst ys) ∧ Dqs K H' ys ((List.range i).map f)) ⟨Ex.new hD, [], upd_same, .nil⟩ (fun i H' _ ⟨ex, _⟩ => ex_t (e1.trans ex) hx) ?_ ?_
  · rintro i x H2 H3 hi ⟨ex, ys, hy, qs⟩ ⟨rfl, hv⟩
    unfold gName
    refine ⟨hw _, ?_⟩
    unfold tYes
    dsimp only
    rw [if_pos rfl]
    refine he i x H3 (e1.trans ex) hv _ fun v H4 e4 qv => ?_
    have hy4 := e4 _ _ hy
    have ll := qs.len
    rw [List.length_map, List.length_range] at ll
    have k4 : NL H4 (upd H4 D (.lst (ys ++ [v]))) := NL.upd hy4
    refine ⟨ys, hy4, sz_lt (by omega), Ex.mut (ex.trans e4) hD, ys ++ [v], upd_same, ?_⟩
    rw [List.range_succ, List.map_append]
    exact ((qs.ex e4).nl k4 (noLs_mem.mpr fun d m => by
      obtain ⟨c, hc, rfl⟩ := List.mem_map.mp m
      exact nl c (by have := List.mem_range.mp hc; omega))).app (.cons (qv.nl k4 (nl i hi)) .nil)
  · rintro H2 ⟨ex, ys, hy, qs⟩
    exact k D ys H2 (e1.trans ex) (fresh_back e1 hD) hy qs
def spLN (K : PySem.W.Frag) (n : Nat) : Sp := fun vs H Q _ => ∃ x d, vs = [x] ∧ Dq K H x d ∧ okT d = true ∧ szD d ≤ 30000 ∧ hgt d < n ∧ ∀ v H', Ex H H' → Dq K H' v (numbD d) → Q v H'
theorem numbD_noL : ∀ (k : Nat) (d : PyData), szD d ≤ k → noL d = true → noL (numbD d) = true := by
  intro k
  induction k with
  | zero => intro d h; have := szD_pos d; omega
  | succ k ih =>
    intro d hz h
    cases d with
    | tuple ds =>
      rw [numbD]
      split
      · rfl
      · rw [noL] at h ⊢
        rw [numbDs_map]
        refine noLs_mem.mpr fun e m => ?_
        obtain ⟨c, hc, rfl⟩ := List.mem_map.mp m
        rw [szD] at hz
        exact ih c (by have := szDs_mem hc; omega) (noLs_mem.mp h c hc)
    | _ => rw [numbD]; exact h; all_goals (intros; contradiction)
/-- a star and a text -/
def starStr : List PyData → Bool
  | [a, b] => eqS a star && isD "str" b
  | _ => false
theorem starStr_is {ds : List PyData} (h : starStr ds = true) : ∃ w, ds = [.str star, .str w] := by
  unfold starStr at h
  split at h
  · rename_i a b
    rw [Bool.and_eq_true] at h
    have := eqS_star h.1
    subst this
    cases b <;> first | exact ⟨_, rfl⟩ | cases h.2
  · cases h
theorem numOf_none {ds : List PyData} (h : starStr ds = false) : numOf? ds = none := by
  unfold numOf?
  split
  · rename_i a w
    have : (eqS (.str a) star && isD "str" (.str w)) = false := h
    by_cases z : a = star
    · subst z
      have e : eqS (.str star) star = true := beq_self_eq_true star
      rw [e] at this
      cases this
    · rw [decide_eq_false z]
      rfl
  · rfl
section
variable {P : Program} {w : World} {K : PySem.W.Frag} {mg : Str → Option Value} {base : Heap}
theorem sc_ln : FnScope ["thing", "sign", "part"] ["thing"] (defScope s_law_numbered) := ⟨rfl, rfl, rfl, by decide +kernel, rfl, by decide +kernel, by decide +kernel⟩
theorem ok_ln_step {f : Addr} {fd : FuncData} (F : Fun K "_law_numbered" "_law_numbered" s_law_numbered f fd) (B : Bt mg) (b : Binds K fd ["thing"] []) (g : mg "_law_numbered" = some (.ref f)) (n : Nat) (G : FnOk P w K mg base CX0 n f fd ["thing"] (spLN K n)) : FnOk P w K mg base CX0 (n + 1) f fd ["thing"] (spLN K (n + 1)) := by
  refine F.ok sc_ln (fun vs H Q E h => ?_) (fun cdv A outer s H vs Q E hr h => ?_)
  · obtain ⟨x, d, rfl, _⟩ := h
    rfl
  · obtain ⟨x, d, rfl, q, ho, hz, hh, k⟩ := h
    have hu0 := hu_of hr
    refine ⟨_, pss_cons (ps_if (pt_not (pt_val (pe_callB call_isD (by rfl) B.isinstance boot_isinstance (pa_cons (pv 0) (pa_cons (pe_tyN "tuple" (by rfl) B.tuple boot_tuple) pa_nil))))) (pss_one (ps_ret (pv 0))) pss_nil)
      (pss_cons (ps_if (PW.pt (pw_and (pt_cmpR op_eq (pe_callB call_len_seq (by rfl) B.len PySem.boot_len (pa_cons (pv 0) pa_nil)) pe_int (nomark _)) (pw_and (pt_cmpR (op_eqS (Nat.lt_of_succ_lt hu0)) (pe_ix ix_tup (pv 0) pe_int (fun _ _ => rfl)) pe_str (nomark _)) (pw_and1 (pt_val (pe_callB call_isD (by rfl) B.isinstance boot_isinstance (pa_cons (pe_ix ix_tup (pv 0) pe_int (fun _ _ => rfl)) (pa_cons (pe_tyN "str" (by rfl) B.str boot_str) pa_nil))))))))
        (pss_one (ps_if (PW.pt (pw_and (pt_cmpR op_ne (pe_ix ix_tup (pv 0) pe_int (fun _ _ => rfl)) pe_str (nomark _)) (pw_and1 (pt_cmpR (op_eqNil (Nat.lt_of_succ_lt hu0))
          (pe_lc (own := [("sign", 1)]) (g := gName 1) (tt := tTest (tOp (fun x y H Q => ∃ (c : Nat) (z : Str), x = .str ⟨#[c]⟩ ∧ y = .str z ∧ Q (.bl (!decide (c ∈ z.cps.toList))) H) (tVar 1) (tC (.str digitS)))) (te := tVar 1) rfl sc_ln.nd (pi_str (pe_ix ix_tup (pv 0) pe_int (fun _ _ => rfl))) (blkOk_by (N := ["thing", "sign", "part"]) (sc := defScope s_law_numbered) (by decide +kernel))
            (fun _ _ _ _ _ => pg_name (i := 1) sc_ln.nd rfl (Or.inl rfl)) (fun _ _ _ _ _ => by exact pts_one (pt_cmpR op_notIn_sign (pv 1) pe_str rfl)) (fun _ _ _ _ _ => by exact pv 1)) (pe_lst pa_nil) (nomark _)))))
          (pss_one (ps_ret (pe_tup (pa_cons pe_str (pa_cons (pe_callTy call_int_str (by rfl) B.int boot_int (pa_cons (pe_ix ix_tup (pv 0) pe_int (fun _ _ => rfl)) pa_nil)) pa_nil))))) pss_nil)) pss_nil)
      (pss_one (ps_ret (pe_callTy call_tuple_of (by rfl) B.tuple boot_tuple (pa_cons (pe_lc (own := [("part", 2)]) (g := gName 2) (tt := tYes) (te := tCall (spLN K n) [] (fun _ _ _ => False) (tCons (tVar 2) tNil)) rfl sc_ln.nd (pi_tup (pv 0)) (blkOk_by (N := ["thing", "sign", "part"]) (sc := defScope s_law_numbered) (by decide +kernel))
          (fun _ _ _ _ _ => pg_name (i := 2) sc_ln.nd rfl (Or.inl rfl)) (fun _ _ _ _ _ => pts_nil) (fun _ _ _ _ _ => by exact pe_call G hr (by rfl) g F.kp b .nil pass0 (pa_cons (pv 2) pa_nil))) pa_nil))))), ?_⟩
    refine q_when (b := !isD "tuple" d) (et_not (et_B (ev_isD (ev_var rfl) q))) (fun hs H1 e => ?_) fun hs H1 e => ?_
    · have hs : isD "tuple" d = false := by simpa using hs
      have en : numbD d = d := by cases d <;> first | (rw [numbD]; all_goals (intros; contradiction)) | cases hs
      exact s_ret (ev_var rfl) fun H2 e2 => k x H2 (e.trans e2) (by rw [en]; exact q.ex (e.trans e2))
    · obtain ⟨ds, rfl⟩ := signD_tuple (by simpa using hs : isD "tuple" d = true)
      obtain ⟨p, xs, rfl, hp, qx⟩ := Dq.tuple q
      have lx := qx.len
      rw [okT] at ho
      rw [szD] at hz
      have ld := szDs_len ds
      have rest : numOf? ds = none → ∀ H2, Ex H1 H2 → tCB (fun xs H Q => ∃ p ys, xs = [.ref p] ∧ ((SqL K H p ys ∧ ∀ l, H l = none → Q (.ref l) (upd H l (.tup ys))) ∨ (SqT K H p ys ∧ Q (.ref p) H))) (tCons (tLc (iTup K (tVar 0)) (gName 2) tYes (tCall (spLN K n) [] (fun _ _ _ => False) (tCons (tVar 2) tNil)) [2]) tNil) (start ["thing", "sign", "part"] [.ref p]) H2 Q := by
        intro hn H2 e2
        have e02 := e.trans e2
        have en : numbD (.tuple ds) = .tuple (ds.map numbD) := by rw [numbD, hn, ← numbDs_map]
        refine lc_dat (σ := start ["thing", "sign", "part"] [.ref p]) (te := tCall (spLN K n) [] (fun _ _ _ => False) (tCons (tVar 2) tNil)) (tl := tVar 0) (j := 2) (vs := [2]) (Q := fun x H1 => (fun xs H Q => ∃ p ys, xs = [.ref p] ∧ ((SqL K H p ys ∧ ∀ l, H l = none → Q (.ref l) (upd H l (.tup ys))) ∨ (SqT K H p ys ∧ Q (.ref p) H))) [x] H1 Q) (fun i => numbD (ds.getD i .none)) (ev_var rfl) (ex_t e02 hp) (by omega) (fun _ => rfl) (fun i hi => ?_) (fun i x H3 e3 hx Q3 k3 => ?_) fun D ys H3 e3 hD hy qs => ?_
        · have m : ds.getD i .none ∈ ds := by
            rw [List.getD_eq_getElem?_getD, List.getElem?_eq_getElem (by omega)]
            exact List.getElem_mem _
          exact numbD_noL _ _ (Nat.le_refl _) (ok_noL _ (okTs_mem.mp ho _ m))
        · obtain ⟨dn, hdn, qn⟩ := qx.get i x hx
          have mem : dn ∈ ds := List.mem_of_getElem? hdn
          have g1 : ds.getD i .none = dn := by rw [List.getD_eq_getElem?_getD, hdn]; rfl
          rw [g1] at k3
          refine ⟨_, rfl, x, dn, rfl, qn.ex (e02.trans e3), okTs_mem.mp ho dn mem, by have := szDs_mem mem; omega, ?_, k3⟩
          have h1 := hgt_mem mem
          have h2 : hgt (.tuple ds) = 1 + hgts ds := by rw [hgt]
          omega
        · refine ⟨D, ys, rfl, .inl ⟨sq_of hy, fun l hl => k (.ref l) _ ((e02.trans e3).trans (Ex.new hl)) ?_⟩⟩
          rw [en]
          have : (List.range xs.length).map (fun i => numbD (ds.getD i .none)) = ds.map numbD := by
            rw [lx]
            exact range_getD ds .none numbD
          rw [this] at qs
          exact .tup (SqT.of upd_same) (qs.ex (Ex.new hl))
      have c1 : EvT (tAnd (tTest (tOp rEq (tCB (rLenS K) (tCons (tVar 0) tNil)) (tC (.int 2)))) (tAnd (tTest (tOp (rEqS K) (tOp (rIxT K) (tVar 0) (tC (.int 0))) (tC (.str star)))) (tB (tCB (rIsD K) (tCons (tOp (rIxT K) (tVar 0) (tC (.int 1))) (tCons (tC (.ty "str")) tNil)))))) (start ["thing", "sign", "part"] [.ref p]) H1 (starStr ds) := by
        by_cases l2 : ds.length = 2
        · obtain ⟨da, db, rfl⟩ := two_of l2
          obtain ⟨u, v, rfl, qa, qb⟩ := dqs_two qx
          refine et_is (et_and (a := true) (et_is (et_test (ev_op (ev_lenT (ev_var rfl) (ex_t e hp)) ev_c (rv_eq rfl))) rfl) fun _ => et_and (et_test (ev_eqS (ev_ixT (i := 0) (ev_var rfl) ev_c (ex_t e hp) (atI_nat (j := 0) rfl)) ev_c (qa.ex e))) fun _ => et_B (ev_isD (ev_ixT (i := 1) (ev_var rfl) ev_c (ex_t e hp) (atI_nat (j := 1) rfl)) (qb.ex e))) ?_
          rfl
        · have e0 : starStr ds = false := by
            match ds, l2 with
            | [], _ => rfl
            | [_], _ => rfl
            | [_, _], h => exact absurd rfl h
            | _ :: _ :: _ :: _, _ => rfl
          rw [e0]
          refine et_is (et_and (a := false) (b := true) (et_is (et_test (ev_op (ev_lenT (ev_var rfl) (ex_t e hp)) ev_c (rv_eq rfl))) (decide_eq_false fun z => ?_)) (fun z => nomatch z)) rfl
          injection z with z
          omega
      refine q_when c1 (fun c H2 e2 => ?_) fun c H2 e2 => rest (numOf_none c) H2 e2
      obtain ⟨wd, rfl⟩ := starStr_is c
      obtain ⟨u, v, rfl, qa, qb⟩ := dqs_two qx
      cases qa
      cases qb
      rw [okTs, okTs, okTs, okT, okT] at ho
      simp only [Bool.and_eq_true, decide_eq_true_eq] at ho
      have lw := ho.2.1.1
      have zl : wd.length = wd.cps.size := rfl
      have hp2 := ex_t (e.trans e2) hp
      have wd1 : ∀ {H3}, Ex H2 H3 → Ev (tOp (rIxT K) (tVar 0) (tC (.int 1))) (start ["thing", "sign", "part"] [.ref p]) H3 (.str wd) := fun e3 => ev_ixT (i := 1) (ev_var rfl) ev_c (ex_t e3 hp2) (atI_nat (j := 1) rfl)
      have comp : EvL (tLc (iStr (tOp (rIxT K) (tVar 0) (tC (.int 1)))) (gName 1) (tTest (tOp (fun x y H Q => ∃ (c : Nat) (z : Str), x = .str ⟨#[c]⟩ ∧ y = .str z ∧ Q (.bl (!decide (c ∈ z.cps.toList))) H) (tVar 1) (tC (.str digitS)))) (tVar 1) [1]) (start ["thing", "sign", "part"] [.ref p]) H2 (given wd.cps.size (fun i => !decide (wd.cps.getD i 0 ∈ digitS.cps.toList)) (fun i => .str ⟨#[wd.cps.getD i 0]⟩)) := by
        refine el_lcS _ _ (wd1 (Ex.refl _)) (by omega) (fun _ => rfl) (fun i c H3 e3 hc => ?_) fun i c H3 e3 hc _ => ?_
        · have g1 : wd.cps.getD i 0 = c := by rw [Array.getD_eq_getD_getElem?, hc]; rfl
          rw [g1]
          exact et_test (ev_op (ev_var rfl) ev_c fun H1 e Q k => ⟨c, digitS, rfl, rfl, k H1 (Ex.refl _)⟩)
        · have g1 : wd.cps.getD i 0 = c := by rw [Array.getD_eq_getD_getElem?, hc]; rfl
          rw [g1]
          exact ev_var rfl
      have c2 : EvT (tAnd (tTest (tOp rNe (tOp (rIxT K) (tVar 0) (tC (.int 1))) (tC (.str "")))) (tTest (tOp (rNil K false) (tLc (iStr (tOp (rIxT K) (tVar 0) (tC (.int 1)))) (gName 1) (tTest (tOp (fun x y H Q => ∃ (c : Nat) (z : Str), x = .str ⟨#[c]⟩ ∧ y = .str z ∧ Q (.bl (!decide (c ∈ z.cps.toList))) H) (tVar 1) (tC (.str digitS)))) (tVar 1) [1]) (tLst tNil)))) (start ["thing", "sign", "part"] [.ref p]) H2 (isDigits wd) := by
        refine et_is (et_and (et_test (ev_op (wd1 (Ex.refl _)) ev_c (rv_ne rfl))) fun _ => et_test (ev_opLL comp (el_lst ea_nil (by decide)) (z := .bl (given wd.cps.size (fun i => !decide (wd.cps.getD i 0 ∈ digitS.cps.toList)) (fun i => .str ⟨#[wd.cps.getD i 0]⟩)).isEmpty) fun p1 q1 H5 h5 h6 e5 H6 e6 Q k => ⟨p1, q1, _, rfl, rfl, sq_of (e6 _ _ h5), sq_of (e6 _ _ h6), k H6 (Ex.refl _)⟩)) ?_
        unfold isDigits
        rw [given_empty]
        simp only [Bool.not_not]
        rw [range_all wd fun c => decide (c ∈ digitS.cps.toList)]
        congr 1
        · congr 1
          rw [Bool.eq_iff_iff, decide_eq_true_eq]
          constructor
          · intro z
            injection z with z
            rw [z]
            rfl
          · intro z
            have z : tl wd = [] := by simpa using z
            rw [show wd = "" from ext_tl (by rw [z]; rfl)]
        · congr 1
          funext c
          exact digit_in c
      refine s_when c2 (fun cc H3 e3 => ?_) fun cc H3 e3 => rest ?_ H3 (e2.trans e3)
      · unfold isDigits at cc
        rw [Bool.and_eq_true] at cc
        have ne : tl wd ≠ [] := by simpa using cc.1
        have it := PySem.intText_digits (x := wd) (all_dig cc.2) ne (by omega)
        refine s_retU (eu_tup (ea_cons ev_c (ea_cons (ev_int (wd1 e3) it (by omega)) ea_nil)) (by show 2 ≤ 100000; decide)) fun t H4 ht4 e4 h4 => ?_
        refine k (.ref t) H4 (((e.trans e2).trans e3).trans e4) ?_
        have en : numbD (.tuple [.str star, .str wd]) = .tuple [.str star, .int ((NumText.digitsVal (tl wd) : Nat) : Int)] := by
          rw [numbD]
          have : numOf? [.str star, .str wd] = some ((NumText.digitsVal (tl wd) : Nat) : Int) := by
            show (if (decide (star = star) && isDigits wd) = true then some _ else none) = _
            unfold isDigits
            rw [decide_eq_true rfl, cc.1, cc.2]
            rfl
          rw [this]
        rw [en]
        exact .tup (SqT.of h4) (.cons (.str _) (.cons (.int _) .nil))
      · show (if (decide (star = star) && isDigits wd) = true then some _ else none) = none
        rw [cc, Bool.and_false]
        rfl
theorem ok_ln {f : Addr} {fd : FuncData} (F : Fun K "_law_numbered" "_law_numbered" s_law_numbered f fd) (B : Bt mg) (b : Binds K fd ["thing"] []) (g : mg "_law_numbered" = some (.ref f)) : ∀ n, FnOk P w K mg base CX0 n f fd ["thing"] (spLN K n)
  | 0 => fn_none fun vs H Q E ⟨_, _, _, _, _, _, h, _⟩ => Nat.not_lt_zero _ h
  | n + 1 => ok_ln_step F B b g n (ok_ln F B b g n)
end
end KW
namespace KW
open PySem PySem.Spec PyProof.Rows L2 Evl TL PySem.Builtin PySem.Builtin.Str
/-! ### the law's own reading of a text -/
theorem delR_eq (c : Nat) (s : RdSt) : delR c s = if isDel c && !(tl s.2).isEmpty then (addTop (.str s.2) s.1, Str.empty) else s := by
  unfold delR flushR
  cases isDel c with
  | false => rfl
  | true =>
    cases (tl s.2).isEmpty <;> rfl
theorem delR_bounds (c : Nat) (s : RdSt) : szR (delR c s).1 + (delR c s).2.length ≤ szR s.1 + s.2.length + 1 ∧ (delR c s).1.length ≤ s.1.length := by
  rw [delR_eq]
  split
  · obtain ⟨st, w⟩ := s
    cases st with
    | nil => exact ⟨by show 0 + 0 ≤ _; omega, Nat.le_refl _⟩
    | cons r st =>
      show szR ((r ++ [.str w]) :: st) + 0 ≤ _ ∧ _
      rw [szR_cons, szR_cons, szDs_app, szDs, szDs, szD]
      exact ⟨by show _ ≤ _ + _ + w.length + 1; omega, Nat.le_refl _⟩
  · exact ⟨by omega, Nat.le_refl _⟩
theorem opensR_bounds (c : Nat) (st : List (List PyData)) : szR (opensR c st) = szR st ∧ (opensR c st).length ≤ st.length + 1 := by
  unfold opensR
  split
  · exact ⟨by rw [szR_cons, szDs]; omega, Nat.le_refl _⟩
  · exact ⟨rfl, by omega⟩
theorem sign_len (w : Str) (c : Nat) : (w ++ (⟨#[c]⟩ : Str)).length = w.length + 1 := by rw [str_len_app]; rfl
theorem stepC_bounds {c : Nat} {s s' : RdSt} (h : stepC c s = some s') : szR s'.1 + s'.2.length ≤ szR s.1 + s.2.length + 2 ∧ s'.1.length ≤ s.1.length + 1 := by
  have b1 := delR_bounds c s
  have b2 := opensR_bounds c (delR c s).1
  unfold stepC at h
  split at h
  · cases hc : closeN 1 (opensR c (delR c s).1) with
    | none => rw [hc] at h; cases h
    | some st =>
      rw [hc] at h
      cases h
      have b3 := close_bounds _ _ _ hc
      exact ⟨by show szR st + (delR c s).2.length ≤ _; omega, by show st.length ≤ _; omega⟩
  · cases h
    split
    · exact ⟨by show szR (opensR c (delR c s).1) + (delR c s).2.length ≤ _; omega, by show (opensR c (delR c s).1).length ≤ _; omega⟩
    · rename_i hd
      have e0 : delR c s = s := by
        unfold delR
        rw [if_neg hd]
      rw [e0] at b2 ⊢
      exact ⟨by show szR (opensR c s.1) + (s.2 ++ _).length ≤ _; rw [sign_len]; omega, by show (opensR c s.1).length ≤ _; omega⟩
theorem foldC_bounds : ∀ (l : List Nat) (s s' : RdSt), foldC l s = some s' → szR s'.1 + s'.2.length ≤ szR s.1 + s.2.length + 2 * l.length ∧ s'.1.length ≤ s.1.length + l.length
  | [], s, s', h => by
    cases h
    exact ⟨by simp, by simp⟩
  | c :: l, s, s', h => by
    rw [foldC] at h
    cases hs : stepC c s with
    | none => rw [hs] at h; cases h
    | some s1 =>
      rw [hs] at h
      have h1 := stepC_bounds hs
      have h2 := foldC_bounds l s1 s' h
      rw [List.length_cons]
      omega
theorem delR_ne {c : Nat} {s : RdSt} (h : s.1 ≠ []) : (delR c s).1 ≠ [] := by
  rw [delR_eq]
  split
  · obtain ⟨st, w⟩ := s
    cases st with
    | nil => exact absurd rfl h
    | cons r st => simp [addTop]
  · exact h
theorem opensR_ne {c : Nat} {st : List (List PyData)} (h : st ≠ []) : opensR c st ≠ [] := by
  unfold opensR
  split
  · simp
  · exact h
theorem stepC_ne {c : Nat} {s s' : RdSt} (h : stepC c s = some s') (n : s.1 ≠ []) : s'.1 ≠ [] := by
  have n2 := opensR_ne (c := c) (delR_ne (c := c) n)
  unfold stepC at h
  split at h
  · cases hc : closeN 1 (opensR c (delR c s).1) with
    | none => rw [hc] at h; cases h
    | some st =>
      rw [hc] at h
      cases h
      exact close_ne _ _ _ hc n2
  · cases h
    exact n2
theorem foldC_ne : ∀ (l : List Nat) (s s' : RdSt), foldC l s = some s' → s.1 ≠ [] → s'.1 ≠ []
  | [], s, s', h, n => by
    cases h
    exact n
  | c :: l, s, s', h, n => by
    rw [foldC] at h
    cases hs : stepC c s with
    | none => rw [hs] at h; cases h
    | some s1 =>
      rw [hs] at h
      exact foldC_ne l s1 s' h (stepC_ne hs n)
theorem foldC_take {l : List Nat} {i c : Nat} {s0 s : RdSt} (h : foldC (l.take i) s0 = some s) (hc : l[i]? = some c) : foldC (l.take (i + 1)) s0 = stepC c s := by
  rw [List.take_succ, hc, foldC_app, h]
  show (stepC c s).bind (foldC []) = _
  cases stepC c s <;> rfl
theorem foldC_none {l : List Nat} {i c : Nat} {s0 s : RdSt} (h : foldC (l.take i) s0 = some s) (hc : l[i]? = some c) (n : stepC c s = none) : foldC l s0 = none := by
  have e : foldC (l.take (i + 1) ++ l.drop (i + 1)) s0 = none := by rw [foldC_app, foldC_take h hc, n]; rfl
  rwa [List.take_append_drop] at e
def delS : Str := " ()"
theorem del_in (c : Nat) : decide (c ∈ delS.cps.toList) = isDel c := by
  have e : delS.cps.toList = [32, 40, 41] := by decide +kernel
  rw [e]
  unfold isDel
  rw [Bool.eq_iff_iff]
  simp
theorem sgn_is {c k : Nat} {z : Str} (hz : tl z = [k]) : decide (V.str ⟨#[c]⟩ = V.str z) = decide (c = k) := by
  rw [decide_eq_decide]
  constructor
  · intro h
    injection h with h
    have := congrArg tl h
    rw [hz] at this
    have : [c] = [k] := this
    injection this
  · intro h
    rw [h]
    congr 1
    refine ext_tl ?_
    rw [hz]
section
variable {P : Program} {w : World} {K : PySem.W.Frag} {mg : Str → Option Value} {base : Heap}
/-- the end of a reading: the only thing of the only row -/
theorem last_ret {σ : L2.St} {H0 H : Hp} {rl : Addr} {st : List (List PyData)} {Q : VK} (hσ : σ[1]? = some (some (.ref rl))) (S : StkAt K H0 H rl st) (ne : st ≠ []) (k : ∀ v H', Ex H H' → Dq K H' v (lastOf (some st)) → Q v H') :
    tIf (tAnd (tTest (tOp rEq (tCB (rLenS K) (tCons (tVar 1) tNil)) (tC (.int 1)))) (tTest (tOp rEq (tCB (rLenS K) (tCons (tOp (rIxL K) (tVar 1) (tC (.int 0))) tNil)) (tC (.int 1))))) (tOp (rIxL K) (tOp (rIxL K) (tVar 1) (tC (.int 0))) (tC (.int 0))) (tC .non) σ H Q := by
  obtain ⟨as, h4, r4⟩ := S.rows
  have l4 := r4.len
  by_cases c1 : st.length = 1
  · obtain ⟨r, rfl⟩ : ∃ r, st = [r] := by
      match st, c1 with
      | [r], _ => exact ⟨r, rfl⟩
    cases r4 with
    | @cons a as' vs _ _ ha q n f nr m tt =>
      cases tt
      have h4 : H rl = some (.lst [.ref a]) := h4
      have lq := q.len
      have first : ∀ {H5 : Hp}, Ex H H5 → Ev (tOp (rIxL K) (tVar 1) (tC (.int 0))) σ H5 (.ref a) := fun e => ev_op (ev_var hσ) ev_c (rv_ixL (sq_of (e _ _ h4)) (atI_nat (j := 0) rfl))
      by_cases c2 : r.length = 1
      · obtain ⟨d, rfl⟩ : ∃ d, r = [d] := by
          match r, c2 with
          | [d], _ => exact ⟨d, rfl⟩
        obtain ⟨v, rfl, qd⟩ : ∃ v, vs = [v] ∧ Dq K H v d := by
          cases q with
          | cons q1 q2 =>
            cases q2
            exact ⟨_, rfl, q1⟩
        have ev : Ev (tIf (tAnd (tTest (tOp rEq (tCB (rLenS K) (tCons (tVar 1) tNil)) (tC (.int 1)))) (tTest (tOp rEq (tCB (rLenS K) (tCons (tOp (rIxL K) (tVar 1) (tC (.int 0))) tNil)) (tC (.int 1))))) (tOp (rIxL K) (tOp (rIxL K) (tVar 1) (tC (.int 0))) (tC (.int 0))) (tC .non)) σ H v :=
          ev_if (b := true) (et_is (et_and (a := true) (b := true) (et_is (et_test (ev_op (ev_len (ev_var hσ) (sq_of h4)) ev_c (rv_eq rfl))) rfl) fun _ => et_is (et_test (ev_op (ev_len (first (Ex.refl _)) (sq_of ha)) ev_c (rv_eq rfl))) rfl) rfl) (fun _ => ev_op (first (Ex.refl _)) ev_c (rv_ixL (sq_of ha) (atI_nat (j := 0) rfl))) (fun z => nomatch z)
        exact ev H (Ex.refl _) _ fun H5 e5 => k v H5 e5 (qd.ex e5)
      · have z2 : lastOf (some [r]) = .none := by
          match r, c2 with
          | [], _ => rfl
          | [_], z => exact absurd rfl z
          | _ :: _ :: _, _ => rfl
        have ev : Ev (tIf (tAnd (tTest (tOp rEq (tCB (rLenS K) (tCons (tVar 1) tNil)) (tC (.int 1)))) (tTest (tOp rEq (tCB (rLenS K) (tCons (tOp (rIxL K) (tVar 1) (tC (.int 0))) tNil)) (tC (.int 1))))) (tOp (rIxL K) (tOp (rIxL K) (tVar 1) (tC (.int 0))) (tC (.int 0))) (tC .non)) σ H .non :=
          ev_if (b := false) (et_is (et_and (a := true) (b := false) (et_is (et_test (ev_op (ev_len (ev_var hσ) (sq_of h4)) ev_c (rv_eq rfl))) rfl) fun _ => et_is (et_test (ev_op (ev_len (first (Ex.refl _)) (sq_of ha)) ev_c (rv_eq rfl))) (decide_eq_false fun zz => by
            injection zz with zz
            omega)) rfl) (fun z => nomatch z) (fun _ => ev_c)
        exact ev H (Ex.refl _) _ fun H5 e5 => k .non H5 e5 (by rw [z2]; exact .non)
  · have ev : Ev (tIf (tAnd (tTest (tOp rEq (tCB (rLenS K) (tCons (tVar 1) tNil)) (tC (.int 1)))) (tTest (tOp rEq (tCB (rLenS K) (tCons (tOp (rIxL K) (tVar 1) (tC (.int 0))) tNil)) (tC (.int 1))))) (tOp (rIxL K) (tOp (rIxL K) (tVar 1) (tC (.int 0))) (tC (.int 0))) (tC .non)) σ H .non :=
      ev_if (b := false) (et_is (et_and (a := false) (b := false) (et_is (et_test (ev_op (ev_len (ev_var hσ) (sq_of h4)) ev_c (rv_eq rfl))) (decide_eq_false fun zz => by
        injection zz with zz
        rw [List.length_map, List.length_reverse] at zz
        omega)) fun z => nomatch z) rfl) (fun z => nomatch z) (fun _ => ev_c)
    exact ev H (Ex.refl _) _ fun H5 e5 => k .non H5 e5 (by rw [lastOf_no c1]; exact .non)
def spLR (K : PySem.W.Frag) : Sp := fun vs H Q _ => ∃ t : Str, vs = [.str t] ∧ t.length ≤ 10000 ∧ ∀ v H', Ex H H' → Dq K H' v (readT t) → Q v H'
theorem sc_lr : FnScope ["text", "stack", "word", "sign", "parts"] ["text"] (defScope s_law_read) := ⟨rfl, rfl, rfl, by decide +kernel, rfl, by decide +kernel, by decide +kernel⟩
theorem ok_lr {f : Addr} {fd : FuncData} (F : Fun K "_law_read" "_law_read" s_law_read f fd) (B : Bt mg) : FnOk P w K mg base CX0 1 f fd ["text"] (spLR K) := by
  refine F.ok sc_lr (fun vs H Q E h => ?_) (fun cdv A outer s H vs Q E hr h => ?_)
  · obtain ⟨x, rfl, _⟩ := h
    rfl
  · obtain ⟨t, rfl, hz, k⟩ := h
    refine ⟨_, pss_cons (ps_par (i := 1) (j := 2) rfl sc_lr.nd rfl rfl (by decide) rfl rfl (pa_cons (pe_lst (pa_cons (pe_lst pa_nil) pa_nil)) (pa_cons pe_str pa_nil)) rfl)
      (pss_cons (ps_for PassesOwn.never rfl (pi_str (pe_op op_add_str (pv 0) pe_str)) (pg_name (i := 3) sc_lr.nd rfl (Or.inl rfl))
        (pss_cut (ps_if (PW.pt (pw_and (pt_cmpR op_in_sign (pv 3) pe_str rfl) (pw_and1 (pt_cmpR op_ne (pv 2) pe_str (nomark _)))))
          (pss_cons (ps_expr (pe_bm PySem.F.plainAttrs_list PySem.F.slot_list_append PySem.F.type_list_append mt_append (pe_ix ix_list (pv 1) (pe_un un_neg pe_int) (fun _ _ => rfl)) (pa_cons (pv 2) pa_nil)))
          (pss_one (ps_set (i := 2) sc_lr.nd rfl (Or.inl rfl) pe_str))) pss_nil)
        (pss_cut (ps_if (pt_cmpR op_eq (pv 3) pe_str (nomark _)) (pss_one (ps_expr (pe_bm PySem.F.plainAttrs_list PySem.F.slot_list_append PySem.F.type_list_append mt_append (pv 1) (pa_cons (pe_lst pa_nil) pa_nil)))) pss_nil)
        (pss_cut (ps_if (pt_cmpR op_eq (pv 3) pe_str (nomark _))
          (pss_cons (ps_if (pt_cmpR op_lt (pe_callB call_len_seq (by rfl) B.len PySem.boot_len (pa_cons (pv 1) pa_nil)) pe_int (nomark _)) (pss_one (ps_ret pe_non)) pss_nil)
          (pss_cons (ps_set (i := 4) sc_lr.nd rfl (Or.inl rfl) (pe_bm0 PySem.F.plainAttrs_list PySem.F.slot_list_pop PySem.F.type_list_pop mt_pop (pv 1)))
          (pss_one (ps_expr (pe_bm PySem.F.plainAttrs_list PySem.F.slot_list_append PySem.F.type_list_append mt_append (pe_ix ix_list (pv 1) (pe_un un_neg pe_int) (fun _ _ => rfl)) (pa_cons (pe_callTy call_tuple_of (by rfl) B.tuple boot_tuple (pa_cons (pv 4) pa_nil)) pa_nil)))))) pss_nil)
        (pss_one (ps_if (pt_cmpR op_notIn_sign (pv 3) pe_str rfl) (pss_one (ps_set (i := 2) sc_lr.nd rfl (Or.inl rfl) (pe_op op_add_str (pv 2) (pv 3)))) pss_nil))))))
      (pss_one (ps_ret (pe_ifExp (PW.pt (pw_and (pt_cmpR op_eq (pe_callB call_len_seq (by rfl) B.len PySem.boot_len (pa_cons (pv 1) pa_nil)) pe_int (nomark _)) (pw_and1 (pt_cmpR op_eq (pe_callB call_len_seq (by rfl) B.len PySem.boot_len (pa_cons (pe_ix ix_list (pv 1) pe_int (fun _ _ => rfl)) pa_nil)) pe_int (nomark _)))))
        (pe_ix ix_list (pe_ix ix_list (pv 1) pe_int (fun _ _ => rfl)) pe_int (fun _ _ => rfl)) pe_non)))), ?_⟩
    -- stack, word = [[]], ''
    refine ⟨(by show 0 ≤ sizeLine; decide), fun r0 hr0 => ⟨(by show 1 ≤ sizeLine; decide), fun rl hrl => ?_⟩⟩
    have e1 := Ex.new (o := .lst []) hr0
    have e2 := Ex.new (o := .lst [.ref r0]) hrl
    have h20 := e2 _ _ (show upd H r0 (.lst []) r0 = some (.lst []) from upd_same)
    have h2l : upd (upd H r0 (.lst [])) rl (.lst [.ref r0]) rl = some (.lst [.ref r0]) := upd_same
    have e12 := e1.trans e2
    have nrl : r0 ≠ rl := fun z => by rw [← z, upd_same] at hrl; cases hrl
    have hrl0 : H rl = none := fresh_back e1 hrl
    generalize upd (upd H r0 (.lst [])) rl (.lst [.ref r0]) = H2 at h20 h2l e12
    have S0 : StkAt K H H2 rl [[]] := ⟨e12, hrl0, [r0], h2l, .cons h20 .nil rfl hr0 nrl (fun m => nomatch m) .nil⟩
    refine ⟨.ref rl, .str Str.empty, rfl, ?_⟩
    -- the signs
    refine ⟨_, rfl, t, blS, rfl, rfl, by rw [bl_len]; exact sz_of (by omega), t ++ blS, rfl, ?_⟩
    have eL : (t ++ blS).cps.toList = tl t ++ [32] := by
      show tl (t ++ blS) = _
      rw [tl_append, tl_bl]
    have lL : (t ++ blS).cps.size = t.length + 1 := by
      show (t ++ blS).length = _
      rw [str_len_app, bl_len]
    have rdE : readT t = lastR (foldC (tl t ++ [32]) ([[]], Str.empty)) := rfl
    rw [← eL] at rdE
    generalize t ++ blS = z at eL lL rdE
    refine for_it (walk_str (z := z)) (fun i σ H' => ∃ (o3 o4 : Option V) (st : List (List PyData)) (wd : Str), σ = [some (.str t), some (.ref rl), some (.str wd), o3, o4] ∧ StkAt K H H' rl st ∧ foldC (z.cps.toList.take i) ([[]], Str.empty) = some (st, wd)) ⟨none, none, [[]], Str.empty, rfl, S0, rfl⟩
      (fun _ _ _ _ _ => True.intro) ?_ ?_
    · rintro i v σ H4 H5 hi ⟨o3, o4, st, wd, rfl, S, hf⟩ ⟨rfl, c, hc, rfl⟩
      have hc2 : z.cps.toList[i]? = some c := by rw [Array.getElem?_toList]; exact hc
      have bnd := foldC_bounds _ _ _ hf
      have lt := List.length_take_le i z.cps.toList
      have s00 : szR [[]] = 0 := rfl
      have l00 : ([[]] : List (List PyData)).length = 1 := rfl
      have w00 : Str.empty.length = 0 := rfl
      have ne := foldC_ne _ _ _ hf (by simp)
      have ne1 := delR_ne (c := c) (s := (st, wd)) ne
      have b1 : szR (delR c (st, wd)).1 + (delR c (st, wd)).2.length ≤ szR st + wd.length + 1 ∧ (delR c (st, wd)).1.length ≤ st.length := delR_bounds c (st, wd)
      have ne2 := opensR_ne (c := c) ne1
      have b2 := opensR_bounds c (delR c (st, wd)).1
      simp only at bnd
      unfold gName
      -- a word ends
      refine q_cut (M := fun σ' H' => σ' = [some (.str t), some (.ref rl), some (.str (delR c (st, wd)).2), some (.str ⟨#[c]⟩), o4] ∧ StkAt K H H' rl (delR c (st, wd)).1) ?_ ?_
      · refine s_when (σ := [some (.str t), some (.ref rl), some (.str wd), some (.str ⟨#[c]⟩), o4]) (b := isDel c && !(tl wd).isEmpty) (et_is (et_and (et_test (ev_op (ev_var rfl) ev_c fun H1 e Q k => ⟨c, delS, rfl, rfl, k H1 (Ex.refl _)⟩)) fun _ => et_test (ev_op (ev_var rfl) ev_c (rv_ne rfl))) ?_) (fun cc H7 e7 => ?_) fun cc H7 e7 => ?_
        · rw [del_in]
          congr 2
          rw [Bool.eq_iff_iff, decide_eq_true_eq]
          constructor
          · intro q
            injection q with q
            rw [q]
            rfl
          · intro q
            have q : tl wd = [] := by simpa using q
            rw [show wd = "" from ext_tl (by rw [q]; rfl)]
        · rw [delR_eq, if_pos cc]
          have S7 := S.mono e7
          cases st with
          | nil => exact absurd rfl ne
          | cons r st =>
            obtain ⟨a, as, vs, h7, ha, qv, nv, la, nar, fa, app, pop⟩ := S7.top
            have lv := qv.len
            have lr := szDs_len r
            rw [szR_cons] at bnd
            refine ⟨_, rfl, _, rfl, rl, _, -1, .ref a, rfl, rfl, sq_of h7, atI_last _ _, .inl ⟨rfl, vs, sq_of ha⟩, _, rfl, a, vs, _, rfl, rfl, ha, sz_lt (by omega), ?_⟩
            exact ⟨rfl, app (Ex.refl _) (.str wd) rfl⟩
        · rw [delR_eq, if_neg (by rw [cc]; decide)]
          exact ⟨rfl, S.mono e7⟩
      rintro σ' H7 ⟨rfl, S7⟩
      -- a row begins
      refine q_cut (M := fun σ' H' => σ' = [some (.str t), some (.ref rl), some (.str (delR c (st, wd)).2), some (.str ⟨#[c]⟩), o4] ∧ StkAt K H H' rl (opensR c (delR c (st, wd)).1)) ?_ ?_
      · refine s_when (b := decide (c = 40)) (et_is (et_test (ev_op (ev_var rfl) ev_c (rv_eq rfl))) (sgn_is tl_lp)) (fun cc H8 e8 => ?_) fun cc H8 e8 => ?_
        · have S8 := S7.mono e8
          obtain ⟨as, h8, r8⟩ := S8.rows
          have l8 := r8.len
          unfold opensR
          rw [if_pos (of_decide_eq_true cc)]
          refine ⟨_, rfl, .inl ⟨rfl, _, sq_of h8⟩, (by show 0 ≤ sizeLine; decide), fun l hl => ?_⟩
          have hr9 := Ex.new (o := .lst []) hl _ _ h8
          refine ⟨rl, _, _, rfl, rfl, hr9, sz_lt (by rw [List.length_map, List.length_reverse]; omega), rfl, ?_⟩
          exact S8.push hl (Ex.new hl) upd_same .nil rfl hr9
        · unfold opensR
          rw [if_neg (of_decide_eq_false cc)]
          exact ⟨rfl, S7.mono e8⟩
      rintro σ' H8 ⟨rfl, S8⟩
      -- a row ends
      refine q_cut (M := fun σ' H' => ∃ (o4 : Option V) (st3 : List (List PyData)), σ' = [some (.str t), some (.ref rl), some (.str (delR c (st, wd)).2), some (.str ⟨#[c]⟩), o4] ∧ StkAt K H H' rl st3 ∧ (c = 41 → closeN 1 (opensR c (delR c (st, wd)).1) = some st3) ∧ (c ≠ 41 → st3 = opensR c (delR c (st, wd)).1)) ?_ ?_
      · refine s_when (b := decide (c = 41)) (et_is (et_test (ev_op (ev_var rfl) ev_c (rv_eq rfl))) (sgn_is tl_rp)) (fun cc H9 e9 => ?_) fun cc H9 e9 => ⟨o4, _, rfl, S8.mono e9, fun z => absurd z (of_decide_eq_false cc), fun _ => rfl⟩
        have c41 := of_decide_eq_true cc
        have S9 := S8.mono e9
        obtain ⟨as, h9, r9⟩ := S9.rows
        have l9 := r9.len
        have b3 : szR (opensR c (delR c (st, wd)).1) ≤ 30000 := by omega
        have l3 : (opensR c (delR c (st, wd)).1).length ≤ 30000 := by omega
        have st2 : closeN 1 (opensR c (delR c (st, wd)).1) = none → stepC c (st, wd) = none := fun h => by
          unfold stepC
          rw [if_pos c41, h]
          rfl
        generalize opensR c (delR c (st, wd)).1 = s2 at S9 ne2 l9 r9 b3 l3 st2
        refine q_when (b := decide (s2.length < 2)) (et_is (et_test (ev_op (ev_len (ev_var rfl) (sq_of h9)) ev_c rv_I0)) ?_) (fun c2 H10 e10 => ?_) fun c2 H10 e10 => ?_
        · rw [List.length_map, List.length_reverse, l9, decide_eq_decide]
          omega
        · have z1 : closeN 1 s2 = none := by
            match s2, ne2, of_decide_eq_true c2 with
            | [], n, _ => exact absurd rfl n
            | [_], _, _ => rfl
            | _ :: _ :: _, _, h =>
              simp only [List.length_cons] at h
              omega
          have z2 : readT t = .none := by
            rw [rdE, foldC_none hf hc2 (st2 z1)]
            rfl
          refine s_ret ev_c fun H11 e11 => k .non H11 ((S9.ex.trans e10).trans e11) ?_
          rw [z2]
          exact .non
        · obtain ⟨top, r, sr, rfl⟩ : ∃ top r sr, s2 = top :: r :: sr := by
            match s2, ne2, of_decide_eq_false c2 with
            | [], n, _ => exact absurd rfl n
            | [_], _, n => exact absurd (Nat.lt_succ_self 1) n
            | a :: b :: c, _, _ => exact ⟨a, b, c, rfl⟩
          have S10 := S9.mono e10
          obtain ⟨a, as9, vs, h10, ha, qv, nv, la, nar, fa, app, pop⟩ := S10.top
          have lv := qv.len
          have lr := szDs_len top
          have lr2 := szDs_len r
          rw [szR_cons, szR_cons] at b3
          refine ⟨_, rfl, .inl ⟨rfl, _, sq_of h10⟩, rl, _, .ref a, rfl, rfl, h10, by simp, ?_⟩
          rw [List.dropLast_concat]
          have ha10 : upd H10 rl (.lst (as9.reverse.map V.ref)) a = some (.lst vs) := (upd_ne nar).trans ha
          have k10 : NL H10 (upd H10 rl (.lst (as9.reverse.map V.ref))) := NL.upd h10
          have q10 := qv.nl k10 nv
          generalize upd H10 rl (.lst (as9.reverse.map V.ref)) = H11 at pop ha10 q10
          obtain ⟨b, as11, us, h11, hb, qu, nu, lb, nbr, fb, app11, _⟩ := pop.top
          have lu := qu.len
          refine ⟨_, rfl, _, rfl, rl, _, -1, .ref b, rfl, rfl, sq_of h11, atI_last _ _, .inl ⟨rfl, us, sq_of hb⟩, _, rfl, a, vs, rfl, .inl ⟨sq_of ha10, fun tp htp => ?_⟩⟩
          have e12 := Ex.new (o := .tup vs) htp
          have d12 : Dq K (upd H11 tp (.tup vs)) (.ref tp) (.tuple top) := .tup (SqT.of upd_same) (q10.ex e12)
          refine ⟨b, us, .ref tp, rfl, rfl, e12 _ _ hb, sz_lt (by omega), ?_⟩
          exact ⟨some (.ref a), (r ++ [.tuple top]) :: sr, rfl, app11 e12 d12 (by rw [noL]; exact nv), fun _ => rfl, fun n => absurd c41 n⟩
      rintro σ' H9 ⟨o4', st3, rfl, S9, y1, y2⟩
      have lw : (delR c (st, wd)).2.length ≤ 30000 := by omega
      refine s_when (b := !isDel c) (et_is (et_test (ev_op (ev_var rfl) ev_c fun H1 e Q k => ⟨c, delS, rfl, rfl, k H1 (Ex.refl _)⟩)) (by rw [del_in])) (fun cc H10 e10 => ?_) fun cc H10 e10 => ?_
      · have dc : isDel c = false := by simpa using cc
        have n41 := (del_no dc).2.2
        refine s_asg (v := .str ((delR c (st, wd)).2 ++ ⟨#[c]⟩)) (ev_cat (ev_var rfl) (ev_var rfl) (by show _ + 1 ≤ _; omega)) fun H11 e11 => ⟨_, o4', st3, _, rfl, S9.mono (e10.trans e11), ?_⟩
        rw [foldC_take hf hc2]
        unfold stepC
        rw [if_neg n41, dc, y2 n41]
        rfl
      · have dc : isDel c = true := by simpa using cc
        refine ⟨_, o4', st3, _, rfl, S9.mono e10, ?_⟩
        rw [foldC_take hf hc2]
        unfold stepC
        by_cases c41 : c = 41
        · rw [if_pos c41, y1 c41]
          rfl
        · rw [if_neg c41, dc, y2 c41]
          rfl
    · rintro σ H4 ⟨o3, o4, st, wd, rfl, S, hf⟩
      rw [show z.cps.size = z.cps.toList.length by simp, List.take_length] at hf
      rw [hf] at rdE
      have ne := foldC_ne _ _ _ hf (by simp)
      dsimp only
      refine last_ret rfl S ne fun v H5 e5 qv => k v H5 (S.ex.trans e5) ?_
      rw [rdE]
      exact qv
end
end KW
namespace L2
open PySem PySem.Spec PyProof.Rows
/-! ### in a try: World(.., more=..), o.m(..), and the field of what was caught -/
section
variable {X : Cx} {CX : CXT} {k n : Nat} {f C : Addr} {fd : FuncData} {ps ks : List Str} {sp : Sp} {Ez : St → XK} {x m : Str} {p pos apos : Pos} {e o : Expr} {es : List Expr} {kws : List Keyword} {t tk : TA} {ta te : TE} {g : List Value → List Value → List Value} {gV : List V → List V → List V}
def tMakeT (C : Addr) (n m : Nat) (sp : Sp) (gV : List V → List V → List V) (Ez : St → XK) (t tk : TA) : TE := fun σ H Q => t σ H fun vs H1 => tk σ H1 fun zs H2 => vs.length = n ∧ zs.length = m ∧ ∀ q dq, H2 q = none → H2 dq = none → dq ≠ q →
  sp (gV (.ref q :: vs) zs) (upd (upd H2 dq (.own q)) q (.ins C dq [])) (fun v H3 => v = .non ∧ Q (.ref q) H3) (Ez σ)
theorem run_makeT {pins : List (Addr × Obj)} {σ : St} {H : Hp} {s : Shared} {Q : VK} {us ws : List Value} {vs zs : List V} (Mc : Mk X.K C f) (Fi : FnOk X.prog X.w X.K X.mg X.base CX k f fd ps sp) (room : Room (k + 1) X.A) (bi : KBn X.K fd ps (n + 1) ks g gV) (out : PassesAt CX X σ (Ez σ))
    (I : Inv X pins σ H s) (rv : Vals vs us) (rz : Vals zs ws) (lv : vs.length = n) (lz : zs.length = ks.length)
    (h : ∀ q dq, H q = none → H dq = none → dq ≠ q → sp (gV (.ref q :: vs) zs) (upd (upd H dq (.own q)) q (.ins C dq [])) (fun v H2 => v = .non ∧ Q (.ref q) H2) (Ez σ)) :
    wpAny (model X.prog X.w) X.A (call (.ref C) us (ks.zip ws)) (EP X pins σ Q) X.xe s := by
  have met := h (s.heap.objs.size + 1) s.heap.objs.size (I.hok.fresh (Nat.le_succ _)) (I.hok.fresh (Nat.le_refl _)) (Nat.ne_of_lt (Nat.lt_succ_self _))
  have J := Inv.made (C := C) I
  have rs : Vals (V.ref (s.heap.objs.size + 1) :: vs) (Value.ref (s.heap.objs.size + 1) :: us) := .cons rfl rv
  have many : (Value.ref (s.heap.objs.size + 1) :: us).length = n + 1 := by
    rw [List.length_cons, ← rv.length, lv]
  refine wpAny_call (make_map (f := f) I.kIn Mc.makes Mc.init (beq_iff_eq.mp Mc.fn) (codeAny_mono (Fi.run _ X.stack _ _ ⟨Value.ref (s.heap.objs.size + 1) :: us, ks.zip ws⟩ (g (Value.ref (s.heap.objs.size + 1) :: us) ws) _ _ (Ez σ) (room.make C us (ks.zip ws))
    (J.env0.make C us (ks.zip ws)) (bi.to _ (Value.ref (s.heap.objs.size + 1) :: us) ws J.kIn many (rz.length.symm.trans lz)) (bi.rel rs rz) met) fun r s' got => ?_))
  match r, got with
  | .error er, got => exact out pins _ _ er s' J got
  | .ok (.ret u), got =>
    obtain ⟨v, H', J3, ru, ev, q3⟩ := J.after got
    subst ev
    exact ⟨ru, ⟨V.ref (s.heap.objs.size + 1), H', J3, rfl, q3⟩⟩
theorem pe_makeT (Mc : Mk X.K C f) (Fi : FnOk X.prog X.w X.K X.mg X.base CX k f fd ps sp) (room : Room (k + 1) X.A) (gl : Gl X x) (at_ : X.mg x = some (.ref C)) (bi : KBn X.K fd ps (n + 1) ks g gV) (out : ∀ σ, PassesAt CX X σ (Ez σ)) (ha : PA X (e :: es) t) (hk : PK X kws tk)
    (named : (backToKw pos (keywordEach kws X.env)).all (·.1.isSome) = true := by rfl) (names : (backToKw pos (keywordEach kws X.env)).filterMap (·.1) = ks := by rfl) (nd : (x == ("__debug__" : Str)) = false := by decide)
    (first : starEach (e :: es) X.env = (false, eval e X.env) :: starEach es X.env := by rfl) (plain : ((backTo pos (starEach (e :: es) X.env)).any (·.1) || (backToKw pos (keywordEach kws X.env)).any (·.1.isNone)) = false := by rfl) :
    PE X (.Call (.Name x p) (e :: es) kws pos) (tMakeT C n ks.length sp gV Ez t tk) := by
  refine ⟨fun pins s σ H Q I h => wpAny_Call_Name_kw (ld_glob I gl at_ ?_ nd)⟩
  refine PySem.W.callWith_KW (h₀ := X.base) I.ok.mod.kin Mc.kp named (thn (ha.run pos pins s σ H _ I h) fun us s1 ⟨vs, H1, I1, r, q⟩ => thn (hk.run pos pins s1 σ H1 _ I1 q) fun ws s2 ⟨zs, H2, I2, rz, l1, l2, q2⟩ => ⟨I2.kIn, ?_⟩) plain first
  rw [names]
  exact run_makeT Mc Fi room bi (out σ) I2 r rz l1 l2 q2
/-- o.m(e, ..), what it raises by the slots -/
def tMethT (C : Addr) (m : Str) (sp : Sp) (Ez : St → XK) (ta : TE) (t : TA) : TE := fun σ H Q => ta σ H fun y H1 => ∃ a dx fs, y = .ref a ∧ H1 a = some (.ins C dx fs) ∧ fs.lookup m = none ∧ t σ H1 fun vs H2 => sp (.ref a :: vs) H2 Q (Ez σ)
theorem pe_methT {pl : Sem Bool} (ho : PE X o ta) (c : Cls X.K C) (hm : Meth X.K C m f) (Fi : FnOk X.prog X.w X.K X.mg X.base CX k f fd ps sp) (room : Room k X.A) (bi : Binds X.K fd ps []) (out : ∀ σ, PassesAt CX X σ (Ez σ)) (ha : PA X (e :: es) t)
    (first : starEach (e :: es) X.env = (false, eval e X.env) :: starEach es X.env := by rfl) (plain : (backTo pos (starEach es X.env)).any (·.1) = false := by rfl)
    (text : eval (.Call (.Attribute o m apos) (e :: es) [] pos) X.env = (do
      let ov ← eval o X.env; standAt apos.atName; let (f, first) ← holding [ov] (getMethod ov m pl); callWith pos f first (backTo pos (starEach (e :: es) X.env)) (backToKw pos (keywordEach [] X.env))) := by rfl) :
    PE X (.Call (.Attribute o m apos) (e :: es) [] pos) (tMethT C m sp Ez ta t) := by
  refine ⟨fun pins s σ H Q I h => PySem.W.methodCall_KW (pl := pl) (thn (ho.run pins s σ H _ I h) fun u s1 ⟨y, H1, I1, ry, a, dx, fs, ey, ea, l, q⟩ => ?_) text⟩
  subst ey
  cases (show u = Value.ref a from ry)
  refine getmeth_ok I1 ea c hm l (PySem.W.callWith_K (first := [.ref a]) (h₀ := X.base) I.ok.mod.kin hm.kp (thn (ha.run pos pins s1 σ H1 _ I1 q) fun us s2 ⟨vs, H2, I2, r, q2⟩ => ⟨I2.kIn, ?_⟩) first plain)
  exact run_fnS (us := .ref a :: us) (vs := .ref a :: vs) Fi room bi (out σ) I2 (.cons rfl r) q2
/-- e.n, e the error that the suite holds -/
def tCaught (C : Addr) (a : Addr) (cls : Value) (d : Option Addr) (n : Str) (te : TE) : TE := fun σ H Q => te σ H fun y H1 => y = .ref a ∧ cls = .ref C ∧ ∃ (dd : Addr) (fs : List (Str × V)) (v : V), d = some dd ∧ H1 dd = some (.xd fs) ∧ fs.lookup n = some v ∧ Q v H1
theorem pe_caught {a : Addr} {oe : Obj} {cls : Value} {d : Option Addr} {pn : List (Addr × Obj)} {fl : Str} (T : XfC X.K C) (no : PySem.W.findIn X.K (.ref C) fl = some none) (hz : Zc cls d oe) (hf : ∃ vs, oe.data = .fields vs) (he : PE (X.suite a ((a, oe) :: pn)) e te)
    (hb : attributeBase e fl X.env (eval e X.env) = eval e X.env := by rfl) : PE (X.suite a ((a, oe) :: pn)) (.Attribute e fl pos) (tCaught C a cls d fl te) := by
  refine ⟨fun pins s σ H Q I h => attr_of hb (thn (he.run pins s σ H _ I h) fun u s1 hh => ?_)⟩
  obtain ⟨y, H1, I1, ry, ey, ec, dd, fs, v, ed, ea, l, q⟩ := hh
  subst ey ec ed
  cases (show u = Value.ref a from ry)
  have pin := (I1.pin (a, oe) (List.mem_append_left _ List.mem_cons_self)).1
  obtain ⟨vs, flds⟩ := hf
  obtain ⟨mA, hns, hr⟩ := (show ObjOk X.prog X.w H1 s1.heap dd (.xd fs) from I1.hok dd _ ea)
  obtain ⟨od, hod, hl⟩ := lookIn_ns hns
  obtain ⟨u, hu, ru⟩ := RelO.some_of (v := v) (o := mA fl) (by rw [← l]; exact hr fl)
  have inst : PySem.W.InstAt s1.heap a oe C (some od) := ⟨pin, hz.1, by unfold PySem.W.notCls; rw [flds] <;> rfl, by rw [hz.2]; exact hod⟩
  exact HandSPX.exc_get I1.kIn inst T.ga T.gg T.exC (PySem.W.findObj_own T.hdC no rfl (by rw [hl, hu])) (handed_of ru) ⟨v, H1, I1.tok _, ru, q⟩
end
end L2
namespace KW
open PySem PySem.Spec PyProof.Rows L2 Evl TL PySem.Builtin PySem.Builtin.Str
/-- what is known of catching an error class -/
structure CE (K : PySem.W.Frag) (mg : Str → Option Value) (x : Str) (C : Addr) : Prop where
  X : XfC K C
  te : PySem.W.exmOne K (.ref C) (.ref C) = some true
  no : PySem.W.findIn K (.ref C) "value" = some none
  g : mg x = some (.ref C)
/-! ### what the law reads is in bounds -/
mutual
def okR : PyData → Bool
  | .str x => decide (x.length ≤ 640) && (PyData.strOk x && decide ((tl x).countP isDig ≤ 570))
  | .none => true
  | .tuple ds => okRs ds
  | _ => false
def okRs : List PyData → Bool
  | [] => true
  | d :: ds => okR d && okRs ds
end
theorem okRs_mem : ∀ {ds : List PyData}, okRs ds = true ↔ ∀ d ∈ ds, okR d = true
  | [] => by simp [okRs]
  | d :: ds => by rw [okRs, Bool.and_eq_true, okRs_mem]; simp
theorem okR_ok : ∀ d : PyData, okR d = true → okT d = true := by
  intro d
  have key : ∀ (k : Nat) (d : PyData), szD d ≤ k → okR d = true → okT d = true := by
    intro k
    induction k with
    | zero => intro d h; have := szD_pos d; omega
    | succ k ih =>
      intro d hz h
      cases d with
      | tuple ds =>
        rw [okR] at h
        rw [okT]
        rw [szD] at hz
        exact okTs_mem.mpr fun e m => ih e (by have := szDs_mem m; omega) (okRs_mem.mp h e m)
      | str x =>
        rw [okR, Bool.and_eq_true, Bool.and_eq_true] at h
        rw [okT, Bool.and_eq_true]
        exact ⟨h.1, h.2.1⟩
      | none => rfl
      | list _ => rw [okR] at h; cases h; all_goals (intros; contradiction)
      | dict _ => rw [okR] at h; cases h; all_goals (intros; contradiction)
      | int _ => rw [okR] at h; cases h; all_goals (intros; contradiction)
      | bool _ => rw [okR] at h; cases h; all_goals (intros; contradiction)
  exact key _ d (Nat.le_refl _)
theorem numOf_some {ds : List PyData} {n : Int} (h : numOf? ds = some n) : ∃ w, ds = [.str star, .str w] ∧ isDigits w = true ∧ n = ((NumText.digitsVal (tl w) : Nat) : Int) := by
  unfold numOf? at h
  split at h
  · rename_i a w
    split at h
    · rename_i c
      rw [Bool.and_eq_true, decide_eq_true_eq] at c
      exact ⟨w, by rw [c.1], c.2, (Option.some.inj h).symm⟩
    · cases h
  · cases h
theorem okR_numb : ∀ (d : PyData), okR d = true → okT (numbD d) = true ∧ szD (numbD d) ≤ szD d ∧ hgt (numbD d) ≤ hgt d := by
  intro d
  have key : ∀ (k : Nat) (d : PyData), szD d ≤ k → okR d = true → okT (numbD d) = true ∧ szD (numbD d) ≤ szD d ∧ hgt (numbD d) ≤ hgt d := by
    intro k
    induction k with
    | zero => intro d h; have := szD_pos d; omega
    | succ k ih =>
      intro d hz h
      cases d with
      | tuple ds =>
        rw [numbD]
        split
        · rename_i n hn
          obtain ⟨w, rfl, hw, rfl⟩ := numOf_some hn
          rw [okR, okRs, okRs, okRs, okR, okR] at h
          simp only [Bool.and_eq_true, decide_eq_true_eq] at h
          unfold isDigits at hw
          rw [Bool.and_eq_true] at hw
          have ne : tl w ≠ [] := by simpa using hw.1
          have s1 := num_short (all_dig hw.2) ne
          have s2 : (tl w).countP isDig = (tl w).length := List.countP_eq_length.mpr fun c m => List.all_eq_true.mp hw.2 c m
          refine ⟨?_, ?_, ?_⟩
          · rw [okT, okTs, okTs, okTs, okT, okT, decide_eq_true h.1.1, h.1.2.1, decide_eq_true (Int.natCast_nonneg _), Int.toNat_natCast, decide_eq_true (by omega)]
            rfl
          · rw [szD, szD, szDs, szDs, szDs, szDs, szDs, szDs, szD, szD, szD, Int.toNat_natCast, len_tl w]
            omega
          · exact Nat.le_refl _
        · rw [okR] at h
          rw [szD] at hz
          have all : ∀ e ∈ ds, okT (numbD e) = true ∧ szD (numbD e) ≤ szD e ∧ hgt (numbD e) ≤ hgt e := fun e m => ih e (by have := szDs_mem m; omega) (okRs_mem.mp h e m)
          rw [numbDs_map]
          refine ⟨?_, ?_, ?_⟩
          · rw [okT]
            refine okTs_mem.mpr fun e m => ?_
            obtain ⟨c, hc, rfl⟩ := List.mem_map.mp m
            exact (all c hc).1
          · have gen : ∀ F : List PyData, (∀ e ∈ F, szD (numbD e) ≤ szD e) → szDs (F.map numbD) ≤ szDs F := by
              intro F
              induction F with
              | nil => intro _; exact Nat.le_refl _
              | cons a F ihF =>
                intro hF
                have := hF a (List.mem_cons_self ..)
                have := ihF fun e m => hF e (List.mem_cons_of_mem _ m)
                rw [List.map_cons, szDs, szDs]
                omega
            have := gen ds fun e m => (all e m).2.1
            rw [szD, szD]
            omega
          · rw [hgt, hgt]
            have : hgts (ds.map numbD) ≤ hgts ds := hgts_le fun e m => by
              obtain ⟨c, hc, rfl⟩ := List.mem_map.mp m
              exact Nat.le_trans (all c hc).2.2 (hgt_mem hc)
            omega
      | str x => rw [numbD_str]; exact ⟨okR_ok _ h, Nat.le_refl _, Nat.le_refl _⟩
      | none => rw [numbD]; exact ⟨rfl, Nat.le_refl _, Nat.le_refl _⟩; all_goals (intros; contradiction)
      | list _ => rw [okR] at h; cases h; all_goals (intros; contradiction)
      | dict _ => rw [okR] at h; cases h; all_goals (intros; contradiction)
      | int _ => rw [okR] at h; cases h; all_goals (intros; contradiction)
      | bool _ => rw [okR] at h; cases h; all_goals (intros; contradiction)
  exact key _ d (Nat.le_refl _)
/-- a state of reading whose things are in bounds -/
structure RdOk (l : List Nat) (s : RdSt) : Prop where
  all : ∀ r ∈ s.1, ∀ d ∈ r, okR d = true
  ch : ∀ c ∈ tl s.2, c < 0x110000
  len : s.2.length + l.length ≤ 641
  dig : (tl s.2).countP isDig + l.countP isDig ≤ 570
theorem rdok_step {c : Nat} {l : List Nat} {s s' : RdSt} (h : RdOk (c :: l) s) (hc : c < 0x110000) (e : stepC c s = some s') : RdOk l s' := by
  have hl := h.len
  have hd := h.dig
  rw [List.length_cons] at hl
  have cd : (c :: l).countP isDig = l.countP isDig + (if isDig c then 1 else 0) := by rw [List.countP_cons]
  rw [cd] at hd
  have d1 : ∀ r ∈ (delR c s).1, ∀ d ∈ r, okR d = true := by
    rw [delR_eq]
    split
    · intro r mr d md
      obtain ⟨st, w⟩ := s
      cases st with
      | nil => cases mr
      | cons q st =>
        rcases List.mem_cons.mp mr with rfl | mr
        · rcases List.mem_append.mp md with md | md
          · exact h.all q (by simp) d md
          · rw [List.mem_singleton.mp md, okR, decide_eq_true (by show w.length ≤ 640; have : w.length + (l.length + 1) ≤ 641 := hl; omega), strOk_tl.mpr h.ch, decide_eq_true (by show (tl w).countP isDig ≤ 570; have : (tl w).countP isDig + _ ≤ 570 := hd; omega)]
            rfl
        · exact h.all r (by simp [mr]) d md
    · exact h.all
  have d2 : ∀ r ∈ opensR c (delR c s).1, ∀ d ∈ r, okR d = true := by
    unfold opensR
    split
    · intro r mr d md
      rcases List.mem_cons.mp mr with rfl | mr
      · cases md
      · exact d1 r mr d md
    · exact d1
  have w1 : (∀ x ∈ tl (delR c s).2, x < 0x110000) ∧ (delR c s).2.length ≤ s.2.length ∧ (tl (delR c s).2).countP isDig ≤ (tl s.2).countP isDig := by
    rw [delR_eq]
    split
    · exact ⟨fun x m => (nomatch m), Nat.zero_le _, Nat.zero_le _⟩
    · exact ⟨h.ch, Nat.le_refl _, Nat.le_refl _⟩
  unfold stepC at e
  split at e
  · cases hc : closeN 1 (opensR c (delR c s).1) with
    | none => rw [hc] at e; cases e
    | some st =>
      rw [hc] at e
      cases e
      exact ⟨closeN_all (P := fun d => okR d = true) (fun ds hd => by rw [okR]; exact okRs_mem.mpr hd) _ _ _ d2 hc, w1.1, by show (delR c s).2.length + _ ≤ _; omega, by show (tl (delR c s).2).countP isDig + _ ≤ _; omega⟩
  · cases e
    split
    · exact ⟨d2, w1.1, by show (delR c s).2.length + _ ≤ _; omega, by show (tl (delR c s).2).countP isDig + _ ≤ _; omega⟩
    · refine ⟨d2, fun x m => ?_, by show ((delR c s).2 ++ _).length + _ ≤ _; rw [sign_len]; omega, ?_⟩
      · have m : x ∈ tl ((delR c s).2 ++ ⟨#[c]⟩) := m
        rw [tl_append] at m
        rcases List.mem_append.mp m with m | m
        · exact w1.1 x m
        · have m : x ∈ [c] := m
          rw [List.mem_singleton.mp m]
          exact hc
      · show (tl ((delR c s).2 ++ ⟨#[c]⟩)).countP isDig + _ ≤ _
        rw [tl_append, List.countP_append]
        have e1 : (tl (⟨#[c]⟩ : Str)).countP isDig = (if isDig c then 1 else 0) := by
          show [c].countP isDig = _
          rw [List.countP_cons, List.countP_nil]
          simp
        rw [e1]
        omega
theorem rdok_fold : ∀ (l : List Nat) (s s' : RdSt), RdOk l s → (∀ c ∈ l, c < 0x110000) → foldC l s = some s' → RdOk [] s'
  | [], s, s', h, _, e => by
    cases e
    exact h
  | c :: l, s, s', h, hc, e => by
    rw [foldC] at e
    cases hs : stepC c s with
    | none => rw [hs] at e; cases e
    | some s1 =>
      rw [hs] at e
      exact rdok_fold l s1 s' (rdok_step h (hc c (List.mem_cons_self ..)) hs) (fun d m => hc d (List.mem_cons_of_mem _ m)) e
theorem read_ok {t : Str} (h : TextOk t) : okR (readT t) = true := by
  unfold readT lastR
  split
  · rename_i s e
    have r := rdok_fold _ _ _ (⟨fun r mr d md => ?_, fun c m => (nomatch m), ?_, ?_⟩ : RdOk (tl t ++ [32]) ([[]], Str.empty)) (fun c m => ?_) e
    · exact last_all (P := fun d => okR d = true) rfl fun st he => by
        cases he
        exact r.all
    · rw [List.mem_singleton.mp mr] at md
      cases md
    · rw [List.length_append, ← len_tl]
      have := h.len
      show 0 + (t.length + 1) ≤ 641
      omega
    · rw [List.countP_append]
      have := h.dig
      show 0 + ((tl t).countP isDig + 0) ≤ 570
      omega
    · rcases List.mem_append.mp m with m | m
      · exact strOk_tl.mp h.ok c m
      · rw [List.mem_singleton.mp m]
        decide
  · rfl
theorem read_sz (t : Str) : szD (readT t) ≤ 2 * t.length + 3 := by
  unfold readT lastR
  split
  · rename_i s e
    have b := (foldC_bounds _ _ _ e).1
    rw [List.length_append, ← len_tl] at b
    unfold lastOf
    split
    · rename_i d he
      have he : s.1 = [[d]] := Option.some.inj he
      rw [he] at b
      have e1 : szR [[d]] = szD d + 0 + 0 := rfl
      have e2 : szR [[]] = 0 := rfl
      have e3 : Str.empty.length = 0 := rfl
      have e4 : [32].length = 1 := rfl
      simp only at b
      omega
    · show 1 ≤ _
      omega
  · show 1 ≤ _
    omega
theorem stepC_dep {c k : Nat} {s s' : RdSt} (h : depB k s.1) (l : s.1.length ≤ k + 1) (e : stepC c s = some s') : depB (k + if c = 40 then 1 else 0) s'.1 ∧ s'.1.length ≤ k + (if c = 40 then 1 else 0) + 1 := by
  have d1 : depB k (delR c s).1 ∧ (delR c s).1.length ≤ k + 1 := by
    rw [delR_eq]
    split
    · obtain ⟨st, w⟩ := s
      cases st with
      | nil => exact ⟨trivial, Nat.zero_le _⟩
      | cons r st =>
        have l : st.length + 1 ≤ k + 1 := l
        refine ⟨⟨fun d m => ?_, h.2⟩, by show st.length + 1 ≤ _; omega⟩
        rcases List.mem_append.mp m with m | m
        · exact h.1 d m
        · rw [List.mem_singleton.mp m]
          show 0 + _ ≤ _
          omega
    · exact ⟨h, l⟩
  have d2 : depB (k + if c = 40 then 1 else 0) (opensR c (delR c s).1) ∧ (opensR c (delR c s).1).length ≤ k + (if c = 40 then 1 else 0) + 1 := by
    unfold opensR
    split
    · exact ⟨⟨fun d m => (nomatch m), depB_mono (by omega) d1.1⟩, by rw [List.length_cons]; omega⟩
    · exact ⟨depB_mono (by omega) d1.1, by omega⟩
  unfold stepC at e
  split at e
  · cases hc : closeN 1 (opensR c (delR c s).1) with
    | none => rw [hc] at e; cases e
    | some st =>
      rw [hc] at e
      cases e
      exact closeN_dep _ _ _ d2.1 d2.2 hc
  · cases e
    exact d2
theorem foldC_dep : ∀ (l : List Nat) (k : Nat) (s s' : RdSt), depB k s.1 → s.1.length ≤ k + 1 → foldC l s = some s' → depB (k + l.countP fun c => decide (c = 40)) s'.1
  | [], k, s, s', h, _, e => by
    cases e
    exact h
  | c :: l, k, s, s', h, hl, e => by
    rw [foldC] at e
    cases hs : stepC c s with
    | none => rw [hs] at e; cases e
    | some s1 =>
      rw [hs] at e
      obtain ⟨h1, l1⟩ := stepC_dep h hl hs
      have := foldC_dep l _ s1 s' h1 l1 e
      rw [List.countP_cons]
      refine depB_mono ?_ this
      simp only [decide_eq_true_eq]
      omega
theorem read_hgt (t : Str) : hgt (readT t) ≤ opens t := by
  unfold readT lastR
  split
  · rename_i s e
    have b := foldC_dep _ 0 _ _ (show depB 0 [[]] from ⟨(fun d m => nomatch m), trivial⟩) (Nat.le_refl _) e
    unfold lastOf
    split
    · rename_i d he
      have he : s.1 = [[d]] := Option.some.inj he
      rw [he] at b
      have := b.1 d (by simp)
      rw [List.countP_append] at this
      have e4 : [32].countP (fun c => decide (c = 40)) = 0 := rfl
      have l0 : ([] : List (List PyData)).length = 0 := rfl
      unfold opens
      omega
    · exact Nat.zero_le _
  · exact Nat.zero_le _
/-! ### _law_due -/
theorem q_set {te : TE} {i : Nat} {tz : TS} {D : Ends} {σ : L2.St} {H : Hp} (h : te σ H fun v H' => tz D (σ.set i (some v)) H') : tSeq (tAsg te (gName i)) tz D σ H := h
def wayF (wy : Nat) : Wd → PyData → Bool := if wy = 0 then isFormD else isTreeD
def spDu (K : PySem.W.Frag) : Sp := fun vs H Q _ => ∃ u W x e, ∃ wy : Nat, vs = [u, .int (wy : Int), x] ∧ Dq K H u (wD W) ∧ W.Ok ∧ wy < 2 ∧ Dq K H x e ∧ (∀ t, e = .str t → TextOk t ∧ opens t ≤ 48) ∧ (∀ v d H', Ex H H' → readG (wayF wy) W e = some d → Dq K H' v d → Q v H') ∧ (readG (wayF wy) W e = none → ∀ H', Ex H H' → Q .non H')
section
variable {P : Program} {w : World} {K : PySem.W.Frag} {mg : Str → Option Value} {base : Heap}
theorem form_not_int {W : Wd} {d : PyData} (h : isFormD W d = true) : isD "int" d = false := by
  cases d with
  | int i =>
    have h : (eqS (.int i) "_" || isNameD (.int i)) = true := h
    cases h
  | bool b =>
    have h : (eqS (.bool b) "_" || isNameD (.bool b)) = true := h
    cases h
  | _ => rfl
theorem sc_du : FnScope ["world", "way", "thing", "found", "is_right"] ["world", "way", "thing"] (defScope s_law_due) := ⟨rfl, rfl, rfl, by decide +kernel, rfl, by decide +kernel, by decide +kernel⟩
theorem ok_du {f fR fN fF fT fX : Addr} {fd fdR fdN fdF fdT fdX : FuncData} (F : Fun K "_law_due" "_law_due" s_law_due f fd) (B : Bt mg)
    (kR : PySem.W.keepIn K (.ref fR) = true) (bR : Binds K fdR ["text"] []) (gR : mg "_law_read" = some (.ref fR)) (GR : FnOk P w K mg base CX0 50 fR fdR ["text"] (spLR K))
    (kN : PySem.W.keepIn K (.ref fN) = true) (bN : Binds K fdN ["thing"] []) (gN : mg "_law_numbered" = some (.ref fN)) (GN : FnOk P w K mg base CX0 50 fN fdN ["thing"] (spLN K 50))
    (kF : PySem.W.keepIn K (.ref fF) = true) (bF : Binds K fdF ["world", "thing"] []) (gF : mg "_law_is_form" = some (.ref fF)) (GF : FnOk P w K mg base CX0 50 fF fdF ["world", "thing"] (spLF K 50))
    (kT : PySem.W.keepIn K (.ref fT) = true) (bT : Binds K fdT ["world", "thing"] []) (gT : mg "_law_is_tree" = some (.ref fT)) (GT : FnOk P w K mg base CX0 50 fT fdT ["world", "thing"] (spLT K 50))
    (kX : PySem.W.keepIn K (.ref fX) = true) (bX : Binds K fdX ["form"] []) (gX : mg "_law_text" = some (.ref fX)) (GX : FnOk P w K mg base CX0 50 fX fdX ["form"] (spLX K 50)) : FnOk P w K mg base CX0 51 f fd ["world", "way", "thing"] (spDu K) := by
  refine F.ok sc_du (fun vs H Q E h => ?_) (fun cdv A outer s H vs Q E hr h => ?_)
  · obtain ⟨u, W, x, e, wy, rfl, _⟩ := h
    rfl
  · obtain ⟨u, W, x, e, wy, rfl, qu, ok, hw, q, to, k1, k2⟩ := h
    refine ⟨_, pss_cons (ps_if (pt_not (pt_val (pe_callB call_isD (by rfl) B.isinstance boot_isinstance (pa_cons (pv 2) (pa_cons (pe_tyN "str" (by rfl) B.str boot_str) pa_nil))))) (pss_one (ps_ret pe_non)) pss_nil)
      (pss_cons (ps_set (i := 3) sc_du.nd rfl (Or.inl rfl) (pe_call GR hr (by rfl) gR kR bR .nil pass0 (pa_cons (pv 2) pa_nil)))
      (pss_cons (ps_set (i := 3) sc_du.nd rfl (Or.inl rfl) (pe_ifExp (pt_cmpR op_eq (pv 1) pe_int (nomark _)) (pe_call GN hr (by rfl) gN kN bN .nil pass0 (pa_cons (pv 3) pa_nil)) (pv 3)))
      (pss_cons (ps_set (i := 4) sc_du.nd rfl (Or.inl rfl) (pe_ifExp (pt_cmpR op_eq (pv 1) pe_int (nomark _)) (pe_call GF hr (by rfl) gF kF bF .nil pass0 (pa_cons (pv 0) (pa_cons (pv 3) pa_nil))) (pe_call GT hr (by rfl) gT kT bT .nil pass0 (pa_cons (pv 0) (pa_cons (pv 3) pa_nil)))))
      (pss_one (ps_ret (pe_ifExp (PW.pt (pw_and (pt_val (pv 4)) (pw_and1 (pt_cmpR op_eq (pe_call GX hr (by rfl) gX kX bX .nil pass0 (pa_cons (pv 3) pa_nil)) (pv 2) (nomark _))))) (pv 3) pe_non)))))), ?_⟩
    refine q_when (b := !isD "str" e) (et_not (et_B (ev_isD (ev_var rfl) q))) (fun hs H1 e1 => ?_) fun hs H1 e1 => ?_
    · have hs : isD "str" e = false := by simpa using hs
      have rn : readG (wayF wy) W e = none := by cases e <;> first | rfl | cases hs
      exact s_ret ev_c fun H2 e2 => k2 rn H2 (e1.trans e2)
    · obtain ⟨t, rfl, rfl⟩ := dq_str q (by simpa using hs)
      obtain ⟨tk, op⟩ := to t rfl
      have rk := read_ok tk
      have rz := read_sz t
      have rh := read_hgt t
      have tl6 := tk.len
      refine q_set ?_
      refine ⟨_, rfl, t, rfl, by omega, fun v0 H2 e2 q0 => ?_⟩
      refine q_set ?_
      -- found
      let dd : PyData := if wy = 1 then numbD (readT t) else readT t
      have hdd : okT dd = true ∧ szD dd ≤ 1283 ∧ hgt dd ≤ 48 := by
        show okT (if wy = 1 then numbD (readT t) else readT t) = true ∧ szD (if wy = 1 then numbD (readT t) else readT t) ≤ 1283 ∧ hgt (if wy = 1 then numbD (readT t) else readT t) ≤ 48
        split
        · obtain ⟨a, b, c⟩ := okR_numb _ rk
          exact ⟨a, by omega, by omega⟩
        · exact ⟨okR_ok _ rk, by omega, by omega⟩
      have same : readG (wayF wy) W (.str t) = if wayF wy W dd && decide (textT dd = t) then some dd else none := by
        unfold wayF
        by_cases z : wy = 0
        · subst z
          have : readG isFormD W (.str t) = readF W t := rfl
          rw [if_pos rfl, this, form_same ok t]
          rfl
        · have z1 : wy = 1 := by omega
          subst z1
          have : readG isTreeD W (.str t) = readR W t := rfl
          rw [if_neg (by decide), this, tree_same ok t (ok_digs _ (told_ok tk) (by decide)) (ok_digs _ (okR_numb _ rk).1 (by decide))]
          rfl
      have fnd : ∀ (Q' : VK), (∀ v H3, Ex H2 H3 → Dq K H3 v dd → Q' v H3) → tIf (tTest (tOp rEq (tVar 1) (tC (.int 1)))) (tCall (spLN K 50) [] (fun _ _ _ => False) (tCons (tVar 3) tNil)) (tVar 3) [some u, some (.int (wy : Int)), some (.str t), some v0, none] H2 Q' := by
        intro Q' kk
        refine et_test (ev_op (ev_var rfl) ev_c (rv_eq rfl)) H2 (Ex.refl _) _ fun H3 e3 => ?_
        refine ite2 (fun c => ?_) fun c => ?_
        · have z1 : wy = 1 := by
            have := of_decide_eq_true c
            injection this with this
            omega
          refine ⟨_, rfl, v0, readT t, rfl, q0.ex e3, okR_ok _ rk, by omega, by omega, fun v H4 e4 qv => kk v H4 (e3.trans e4) ?_⟩
          show Dq K H4 v (if wy = 1 then numbD (readT t) else readT t)
          rw [if_pos z1]
          exact qv
        · have z1 : wy ≠ 1 := by
            intro z
            rw [z] at c
            exact c rfl
          refine ⟨v0, rfl, kk v0 H3 e3 ?_⟩
          show Dq K H3 v0 (if wy = 1 then numbD (readT t) else readT t)
          rw [if_neg z1]
          exact q0.ex e3
      refine fnd _ fun v H3 e3 qv => ?_
      obtain ⟨od, zd, hd⟩ := hdd
      generalize dd = d at od zd hd same qv
      have fit := ok_fit d od (by omega)
      have e03 := e1.trans (e2.trans e3)
      refine q_asg (v := .bl (wayF wy W d)) (σ := [some u, some (.int (wy : Int)), some (.str t), some v, none]) ?_ fun H4 e4 => ?_
      · refine ev_if (b := decide (V.int (wy : Int) = .int 0)) (et_test (ev_op (ev_var rfl) ev_c (rv_eq rfl))) (fun c => ?_) fun c => ?_
        · have z1 : wy = 0 := by
            have := of_decide_eq_true c
            injection this with this
            omega
          have : wayF wy = isFormD := by unfold wayF; rw [if_pos z1]
          rw [this]
          exact ev_call (ea_cons (ev_var rfl) (ea_cons (ev_var rfl) ea_nil)) (spLF_v (qu.ex e03) ok qv fit (by omega))
        · have z1 : wy ≠ 0 := by
            intro z
            rw [z] at c
            cases c
          have : wayF wy = isTreeD := by unfold wayF; rw [if_neg z1]
          rw [this]
          exact ev_call (ea_cons (ev_var rfl) (ea_cons (ev_var rfl) ea_nil)) (spLT_v (qu.ex e03) ok qv fit (by omega))
      have tx : wayF wy W d = true → txtT d = true ∧ isD "int" d = false := by
        unfold wayF
        split
        · exact fun h => ⟨form_txt ok d h, form_not_int h⟩
        · exact fun h => ⟨tree_txt ok d h od, tree_not_int ok h⟩
      have test : EvT (tAnd (tB (tVar 4)) (tTest (tOp rEq (tCall (spLX K 50) [] (fun _ _ _ => False) (tCons (tVar 3) tNil)) (tVar 2)))) [some u, some (.int (wy : Int)), some (.str t), some v, some (.bl (wayF wy W d))] H4 (wayF wy W d && decide (textT d = t)) := by
        refine et_and (et_B (ev_var rfl)) fun c => et_is (et_test (ev_op (ev_call (ea_cons (ev_var rfl) ea_nil) (spLX_v (qv.ex e4) (tx c).1 od (by omega) (tx c).2 (by omega))) (ev_var rfl) (rv_eq rfl))) ?_
        rw [decide_eq_decide]
        exact ⟨fun h => by injection h, fun h => by rw [h]⟩
      refine test H4 (Ex.refl _) _ fun H5 e5 => ?_
      have e05 := (e03.trans e4).trans e5
      refine ite2 (fun c => ?_) fun c => ?_
      · rw [c, if_pos rfl] at same
        exact ⟨v, rfl, k1 v d H5 e05 same (qv.ex (e4.trans e5))⟩
      · rw [if_neg c] at same
        exact k2 same H5 e05
/-! ### _law_told -/
def spTd (K : PySem.W.Frag) (C : Addr) : Sp := fun vs H Q _ => ∃ a W x e, ∃ wy : Nat, vs = [.ref a, .int (wy : Int), x] ∧ WAt K C H a W ∧ W.Ok ∧ wy < 2 ∧ Dq K H x e ∧ (∀ t, e = .str t → TextOk t) ∧ (∀ v d H', Ex H H' → readG (wayF wy) W e = some d → Dq K H' v d → Q v H') ∧ (readG (wayF wy) W e = none → ∀ l H', H l = none → Ex H H' → H' l = some (.lst [x]) → Q (.ref l) H')
theorem sc_td : FnScope ["made", "way", "thing", "error"] ["made", "way", "thing"] (defScope s_law_told) := ⟨rfl, rfl, rfl, by decide +kernel, rfl, by decide +kernel, by decide +kernel⟩
theorem ok_td {C CB f fF fT : Addr} {fd fdF fdT : FuncData} (F : Fun K "_law_told" "_law_told" s_law_told f fd) (Z : CE K mg "BadText" CB)
    (kF : PySem.W.keepIn K (.ref fF) = true) (bF : Binds K fdF ["world", "text"] []) (gF : mg "read_form" = some (.ref fF)) (GF : FnOk P w K mg base (CX P w) 6 fF fdF ["world", "text"] (spRd K C CB isFormD))
    (kT : PySem.W.keepIn K (.ref fT) = true) (bT : Binds K fdT ["world", "text"] []) (gT : mg "read_tree" = some (.ref fT)) (GT : FnOk P w K mg base (CX P w) 6 fT fdT ["world", "text"] (spRd K C CB isTreeD)) : FnOk P w K mg base CX0 7 f fd ["made", "way", "thing"] (spTd K C) := by
  refine F.ok sc_td (fun vs H Q E h => ?_) (fun cdv A outer s H vs Q E hr h => ?_)
  · obtain ⟨a, W, x, e, wy, rfl, _⟩ := h
    rfl
  · obtain ⟨a, W, x, e, wy, rfl, hW, ok, hw, q, to, k1, k2⟩ := h
    refine ⟨_, pss_one (ps_try_as (i := 3) rfl rfl sc_td.nd rfl rfl ⟨rfl, by decide, .inl Z.g⟩ takes0
      (fun W pn xe tk _ => pss_one (ps_ret (pe_ifExp (pt_cmpR op_eq (pv 1) pe_int (nomark _)) (pe_callSD GF hr (by rfl) gF kF bF .nil (fun σ => passAt tk σ) (pa_cons (pv 0) (pa_cons (pv 2) pa_nil))) (pe_callSD GT hr (by rfl) gT kT bT .nil (fun σ => passAt tk σ) (pa_cons (pv 0) (pa_cons (pv 2) pa_nil))))))
      (fun a oe cls d pn hz hf => pss_one (ps_ret (pe_lst (pa_cons (pe_caught Z.X Z.no hz hf (pv 3)) pa_nil))))), ?_⟩
    refine ⟨_, rfl, rfl, _, rfl, ?_⟩
    refine ite2 (fun c => ?_) fun c => ?_
    · have z1 : wy = 0 := by
        have := of_decide_eq_true c
        injection this with this
        omega
      have wf : wayF wy = isFormD := by unfold wayF; rw [if_pos z1]
      rw [wf] at k1 k2
      refine ⟨_, rfl, _, rfl, a, W, x, e, rfl, hW, ok, q, to, fun d hd v H' ex qv => k1 v d H' ex hd qv, fun hn b H' hb ex h3 => ⟨true, Z.te, fun _ g hg => ?_, fun z => nomatch z⟩⟩
      exact ⟨_, rfl, rfl, rfl, b, _, x, rfl, h3, rfl, (by show 1 ≤ sizeLine; decide), fun l hl => k2 hn l _ (fresh_back ex hl) (ex.trans (Ex.new hl)) upd_same⟩
    · have z1 : wy ≠ 0 := by
        intro z
        rw [z] at c
        exact c rfl
      have wf : wayF wy = isTreeD := by unfold wayF; rw [if_neg z1]
      rw [wf] at k1 k2
      refine ⟨_, rfl, _, rfl, a, W, x, e, rfl, hW, ok, q, to, fun d hd v H' ex qv => k1 v d H' ex hd qv, fun hn b H' hb ex h3 => ⟨true, Z.te, fun _ g hg => ?_, fun z => nomatch z⟩⟩
      exact ⟨_, rfl, rfl, rfl, b, _, x, rfl, h3, rfl, (by show 1 ≤ sizeLine; decide), fun l hl => k2 hn l _ (fresh_back ex hl) (ex.trans (Ex.new hl)) upd_same⟩
end
end KW
namespace KW
open PySem PySem.Spec PyProof.Rows L2 Evl TL PySem.Builtin PySem.Builtin.Str
/-! ### how long drawn texts are -/
abbrev cnt (p : Nat → Bool) (t : Str) : Nat := (tl t).countP p
theorem cnt_app (p : Nat → Bool) (a b : Str) : cnt p (a ++ b) = cnt p a + cnt p b := by
  unfold cnt
  rw [tl_append, List.countP_append]
def tmax (I A B b0 : Nat) : Nat → Nat
  | 0 => b0
  | h + 1 => max I (A + 3 * (B + tmax I A B b0 h))
theorem tmax_mono {I A B b0 : Nat} (hb : b0 ≤ max I (A + 3 * (B + b0))) : ∀ h, tmax I A B b0 h ≤ tmax I A B b0 (h + 1)
  | 0 => hb
  | h + 1 => by
    have := tmax_mono hb h
    show max I (A + 3 * (B + tmax I A B b0 h)) ≤ max I (A + 3 * (B + tmax I A B b0 (h + 1)))
    omega
theorem cnt_parts {p : Nat → Bool} {B T : Nat} (hB : cnt p blS ≤ B) : ∀ ds : List PyData, (∀ d ∈ ds, cnt p (textT d) ≤ T) → cnt p (textTs ds) ≤ ds.length * (B + T)
  | [], _ => Nat.zero_le _
  | d :: ds, h => by
    have h1 := h d (List.mem_cons_self ..)
    have h2 := cnt_parts (T := T) hB ds fun e m => h e (List.mem_cons_of_mem _ m)
    rw [textTs, cnt_app, cnt_app, List.length_cons, Nat.succ_mul]
    omega
theorem cnt_node {p : Nat → Bool} {A B T : Nat} {x : Str} {ds : List PyData} (hA : cnt p lpS + cnt p x + cnt p rpS ≤ A) (hB : cnt p blS ≤ B) (hl : ds.length ≤ 3) (hd : ∀ d ∈ ds, cnt p (textT d) ≤ T) : cnt p (textT (.tuple (.str x :: ds))) ≤ A + 3 * (B + T) := by
  have h1 := cnt_parts hB ds hd
  have h2 := Nat.mul_le_mul_right (B + T) hl
  rw [textT, cnt_app, cnt_app, cnt_app]
  omega
theorem cnt_tree {W : Wd} (ok : W.Ok) {p : Nat → Bool} {I A B : Nat} (hI : ∀ n : Nat, (numL n).length ≤ 13 → cnt p (textT (.tuple [.str star, .int (n : Int)])) ≤ I) (hA : ∀ x : Str, nameS x = true → cnt p lpS + cnt p x + cnt p rpS ≤ A) (hB : cnt p blS ≤ B) :
    ∀ d, isTreeD W d = true → digsT 13 d = true → ∀ h, hgt d ≤ h → cnt p (textT d) ≤ tmax I A B 0 h := by
  refine tree_rec ok (P := fun d => digsT 13 d = true → ∀ h, hgt d ≤ h → cnt p (textT d) ≤ tmax I A B 0 h) (fun i _ h0 hz h hh => ?_) fun x ds hx nx hn hl hd hz h hh => ?_
  · obtain ⟨n, rfl⟩ := Int.eq_ofNat_of_zero_le h0
    rw [digsT, digsTs, digsTs, digsTs, digsT_str, digsT, Bool.true_and, Bool.and_true, decide_eq_true_eq] at hz
    cases h with
    | zero => simp [hgt, hgts] at hh
    | succ h => exact Nat.le_trans (hI n hz) (Nat.le_max_left _ _)
  · rw [digsT, digsTs, digsT_str, Bool.true_and] at hz
    cases h with
    | zero => rw [hgt] at hh; omega
    | succ h =>
      refine Nat.le_trans (cnt_node (T := tmax I A B 0 h) (hA x hx) hB hl fun d m => ?_) (Nat.le_max_right _ _)
      refine (hd d m).2 (digsTs_mem.mp hz d m) h ?_
      have h1 := hgt_mem (List.mem_cons_of_mem (.str x) m)
      rw [hgt] at hh
      omega
theorem cnt_form {W : Wd} (ok : W.Ok) {p : Nat → Bool} {A B b0 : Nat} (h0 : ∀ x : Str, (x = "_" ∨ nameS x = true) → cnt p x ≤ b0) (hS : cnt p lpS + cnt p star + cnt p rpS ≤ A) (hA : ∀ x : Str, nameS x = true → cnt p lpS + cnt p x + cnt p rpS ≤ A) (hB : cnt p blS ≤ B) (hb : b0 ≤ A + 3 * (B + b0)) :
    ∀ d, isFormD W d = true → ∀ h, hgt d ≤ h → cnt p (textT d) ≤ tmax 0 A B b0 h := by
  have mono0 : ∀ h, b0 ≤ tmax 0 A B b0 h := by
    intro h
    induction h with
    | zero => exact Nat.le_refl _
    | succ h ih =>
      refine Nat.le_trans ih (tmax_mono ?_ h)
      omega
  refine form_rec ok (P := fun d => ∀ h, hgt d ≤ h → cnt p (textT d) ≤ tmax 0 A B b0 h) (fun x hx h hh => ?_) (fun _ h hh => ?_) fun x ds hx nx hn hl hd h hh => ?_
  · exact Nat.le_trans (h0 x hx) (mono0 h)
  · cases h with
    | zero => simp [hgt, hgts] at hh
    | succ h =>
      refine Nat.le_trans (cnt_node (T := 0) (ds := []) hS hB (by simp) (fun d m => nomatch m)) ?_
      show _ ≤ max 0 (A + 3 * (B + tmax 0 A B b0 h))
      omega
  · cases h with
    | zero => rw [hgt] at hh; omega
    | succ h =>
      refine Nat.le_trans (cnt_node (T := tmax 0 A B b0 h) (hA x hx) hB hl fun d m => ?_) (Nat.le_max_right _ _)
      refine (hd d m).2 h ?_
      have h1 := hgt_mem (List.mem_cons_of_mem (.str x) m)
      rw [hgt] at hh
      omega
mutual
theorem sm_digs : ∀ {n : Nat} {d : PyData}, Sm n d → digsT 13 d = true
  | _, _, .int (i := i) h k => by
    rw [digsT]
    refine decide_eq_true ?_
    by_cases z : 0 ≤ i
    · obtain ⟨n, rfl⟩ := Int.eq_ofNat_of_zero_le z
      have e : PyData.shown (.int (n : Int)) = Str.ofString (toString ((n : Nat) : Int)) := by simp [PyData.shown]
      rw [e, len_tl, tl_num] at h
      exact h
    · rw [show i.toNat = 0 by omega]
      decide +kernel
  | _, _, .tup h => by
    rw [digsT]
    exact sms_digs h
  | _, _, .non => by rw [digsT]; all_goals (intros; contradiction)
  | _, _, .bl b => by rw [digsT]; all_goals (intros; contradiction)
  | _, _, .str h k => digsT_str _ _
  | _, _, .lst h => by rw [digsT]; all_goals (intros; contradiction)
  | _, _, .nod => by rw [digsT]; all_goals (intros; contradiction)
  | _, _, .dct h k => by rw [digsT]; all_goals (intros; contradiction)
theorem sms_digs : ∀ {n : Nat} {ds : List PyData}, Sms n ds → digsTs 13 ds = true
  | _, _, .nil => rfl
  | _, _, .cons h t => by rw [digsTs, sm_digs h, sms_digs t]; rfl
end
/-- a text that is a drawn one's, changed so often -/
structure DrT (k : Nat) (t : Str) : Prop where
  len : t.length ≤ 628 + k
  dig : cnt isDig t ≤ 351 + k
  op : opens t ≤ 40 + k
  ok : ∀ c ∈ tl t, c < 0x110000
theorem DrT.text {k : Nat} {t : Str} (h : DrT k t) (hk : k ≤ 8) : TextOk t ∧ opens t ≤ 48 := ⟨⟨by have := h.len; omega, strOk_tl.mpr h.ok, by have := h.dig; show cnt isDig t ≤ 570; omega⟩, by have := h.op; omega⟩
theorem cnt_true (t : Str) : cnt (fun _ => true) t = t.length := by
  unfold cnt
  rw [len_tl]
  simp
theorem name_dig {x : Str} (h : x = "_" ∨ nameS x = true) : cnt isDig x = 0 := by
  rcases h with rfl | h
  · decide +kernel
  · refine List.countP_eq_zero.mpr fun c m => ?_
    have := (name_chars h).2.2 c m
    unfold isDig
    simp
    omega
theorem name_open {x : Str} (h : x = "_" ∨ nameS x = true) : cnt (fun c => decide (c = 40)) x = 0 := by
  rcases h with rfl | h
  · decide +kernel
  · refine List.countP_eq_zero.mpr fun c m => ?_
    have := (name_chars h).2.2 c m
    simp
    omega
theorem text_star (n : Nat) : textT (.tuple [.str star, .int (n : Int)]) = lpS ++ star ++ (blS ++ Str.ofString (toString ((n : Nat) : Int)) ++ Str.empty) ++ rpS := by
  rw [textT, textTs, textTs, textT]
mutual
theorem text_chars : ∀ d : PyData, okT d = true → ∀ c ∈ tl (textT d), c < 0x110000
  | .str x, h => by
    rw [okT, Bool.and_eq_true] at h
    exact strOk_tl.mp h.2
  | .int i, h => by
    rw [okT, Bool.and_eq_true, decide_eq_true_eq] at h
    obtain ⟨n, rfl⟩ := Int.eq_ofNat_of_zero_le h.1
    intro c m
    have m : c ∈ tl (Str.ofString (toString ((n : Nat) : Int))) := m
    rw [tl_num] at m
    have := numL_digits n c m
    omega
  | .tuple (.str s :: ds), h => by
    rw [okT, okTs, Bool.and_eq_true, okT, Bool.and_eq_true] at h
    intro c m
    rw [textT, tl_append, tl_append, tl_append, tl_lp, tl_rp] at m
    rcases List.mem_append.mp m with m | m
    · rcases List.mem_append.mp m with m | m
      · rcases List.mem_append.mp m with m | m
        · rw [List.mem_singleton.mp m]; decide
        · exact strOk_tl.mp h.1.2 c m
      · exact texts_chars ds h.2 c m
    · rw [List.mem_singleton.mp m]; decide
  | .none, _ => fun c m => nomatch m
  | .bool _, _ => fun c m => nomatch m
  | .list _, _ => fun c m => nomatch m
  | .dict _, _ => fun c m => nomatch m
  | .tuple [], _ => fun c m => nomatch m
  | .tuple (.none :: l), _ => fun c m => nomatch m
  | .tuple (.bool b :: l), _ => fun c m => nomatch m
  | .tuple (.int b :: l), _ => fun c m => nomatch m
  | .tuple (.list b :: l), _ => fun c m => nomatch m
  | .tuple (.tuple b :: l), _ => fun c m => nomatch m
  | .tuple (.dict b :: l), _ => fun c m => nomatch m
theorem texts_chars : ∀ ds : List PyData, okTs ds = true → ∀ c ∈ tl (textTs ds), c < 0x110000
  | [], _ => fun c m => nomatch m
  | d :: ds, h => by
    rw [okTs, Bool.and_eq_true] at h
    intro c m
    rw [textTs, tl_append, tl_append, tl_bl] at m
    rcases List.mem_append.mp m with m | m
    · rcases List.mem_append.mp m with m | m
      · rw [List.mem_singleton.mp m]; decide
      · exact text_chars d h.1 c m
    · exact texts_chars ds h.2 c m
end
theorem name_okT {x : Str} (h : x = "_" ∨ nameS x = true) : okT (.str x) = true := by
  rw [okT, Bool.and_eq_true]
  rcases h with rfl | h
  · exact ⟨by decide +kernel, by decide +kernel⟩
  · exact ⟨decide_eq_true (by have := (name_chars h).2.1; omega), name_ok h⟩
theorem form_okT {W : Wd} (ok : W.Ok) : ∀ d, isFormD W d = true → okT d = true := by
  refine form_rec ok (fun x hx => name_okT hx) (fun _ => by decide +kernel) fun x ds hx nx hn hl hd => ?_
  rw [okT, okTs, name_okT (.inr hx), Bool.true_and]
  exact okTs_mem.mpr fun d m => (hd d m).2
theorem tree_okT {W : Wd} (ok : W.Ok) : ∀ d, isTreeD W d = true → digsT 13 d = true → okT d = true := by
  refine tree_rec ok (P := fun d => digsT 13 d = true → okT d = true) (fun i _ h0 hz => ?_) fun x ds hx nx hn hl hd hz => ?_
  · rw [digsT, digsTs, digsTs, digsTs, digsT_str, digsT, Bool.true_and, Bool.and_true, decide_eq_true_eq] at hz
    have so : okT (.str star) = true := by decide +kernel
    rw [okT, okTs, okTs, okTs, so, okT, decide_eq_true h0, decide_eq_true (by omega)]
    rfl
  · rw [digsT, digsTs, digsT_str, Bool.true_and] at hz
    rw [okT, okTs, name_okT (.inr hx), Bool.true_and]
    exact okTs_mem.mpr fun d m => (hd d m).2 (digsTs_mem.mp hz d m)
theorem drT_tree {W : Wd} (ok : W.Ok) {d : PyData} (h : isTreeD W d = true) (dg : digsT 13 d = true) (hh : hgt d ≤ 4) : DrT 0 (textT d) := by
  refine ⟨?_, ?_, ?_, text_chars d (tree_okT ok d h dg)⟩
  · have := cnt_tree ok (p := fun _ => true) (I := 17) (A := 10) (B := 1) (fun n hn => ?_) (fun x hx => ?_) (by decide +kernel) d h dg 4 hh
    · rw [cnt_true] at this
      exact this
    · rw [cnt_true, text_star]
      simp only [str_len_app, lp_len, rp_len, bl_len, empty_len]
      rw [show star.length = 1 by decide +kernel, len_tl, tl_num]
      omega
    · rw [cnt_true, cnt_true, cnt_true, lp_len, rp_len]
      have := (name_chars hx).2.1
      omega
  · have := cnt_tree ok (p := isDig) (I := 13) (A := 0) (B := 0) (fun n hn => ?_) (fun x hx => ?_) (by decide +kernel) d h dg 4 hh
    · exact this
    · rw [text_star, cnt_app, cnt_app, cnt_app, cnt_app, cnt_app]
      have e1 : cnt isDig lpS = 0 := by decide +kernel
      have e2 : cnt isDig star = 0 := by decide +kernel
      have e3 : cnt isDig blS = 0 := by decide +kernel
      have e4 : cnt isDig rpS = 0 := by decide +kernel
      have e5 : cnt isDig Str.empty = 0 := rfl
      have e6 : cnt isDig (Str.ofString (toString ((n : Nat) : Int))) ≤ (numL n).length := by
        unfold cnt
        rw [tl_num]
        exact List.countP_le_length
      omega
    · rw [name_dig (.inr hx)]
      decide +kernel
  · have := cnt_tree ok (p := fun c => decide (c = 40)) (I := 1) (A := 1) (B := 0) (fun n hn => ?_) (fun x hx => ?_) (by decide +kernel) d h dg 4 hh
    · exact this
    · rw [text_star, cnt_app, cnt_app, cnt_app, cnt_app, cnt_app]
      have e1 : cnt (fun c => decide (c = 40)) lpS = 1 := by decide +kernel
      have e2 : cnt (fun c => decide (c = 40)) star = 0 := by decide +kernel
      have e3 : cnt (fun c => decide (c = 40)) blS = 0 := by decide +kernel
      have e4 : cnt (fun c => decide (c = 40)) rpS = 0 := by decide +kernel
      have e5 : cnt (fun c => decide (c = 40)) Str.empty = 0 := rfl
      have e6 : cnt (fun c => decide (c = 40)) (Str.ofString (toString ((n : Nat) : Int))) = 0 := by
        unfold cnt
        rw [tl_num]
        refine List.countP_eq_zero.mpr fun c m => ?_
        have := numL_digits n c m
        simp
        omega
      omega
    · rw [name_open (.inr hx)]
      decide +kernel
theorem drT_form {W : Wd} (ok : W.Ok) {d : PyData} (h : isFormD W d = true) (hh : hgt d ≤ 3) : DrT 0 (textT d) := by
  refine ⟨?_, ?_, ?_, text_chars d (form_okT ok d h)⟩
  · have := cnt_form ok (p := fun _ => true) (A := 10) (B := 1) (b0 := 8) (fun x hx => ?_) (by decide +kernel) (fun x hx => ?_) (by decide +kernel) (by decide) d h 3 hh
    · rw [cnt_true] at this
      exact Nat.le_trans this (by decide)
    · rw [cnt_true]
      rcases hx with rfl | hx
      · decide +kernel
      · exact (name_chars hx).2.1
    · rw [cnt_true, cnt_true, cnt_true, lp_len, rp_len]
      have := (name_chars hx).2.1
      omega
  · have := cnt_form ok (p := isDig) (A := 0) (B := 0) (b0 := 0) (fun x hx => by rw [name_dig hx]; exact Nat.le_refl _) (by decide +kernel) (fun x hx => by rw [name_dig (.inr hx)]; decide +kernel) (by decide +kernel) (by decide) d h 3 hh
    exact Nat.le_trans this (by decide)
  · have := cnt_form ok (p := fun c => decide (c = 40)) (A := 1) (B := 0) (b0 := 0) (fun x hx => by rw [name_open hx]; exact Nat.le_refl _) (by decide +kernel) (fun x hx => by rw [name_open (.inr hx)]; decide +kernel) (by decide +kernel) (by decide) d h 3 hh
    exact Nat.le_trans this (by decide)
/-! ### _law_bent -/
def bentS : Str := "()() _*x0A-\n'"
/-- a sign put in, left out or exchanged -/
def Near1 (t t' : Str) : Prop := (∀ p : Nat → Bool, cnt p t' ≤ cnt p t + 1) ∧ ∀ c ∈ tl t', c ∈ tl t ∨ c ∈ tl bentS
theorem near_drT {k : Nat} {t t' : Str} (h : DrT k t) (n : Near1 t t') : DrT (k + 1) t' := by
  refine ⟨?_, ?_, ?_, fun c m => ?_⟩
  · have := n.1 fun _ => true
    rw [cnt_true, cnt_true] at this
    have := h.len
    omega
  · have := n.1 isDig
    have := h.dig
    omega
  · have := n.1 fun c => decide (c = 40)
    have h2 : cnt (fun c => decide (c = 40)) t ≤ 40 + k := h.op
    show cnt (fun c => decide (c = 40)) t' ≤ _
    omega
  · rcases n.2 c m with m | m
    · exact h.ok c m
    · have : ∀ c ∈ tl bentS, c < 0x110000 := by decide +kernel
      exact this c m
theorem cut_to {t : Str} {i : Nat} : tl (cutS t none (some (i : Int))) = (tl t).take i := by
  show ((t.cps.toList.drop (HT.sIx t.length 0 none)).take (HT.sIx t.length t.length (some (i : Int)) - HT.sIx t.length 0 none)) = _
  rw [HT.sIx_none, HT.sIx_nat, List.drop_zero, Nat.sub_zero, len_tl]
  by_cases h : i ≤ (tl t).length
  · rw [Nat.min_eq_left h]
  · rw [Nat.min_eq_right (by omega), List.take_of_length_le (Nat.le_refl _), List.take_of_length_le (by omega)]
theorem cut_from {t : Str} {i : Nat} : tl (cutS t (some (i : Int)) none) = (tl t).drop i := by
  show ((t.cps.toList.drop (HT.sIx t.length 0 (some (i : Int)))).take (HT.sIx t.length t.length none - HT.sIx t.length 0 (some (i : Int)))) = _
  rw [HT.sIx_none, HT.sIx_nat, len_tl]
  by_cases h : i ≤ (tl t).length
  · rw [Nat.min_eq_left h]
    exact List.take_of_length_le (by rw [List.length_drop]; exact Nat.le_refl _)
  · rw [Nat.min_eq_right (by omega), Nat.sub_self, List.take_zero, List.drop_of_length_le (by omega)]
theorem near_in {t : Str} {i j c : Nat} (hc : c ∈ tl bentS) (h : i ≤ j) {t' : Str} (e : tl t' = (tl t).take i ++ ([c] ++ (tl t).drop j)) : Near1 t t' := by
  have s : ((tl t).take i ++ (tl t).drop j).Sublist (tl t) := by
    have a : ((tl t).drop j).Sublist ((tl t).drop i) := by
      rw [show j = i + (j - i) by omega, ← List.drop_drop]
      exact List.drop_sublist _ _
    have b : ((tl t).take i ++ (tl t).drop j).Sublist ((tl t).take i ++ (tl t).drop i) := (List.Sublist.refl _).append a
    rwa [List.take_append_drop] at b
  refine ⟨fun p => ?_, fun x m => ?_⟩
  · have := s.countP_le (p := p)
    unfold cnt
    rw [e, List.countP_append, List.countP_append]
    rw [List.countP_append] at this
    have : [c].countP p ≤ 1 := by
      rw [List.countP_cons, List.countP_nil]
      split <;> omega
    omega
  · rw [e] at m
    rcases List.mem_append.mp m with m | m
    · exact .inl (List.mem_of_mem_take m)
    · rcases List.mem_append.mp m with m | m
      · rw [List.mem_singleton.mp m]
        exact .inr hc
      · exact .inl (List.mem_of_mem_drop m)
theorem near_out {t : Str} {i j : Nat} (h : i ≤ j) {t' : Str} (e : tl t' = (tl t).take i ++ (tl t).drop j) : Near1 t t' := by
  have s : ((tl t).take i ++ (tl t).drop j).Sublist (tl t) := by
    have a : ((tl t).drop j).Sublist ((tl t).drop i) := by
      rw [show j = i + (j - i) by omega, ← List.drop_drop]
      exact List.drop_sublist _ _
    have b : ((tl t).take i ++ (tl t).drop j).Sublist ((tl t).take i ++ (tl t).drop i) := (List.Sublist.refl _).append a
    rwa [List.take_append_drop] at b
  refine ⟨fun p => ?_, fun x m => ?_⟩
  · have := s.countP_le (p := p)
    unfold cnt
    rw [e]
    omega
  · rw [e] at m
    exact .inl (s.subset m)
def spBt (K : PySem.W.Frag) : Sp := fun vs H Q _ => ∃ (p : Addr) (t : Str), vs = [.ref p, .str t] ∧ Src H p ∧ t.length ≤ 10000 ∧ ∀ t' H', Src H' p → But p H H' → Near1 t t' → Q (.str t') H'
section
variable {P : Program} {w : World} {K : PySem.W.Frag} {mg : Str → Option Value} {base : Heap}
theorem sc_bt : FnScope ["source", "text", "at", "sign", "far"] ["source", "text"] (defScope s_law_bent) := ⟨rfl, rfl, rfl, by decide +kernel, rfl, by decide +kernel, by decide +kernel⟩
theorem ev_slS {σ : L2.St} {H : Hp} {te : TE} {a b : TO} {z : Str} {lo hi : Option Int} (h : Ev te σ H (.str z)) (ha : EvO a σ H lo) (hb : EvO b σ H hi) (l : z.length ≤ 100000) : Ev (tSl rSlS te a b) σ H (.str (cutS z lo hi)) := fun H1 e Q k =>
  h H1 e _ fun H2 e2 => ha H2 (e.trans e2) _ fun H3 e3 => hb H3 ((e.trans e2).trans e3) _ fun H4 e4 => ⟨z, rfl, sz_of l, k H4 ((e2.trans e3).trans e4)⟩
theorem eo_some {σ : L2.St} {H : Hp} {te : TE} {i : Int} (h : Ev te σ H (.int i)) : EvO (tPart te) σ H (some i) := fun H1 e Q k => h H1 e _ fun H2 e2 => ⟨i, rfl, k H2 e2⟩
theorem eo_none {σ : L2.St} {H : Hp} : EvO tNoPart σ H none := fun H1 e Q k => k H1 (Ex.refl _)
theorem ok_bt {f fD fP : Addr} {fd fdD fdP : FuncData} (F : Fun K "_law_bent" "_law_bent" s_law_bent f fd) (B : Bt mg) (kD : PySem.W.keepIn K (.ref fD) = true) (bD : Binds K fdD ["source", "span"] []) (gD : mg "_law_draw" = some (.ref fD)) (GD : FnOk P w K mg base CX0 2 fD fdD ["source", "span"] spDraw)
    (kP : PySem.W.keepIn K (.ref fP) = true) (bP : Binds K fdP ["source", "things"] []) (gP : mg "_law_pick" = some (.ref fP)) (GP : FnOk P w K mg base CX0 2 fP fdP ["source", "things"] (spPickG K)) : FnOk P w K mg base CX0 3 f fd ["source", "text"] (spBt K) := by
  refine F.ok sc_bt (fun vs H Q E h => ?_) (fun cdv A outer s H vs Q E hr h => ?_)
  · obtain ⟨p, t, rfl, _⟩ := h
    rfl
  · obtain ⟨p, t, rfl, S, hl, k⟩ := h
    refine ⟨_, pss_cons (ps_set (i := 2) sc_bt.nd rfl (Or.inl rfl) (pe_call GD hr (by rfl) gD kD bD .nil pass0 (pa_cons (pv 0) (pa_cons (pe_op op_add (pe_callB call_len_str (by rfl) B.len PySem.boot_len (pa_cons (pv 1) pa_nil)) pe_int) pa_nil))))
      (pss_cons (ps_set (i := 3) sc_bt.nd rfl (Or.inl rfl) (pe_call GP hr (by rfl) gP kP bP .nil pass0 (pa_cons (pv 0) (pa_cons pe_str pa_nil))))
      (pss_cons (ps_set (i := 4) sc_bt.nd rfl (Or.inl rfl) (pe_slice sl_str (pv 1) (po_some (pe_op op_add (pv 2) pe_int)) po_none))
      (pss_one (ps_ret (pe_call GP hr (by rfl) gP kP bP .nil pass0 (pa_cons (pv 0) (pa_cons (pe_lst (pa_cons (pe_op op_add_str (pe_op op_add_str (pe_slice sl_str (pv 1) po_none (po_some (pv 2))) (pv 3)) (pe_slice sl_str (pv 1) (po_some (pv 2)) po_none))
        (pa_cons (pe_op op_add_str (pe_slice sl_str (pv 1) po_none (po_some (pv 2))) (pv 4)) (pa_cons (pe_op op_add_str (pe_op op_add_str (pe_slice sl_str (pv 1) po_none (po_some (pv 2))) (pv 3)) (pv 4)) pa_nil)))) pa_nil))))))), ?_⟩
    refine q_set ?_
    refine ⟨_, rfl, _, rfl, t, rfl, sz_of (by omega), _, _, rfl, rfl, p, _, rfl, S, by omega, by omega, fun r H1 r0 r1 S1 B1 => ?_⟩
    obtain ⟨i, rfl⟩ := Int.eq_ofNat_of_zero_le r0
    refine q_set ?_
    refine ⟨_, rfl, p, _, rfl, S1, .inr ⟨bentS, rfl, by decide, by decide, fun j c H2 hc S2 B2 => ?_⟩⟩
    have cm : c ∈ tl bentS := List.mem_of_getElem? (i := j) (by show bentS.cps.toList[j]? = _; rw [Array.getElem?_toList]; exact hc)
    refine q_asg (v := .str (cutS t (some ((i + 1 : Nat) : Int)) none)) (σ := [some (.ref p), some (.str t), some (.int (i : Int)), some (.str ⟨#[c]⟩), none]) (ev_slS (ev_var rfl) (eo_some (ev_is (ev_op (ev_var rfl) ev_c rv_I0) (by rw [Int.natCast_add]; rfl))) eo_none (by omega)) fun H3 e3 => ?_
    have l1 : (cutS t none (some (i : Int))).length ≤ t.length := by
      rw [len_tl, cut_to, len_tl]
      exact List.length_take_le' _ _
    have l2 : (cutS t (some (i : Int)) none).length ≤ t.length := by
      rw [len_tl, cut_from, len_tl, List.length_drop]
      omega
    have l3 : (cutS t (some ((i + 1 : Nat) : Int)) none).length ≤ t.length := by
      rw [len_tl, cut_from, len_tl, List.length_drop]
      omega
    have c1 : (⟨#[c]⟩ : Str).length = 1 := rfl
    have to_ : ∀ {H4 : Hp}, Ev (tSl rSlS (tVar 1) tNoPart (tPart (tVar 2))) [some (.ref p), some (.str t), some (.int (i : Int)), some (.str ⟨#[c]⟩), some (.str (cutS t (some ((i + 1 : Nat) : Int)) none))] H4 (.str (cutS t none (some (i : Int)))) := ev_slS (ev_var rfl) eo_none (eo_some (ev_var rfl)) (by omega)
    have lst : EvL (tLst (tCons (tOp (fun x y H Q => ∃ i j, x = .str i ∧ y = .str j ∧ i.length + j.length ≤ sizeLine ∧ Q (.str (i ++ j)) H) (tOp (fun x y H Q => ∃ i j, x = .str i ∧ y = .str j ∧ i.length + j.length ≤ sizeLine ∧ Q (.str (i ++ j)) H) (tSl rSlS (tVar 1) tNoPart (tPart (tVar 2))) (tVar 3)) (tSl rSlS (tVar 1) (tPart (tVar 2)) tNoPart))
        (tCons (tOp (fun x y H Q => ∃ i j, x = .str i ∧ y = .str j ∧ i.length + j.length ≤ sizeLine ∧ Q (.str (i ++ j)) H) (tSl rSlS (tVar 1) tNoPart (tPart (tVar 2))) (tVar 4)) (tCons (tOp (fun x y H Q => ∃ i j, x = .str i ∧ y = .str j ∧ i.length + j.length ≤ sizeLine ∧ Q (.str (i ++ j)) H) (tOp (fun x y H Q => ∃ i j, x = .str i ∧ y = .str j ∧ i.length + j.length ≤ sizeLine ∧ Q (.str (i ++ j)) H) (tSl rSlS (tVar 1) tNoPart (tPart (tVar 2))) (tVar 3)) (tVar 4)) tNil))))
        [some (.ref p), some (.str t), some (.int (i : Int)), some (.str ⟨#[c]⟩), some (.str (cutS t (some ((i + 1 : Nat) : Int)) none))] H3 ([cutS t none (some (i : Int)) ++ ⟨#[c]⟩ ++ cutS t (some (i : Int)) none, cutS t none (some (i : Int)) ++ cutS t (some ((i + 1 : Nat) : Int)) none, cutS t none (some (i : Int)) ++ ⟨#[c]⟩ ++ cutS t (some ((i + 1 : Nat) : Int)) none].map V.str) := by
      refine el_lst (ea_cons (ev_cat (ev_cat to_ (ev_var rfl) (by omega)) (ev_slS (ev_var rfl) (eo_some (ev_var rfl)) eo_none (by omega)) (by rw [str_len_app]; omega)) (ea_cons (ev_cat to_ (ev_var rfl) (by omega)) (ea_cons (ev_cat (ev_cat to_ (ev_var rfl) (by omega)) (ev_var rfl) (by rw [str_len_app]; omega)) ea_nil))) (by simp)
    have S3 := S2.ex e3
    refine ⟨_, rfl, lst H3 (Ex.refl _) _ fun q H4 hq e4 h4 => ?_⟩
    have nqp : q ≠ p := fun z => by
      obtain ⟨_, _, hS, _⟩ := S3
      rw [z, hS] at hq
      cases hq
    refine ⟨p, _, rfl, S3.ex e4, .inl ⟨q, _, rfl, .inl ⟨sq_of h4, nqp⟩, by simp, by simp, fun m v H5 hv S5 B5 => ?_⟩⟩
    have B05 : But p H H5 := (((B1.trans B2).ex e3).ex e4).trans B5
    match m, hv with
    | 0, hv =>
      cases hv
      refine k _ H5 S5 B05 (near_in (i := i) (j := i) cm (Nat.le_refl _) ?_)
      rw [tl_append, tl_append, cut_to, cut_from, List.append_assoc]
    | 1, hv =>
      cases hv
      refine k _ H5 S5 B05 (near_out (i := i) (j := i + 1) (Nat.le_succ _) ?_)
      rw [tl_append, cut_to, cut_from]
    | 2, hv =>
      cases hv
      refine k _ H5 S5 B05 (near_in (i := i) (j := i + 1) cm (Nat.le_succ _) ?_)
      rw [tl_append, tl_append, cut_to, cut_from, List.append_assoc]
    | n + 3, hv => cases hv
end
end KW
namespace L2
open PySem PySem.Spec PyProof.Rows
/-- x * n, a short text -/
def repS (n : Nat) (z : Str) : Str := ⟨(List.replicate n z.cps).foldl (· ++ ·) #[]⟩
theorem tl_repS (n : Nat) (z : Str) : (repS n z).cps.toList = (List.replicate n z.cps.toList).flatten := by
  have gen : ∀ (l : List (Array Nat)) (acc : Array Nat), (l.foldl (· ++ ·) acc).toList = acc.toList ++ (l.map Array.toList).flatten := by
    intro l
    induction l with
    | nil => intro acc; simp
    | cons a l ih =>
      intro acc
      rw [List.foldl_cons, ih, List.map_cons, List.flatten_cons, Array.toList_append, List.append_assoc]
  unfold repS
  rw [gen, List.map_replicate]
  rfl
def rTimes : R2 := fun x y H Q => ∃ (z : Str) (n : Nat), x = .str z ∧ y = .int (n : Int) ∧ 2 ≤ n ∧ n ≤ 1000 ∧ 1 ≤ z.length ∧ z.length ≤ 1000 ∧ Q (.str (repS n z)) H
theorem rep_len (n : Nat) (z : Str) : (repS n z).length = n * z.length := by
  have : (repS n z).length = (repS n z).cps.toList.length := by simp [Str.length]
  have gen : ∀ (n : Nat) (l : List Nat), (List.replicate n l).flatten.length = n * l.length := by
    intro n l
    induction n with
    | zero => simp
    | succ n ih =>
      rw [List.replicate_succ, List.flatten_cons, List.length_append, ih, Nat.succ_mul]
      omega
  rw [this, tl_repS, gen]
  simp [Str.length]
theorem op_times {X : Cx} : OpR X (binaryOp .Mult) rTimes := by
  intro pins s σ H x y v u Q I rx ry ⟨z, n, ex, ey, h2, hn, h1, hz, k⟩
  subst ex ey
  obtain ⟨t, rfl⟩ := rx
  obtain ⟨t2, rfl⟩ := ry
  have len : (z.length == 0) = false := beq_eq_false_iff_ne.mpr (by omega)
  have b : n * z.length ≤ 1000000 := Nat.mul_le_mul hn hz
  have e0 : ((n : Int)).toNat = n := by omega
  refine PySem.P.mul_str (by rw [decide_eq_false (by omega), decide_eq_false (by omega)]; rfl) (fun _ _ => ?_) (fun _ _ => ?_) ?_
  · have h : ((z.length : Int)) * (n : Int) ≤ 2 ^ 63 - 1 := by
      have : ((z.length : Int)) * (n : Int) = ((n * z.length : Nat) : Int) := by rw [Int.natCast_mul, Int.mul_comm]
      rw [this]
      omega
    have := Int.le_ediv_of_mul_le (by omega : (0 : Int) < (n : Int)) h
    omega
  · show PySem.Builtin.Str.tooLong (z.length * ((n : Int)).toNat) = false
    unfold PySem.Builtin.Str.tooLong
    rw [e0, Nat.mul_comm]
    exact decide_eq_false (by rw [sizeLine_eq]; omega)
  · have c : (((n : Nat) : Int) == 1 || z.length == 0) = false := by
      rw [len, Bool.or_false]
      exact beq_eq_false_iff_ne.mpr (by omega)
    rw [if_neg (by omega), if_neg (by rw [c]; decide), e0]
    refine ⟨?_, .str (repS n z), H, I.tok _, ⟨_, rfl⟩, k⟩
    show (repS n z).length ≤ sizeLine
    rw [rep_len, sizeLine_eq]
    omega
/-- x != y, data without dicts -/
def rNeX (K : PySem.W.Frag) : R2 := fun x y H Q => ∃ d e, Dq K H x d ∧ Dq K H y e ∧ d.canLay0 = true ∧ e.canLay0 = true ∧ d.depth ≤ 150 ∧ Q (.bl (!PyData.eqv d e)) H
theorem op_neX {X : Cx} (hu : X.A.units + 200 < cLine) : OpR X (compareOp .NotEq) (rNeX X.K) := by
  intro pins s σ H x y v u Q I rx ry ⟨d, e, qd, qe, cd, ce, dp, k⟩
  obtain ⟨as, r1, _⟩ := qd.reads I rx
  obtain ⟨bs, r2, _⟩ := qe.reads I ry
  exact PySem.SeqAt.neOverData X.prog X.w X.A X.xe s v u d e as bs _ r1 r2 cd ce (by omega) ⟨.bl _, H, I, rfl, k⟩
end L2
namespace KW
open PySem PySem.Spec PyProof.Rows L2 Evl TL PySem.Builtin PySem.Builtin.Str
/-! ### the high tree -/
def nS : Str := "n"
def zS : Str := "z"
def chD : Nat → PyData
  | 0 => .tuple [.str zS]
  | k + 1 => .tuple [.str nS, chD k]
def chainS : Str := repS 80 "(n " ++ "(z)" ++ repS 80 ")"
theorem flat_succ (k : Nat) (l : List Nat) : (List.replicate (k + 1) l).flatten = l ++ (List.replicate k l).flatten := by rw [List.replicate_succ, List.flatten_cons]
theorem flat_snoc (k : Nat) (l : List Nat) : (List.replicate (k + 1) l).flatten = (List.replicate k l).flatten ++ l := by rw [List.replicate_succ', List.flatten_append]; simp
theorem ch_text : ∀ k, tl (textT (chD k)) = (List.replicate k [40, 110, 32]).flatten ++ ([40, 122, 41] ++ (List.replicate k [41]).flatten)
  | 0 => by
    have : textT (chD 0) = lpS ++ zS ++ Str.empty ++ rpS := by rw [chD, textT, textTs]
    rw [this]
    decide +kernel
  | k + 1 => by
    have e : textT (chD (k + 1)) = lpS ++ nS ++ (blS ++ textT (chD k) ++ Str.empty) ++ rpS := by rw [chD, textT, textTs, textTs]
    have n1 : tl nS = [110] := by decide +kernel
    rw [e, str_empty, tl_append, tl_append, tl_append, tl_append, tl_lp, n1, tl_bl, tl_rp, ch_text k, flat_succ, flat_snoc]
    simp only [List.append_assoc]
    rfl
theorem chain_text : textT (chD 80) = chainS := by
  refine ext_tl ?_
  unfold chainS
  rw [ch_text, tl_append, tl_append]
  show _ = (repS 80 "(n ").cps.toList ++ tl "(z)" ++ (repS 80 ")").cps.toList
  rw [tl_repS, tl_repS, List.append_assoc]
  have e1 : (Str.ofString "(n ").cps.toList = [40, 110, 32] := by decide +kernel
  have e2 : (Str.ofString ")").cps.toList = [41] := by decide +kernel
  have e3 : tl (Str.ofString "(z)") = [40, 122, 41] := by decide +kernel
  rw [e1, e2, e3]
theorem ch_good : ∀ k, goodT (chD k) = true
  | 0 => by decide +kernel
  | k + 1 => by
    have : freeS nS = true := by decide +kernel
    rw [chD, goodT, goodTs, goodTs, this, ch_good k]
    rfl
def rowL : List PyData := [.tuple [.str zS, .int 0], .tuple [.str nS, .int 1]]
abbrev rowW : Wd := wOf rowL false
theorem row_sig : areSigns rowL = true := by decide +kernel
theorem row_ok : rowW.Ok := wOf_ok _ row_sig
theorem row_num : rowW.num zS = some 0 ∧ rowW.num nS = some 1 := ⟨by decide +kernel, by decide +kernel⟩
theorem ch_tree : ∀ k, isTreeD rowW (chD k) = true
  | 0 => by
    rw [chD, tree_ne (by decide +kernel), row_num.1]
    rfl
  | k + 1 => by
    rw [chD, tree_ne (by decide +kernel), row_num.2]
    show (_ && (isTreeD rowW (chD k) && true)) = true
    rw [ch_tree k]
    rfl
theorem ch_form : ∀ k, isFormD rowW (chD k) = true
  | 0 => by
    rw [chD, form_ne (by decide +kernel), row_num.1]
    rfl
  | k + 1 => by
    rw [chD, form_ne (by decide +kernel), row_num.2]
    show (_ && (isFormD rowW (chD k) && true)) = true
    rw [ch_form k]
    rfl
theorem ch_eqv : ∀ k, PyData.eqv (chD k) (chD k) = true
  | 0 => by decide +kernel
  | k + 1 => by
    rw [chD, PyData.eqv, PyData.eqvAll, PyData.eqvAll, PyData.eqvAll, ch_eqv k]
    decide +kernel
theorem ch_hgt : ∀ k, (chD k).depth = k + 1
  | 0 => rfl
  | k + 1 => by
    rw [chD, PyData.depth, PyData.depthAll, PyData.depthAll, PyData.depthAll, ch_hgt k, PyData.depth]
    omega
theorem ch_okT (k : Nat) : okT (chD k) = true := form_okT row_ok _ (ch_form k)
theorem ch_sz : ∀ k, szD (chD k) = 3 * k + 3
  | 0 => by decide +kernel
  | k + 1 => by
    have n1 : nS.length = 1 := by decide +kernel
    rw [chD, szD, szDs, szDs, szDs, ch_sz k, szD, n1]
    omega
theorem chain_told : toldT chainS = chD 80 := by
  rw [← chain_text]
  exact told_good (ch_good 80)
theorem chain_ok : TextOk chainS := by
  have l : chainS.length = 323 := by
    unfold chainS
    rw [str_len_app, str_len_app, rep_len, rep_len]
    decide +kernel
  refine ⟨by omega, strOk_tl.mpr ?_, ?_⟩
  · rw [← chain_text]
    exact text_chars _ (ch_okT 80)
  · have := List.countP_le_length (p := isDig) (l := tl chainS)
    rw [← len_tl] at this
    omega
theorem chain_tree : readG isTreeD rowW (.str chainS) = some (chD 80) := by
  show (if isTreeD rowW (toldT chainS) && decide (textT (toldT chainS) = chainS) then some (toldT chainS) else none) = _
  rw [chain_told, ch_tree, chain_text, decide_eq_true rfl]
  rfl
theorem chain_form : readG isFormD rowW (.str chainS) = some (chD 80) := by
  show (if isFormD rowW (toldT chainS) && decide (textT (toldT chainS) = chainS) then some (toldT chainS) else none) = _
  rw [chain_told, ch_form, chain_text, decide_eq_true rfl]
  rfl
/-! ### what is asked -/
/-- a thing that may be asked about -/
structure Thg (e : PyData) : Prop where
  sh : (PyData.list [e]).showable = true
  dp : (PyData.list [e]).depth ≤ 60
  sz : (PyData.list [e]).shown.length ≤ sizeLine
  tx : ∀ t, e = .str t → TextOk t ∧ opens t ≤ 48
theorem thg_text {t : Str} (h : TextOk t) (o : opens t ≤ 48) : Thg (.str t) := by
  have ot : okT (.str t) = true := by rw [okT, decide_eq_true h.len, h.ok]; rfl
  refine ⟨by simp [PyData.showable, PyData.showableAll], by simp [PyData.depth, PyData.depthAll], ?_, fun t' e => by cases e; exact ⟨h, o⟩⟩
  have h1 := PyData.shown_le 600 (by decide) (.list [.str t]) (by
    simp only [PyData.leavesShort, PyData.leavesShortAll, Bool.and_true]
    exact strOk_short h.ok)
  have h2 : (PyData.list [.str t]).weight = t.length + 1 := by
    simp only [PyData.weight, PyData.weightAll]
    rfl
  rw [h2] at h1
  have := h.len
  have e : sizeLine = 16777216 := by decide
  omega
theorem thg_sm {n : Nat} {e : PyData} (s : Sm n e) (l : n ≤ 10) (d : e.depth ≤ 4) (ns : isD "str" e = false) : Thg e := by
  have sl : Sm (n + 0 + 2) (.list [e]) := .lst (.cons s .nil)
  refine ⟨sl.show, ?_, sl.size (by omega), fun t z => by rw [z] at ns; cases ns⟩
  simp only [PyData.depth, PyData.depthAll]
  omega
def typedA : List Str := ["", "_", "x", "()", "(nil)", "( nil)", "(nil )", "(nil", "nil)", "((nil))", "(*)", "(* 0)", "(* 00)"]
def typedB : List Str := ["(* -1)", "(* 1 1)", "(*0)", "* 0", "x y", "(x)", "A", "_x", "__", "(nil) ", " (nil)", "0"]
def typedC : List Str := ["(nil)(nil)", "(* x)"]
theorem typed_ok : ∀ t ∈ typedA ++ typedB ++ typedC, TextOk t ∧ opens t ≤ 48 := by
  have key : (typedA ++ typedB ++ typedC).all (fun t => decide (t.length ≤ 640) && (PyData.strOk t && (decide ((tl t).countP isDig ≤ 570) && decide (opens t ≤ 48)))) = true := by decide +kernel
  intro t m
  have := List.all_eq_true.mp key t m
  simp only [Bool.and_eq_true, decide_eq_true_eq] at this
  exact ⟨⟨this.1, this.2.1, this.2.2.1⟩, this.2.2.2⟩
end KW
namespace KW
open PySem PySem.Spec PyProof.Rows L2 Evl TL PySem.Builtin PySem.Builtin.Str
/-! ### the law -/
def DefOk (P : Program) (w : World) (K : PySem.W.Frag) (mg : Str → Option Value) (base : Heap) (n : Nat) (x : Str) (ps : List Str) (sp : Sp) : Prop := ∃ f fd, PySem.W.keepIn K (.ref f) = true ∧ Binds K fd ps [] ∧ mg x = some (.ref f) ∧ FnOk P w K mg base CX0 n f fd ps sp
def DefOkX (P : Program) (w : World) (K : PySem.W.Frag) (mg : Str → Option Value) (base : Heap) (n : Nat) (x : Str) (ps : List Str) (sp : Sp) : Prop := ∃ f fd, PySem.W.keepIn K (.ref f) = true ∧ Binds K fd ps [] ∧ mg x = some (.ref f) ∧ FnOk P w K mg base (CX P w) n f fd ps sp
theorem ev_repr {K : PySem.W.Frag} {σ : L2.St} {H : Hp} {te : TE} {v : V} {d : PyData} (h : Ev te σ H v) (q : Dq K H v d) (s : d.showable = true) (dp : d.depth ≤ 60) (z : d.shown.length ≤ sizeLine) : Ev (tCB (rRepr K) (tCons te tNil)) σ H (.str d.shown) := fun H1 e Q k => h H1 e _ fun H2 e2 => ⟨v, d, rfl, q.ex (e.trans e2), s, dp, z, k H2 e2⟩
mutual
theorem sz_text : ∀ d : PyData, txtT d = true → okT d = true → szD d ≤ (textT d).length + 1
  | .tuple (.str s :: ds), t, h => by
    rw [okT, okTs, Bool.and_eq_true] at h
    rw [txtT] at t
    have := sz_texts ds t h.2
    rw [textT, str_len_app, str_len_app, str_len_app, lp_len, rp_len, szD, szDs, szD]
    omega
  | .str x, _, _ => Nat.le_refl _
  | .int i, _, h => by
    rw [okT, Bool.and_eq_true, decide_eq_true_eq] at h
    obtain ⟨n, rfl⟩ := Int.eq_ofNat_of_zero_le h.1
    show (numL n).length + 1 ≤ (Str.ofString (toString ((n : Nat) : Int))).length + 1
    rw [len_tl, tl_num]
    exact Nat.le_refl _
  | .none, t, _ => by cases t
  | .bool _, t, _ => by cases t
  | .list _, t, _ => by cases t
  | .dict _, t, _ => by cases t
  | .tuple [], t, _ => by cases t
  | .tuple (.none :: l), t, _ => by cases t
  | .tuple (.bool b :: l), t, _ => by cases t
  | .tuple (.int b :: l), t, _ => by cases t
  | .tuple (.list b :: l), t, _ => by cases t
  | .tuple (.tuple b :: l), t, _ => by cases t
  | .tuple (.dict b :: l), t, _ => by cases t
theorem sz_texts : ∀ ds : List PyData, txtTs ds = true → okTs ds = true → szDs ds ≤ (textTs ds).length
  | [], _, _ => Nat.le_refl _
  | d :: ds, t, h => by
    rw [okTs, Bool.and_eq_true] at h
    rw [txtTs, Bool.and_eq_true] at t
    have := sz_text d t.1 h.1
    have := sz_texts ds t.2 h.2
    rw [textTs, str_len_app, str_len_app, bl_len, szDs]
    omega
end
/-- a drawn form or tree, as the law asks of it -/
structure One (K : PySem.W.Frag) (H : Hp) (v : V) (d : PyData) : Prop where
  q : Dq K H v d
  no : noL d = true
  tx : txtT d = true
  ok : okT d = true
  ni : isD "int" d = false
  hg : hgt d ≤ 4
  dr : DrT 0 (textT d)
theorem One.nl {K : PySem.W.Frag} {H H' : Hp} {v : V} {d : PyData} (k : NL H H') (o : One K H v d) : One K H' v d := ⟨o.q.nl k o.no, o.no, o.tx, o.ok, o.ni, o.hg, o.dr⟩
theorem One.sz {K : PySem.W.Frag} {H : Hp} {v : V} {d : PyData} (o : One K H v d) : szD d ≤ 629 := by
  have := sz_text d o.tx o.ok
  have := o.dr.len
  omega
theorem one_form {K : PySem.W.Frag} {H : Hp} {v : V} {d : PyData} {W : Wd} {n : Nat} (ok : W.Ok) (f : isFormD W d = true) (t : Tr K H v d n 3) : One K H v d := by
  have hg : hgt d ≤ 3 := Nat.le_trans (hgt_depth d) t.dp
  exact ⟨t.q, t.no, form_txt ok d f, form_okT ok d f, form_not_int f, by omega, drT_form ok f hg⟩
theorem one_tree {K : PySem.W.Frag} {H : Hp} {v : V} {d : PyData} {W : Wd} {n : Nat} (ok : W.Ok) (f : isTreeD W d = true) (t : Tr K H v d n 4) : One K H v d := by
  have hg : hgt d ≤ 4 := Nat.le_trans (hgt_depth d) t.dp
  obtain ⟨k, _, s⟩ := t.sm
  have dg := sm_digs s
  have o := tree_okT ok d f dg
  exact ⟨t.q, t.no, tree_txt ok d f o, o, tree_not_int ok f, hg, drT_tree ok f dg hg⟩
def spLaw (K : PySem.W.Frag) : Sp := fun vs H Q _ => ∃ (a : Addr) (ns : List Int), vs = [.ref a] ∧ SqL K H a (ns.map V.int) ∧ ns.length ≤ 63 ∧ (∀ z ∈ ns, Builtin.Int.intBits z ≤ 1048576) ∧ ∀ H', Q (.bl true) H'
/-- a new World is read -/
def EvI (K : PySem.W.Frag) (C : Addr) (te : TE) (σ : L2.St) (H : Hp) (W : Wd) : Prop := ∀ H1, Ex H H1 → ∀ Q : VK, (∀ x H2, H1 x = none → Ex H1 H2 → WAt K C H2 x W → Q (.ref x) H2) → te σ H1 Q
theorem evi_make1 {K : PySem.W.Frag} {C CB : Addr} {E : XK} {t : TA} {σ : L2.St} {H : Hp} {d : PyData} {ds : List PyData} (h : ∀ H1, Ex H H1 → ∀ Q : List V → Hp → Prop, (∀ v H2, Ex H1 H2 → Dq K H2 v d → (∀ ds, d = .tuple ds → areSigns ds = true → ∃ p ys, v = .ref p ∧ PlT H2 p ys ∧ Dqs K H2 ys ds) → Q [v] H2) → t σ H1 Q) (s : Fit d) (hd : seqD d = some ds) (ha : areSigns ds = true) : EvI K C (tMake C (spWorld K C CB) [.bl false] E t) σ H (wOf ds false) := fun H1 e Q k => h H1 e _ fun v H2 e2 q pl x dx hx hdx ne => by
  refine mk_world hx hdx ne q s pl (fun es h1 h2 H' e4 wa => ?_) fun h => ?_
  · rw [hd] at h1
    cases h1
    exact k x H' (fresh_back e2 hx) (e2.trans e4) wa
  · unfold signsD at h
    rw [hd] at h
    have : areSigns ds = false := h
    rw [ha] at this
    cases this
theorem ev_times {σ : L2.St} {H : Hp} {ta tb : TE} {x : Str} {n : Nat} (h : Ev ta σ H (.str x)) (k : Ev tb σ H (.int (n : Int))) (h2 : 2 ≤ n) (hn : n ≤ 1000) (l1 : 1 ≤ x.length) (l2 : x.length ≤ 1000) : Ev (tOp rTimes ta tb) σ H (.str (repS n x)) :=
  ev_op h k fun H1 e Q q => ⟨x, n, rfl, rfl, h2, hn, l1, l2, q H1 (Ex.refl _)⟩
/-- what is told of the high tree's text -/
theorem ev_high {K : PySem.W.Frag} {C CB : Addr} {f : Wd → PyData → Bool} {σ : L2.St} {H : Hp} {x : Addr} {i j : Nat} {Q : VK} (hi : σ[i]? = some (some (.ref x))) (hj : σ[j]? = some (some (.str chainS))) (wa : WAt K C H x rowW) (h : readG f rowW (.str chainS) = some (chD 80)) (k : ∀ v H', Ex H H' → Dq K H' v (chD 80) → Q v H') :
    tCall (spRd K C CB f) [] E0 (tCons (tVar i) (tCons (tVar j) tNil)) σ H Q :=
  ⟨_, hi, _, hj, x, rowW, .str chainS, .str chainS, rfl, wa, row_ok, .str _, fun t e => by cases e; exact chain_ok, fun d hd v H' e q => by
    rw [h] at hd
    cases hd
    exact k v H' e q, fun hn => by
    rw [h] at hn
    cases hn⟩
/-- one of two operands -/
theorem isWay {n : Nat} (h : n < 2) : wayF n = isFormD ∨ wayF n = isTreeD := by
  unfold wayF
  split
  · exact .inl rfl
  · exact .inr rfl
theorem way_none {n : Nat} (h : n < 2) (W : Wd) : wayF n W .none = false := by
  rcases isWay h with e | e <;> rw [e]
  · exact form_none W
  · exact tree_none W
/-- what is read is in bounds -/
theorem readG_ok {n : Nat} (h : n < 2) {W : Wd} {e d : PyData} (r : readG (wayF n) W e = some d) (tx : ∀ t, e = .str t → TextOk t ∧ opens t ≤ 48) : d ≠ .none ∧ d.showable = true ∧ d.depth ≤ 60 ∧ d.shown.length ≤ sizeLine := by
  unfold readG at r
  split at r
  · rename_i t
    split at r
    · rename_i c
      cases r
      rw [Bool.and_eq_true] at c
      obtain ⟨tk, op⟩ := tx t rfl
      have o := told_ok tk
      refine ⟨fun z => ?_, ok_show _ o, ?_, ?_⟩
      · rw [z, way_none h] at c
        cases c.1
      · rw [ok_depth _ o]
        have := told_hgt t
        omega
      · have := ok_shown o (by have := told_sz t; have := tk.len; omega)
        have e : sizeLine = 16777216 := by decide
        omega
    · cases r
  · cases r
theorem room200 {k : Nat} {A : Around} (r : Room k A) : A.units + 200 < cLine := by
  have := r.un
  omega
abbrev nLA : List Str := ["script", "typed", "start", "source", "world", "made", "some", "turn", "form", "tree", "one", "text", "bent", "chain", "row", "thing", "way", "due"]
section
variable {P : Program} {w : World} {K : PySem.W.Frag} {mg : Str → Option Value} {base : Heap} {C CB CX' fI : Addr} {fdI : FuncData} {gg : List Value → List Value → List Value} {dsI : List Value}
theorem sc_law : FnScope nLA ["script"] (defScope s_law) := ⟨rfl, rfl, rfl, by decide +kernel, rfl, by decide +kernel, by decide +kernel⟩
theorem ok_law {f : Addr} {fd : FuncData} (F : Fun K "law" "law" s_law f fd) (B : Bt mg) (M : WM P w K mg base C CX' fI fdI gg dsI)
    (DS : DefOk P w K mg base 80 "_law_source" ["script", "start"] (spSource K)) (DD : DefOk P w K mg base 80 "_law_world" ["source"] (spDrawnWorld K)) (DM : DefOk P w K mg base 80 "_law_made" ["world"] (spMade K C))
    (DF : DefOk P w K mg base 80 "_law_form" ["source", "world", "deep", "letters", "blank"] (spForm K 6)) (DT : DefOk P w K mg base 80 "_law_tree" ["source", "world", "deep"] (spTree K 6))
    (DX : DefOk P w K mg base 80 "_law_text" ["form"] (spLX K 50)) (DB : DefOk P w K mg base 80 "_law_bent" ["source", "text"] (spBt K)) (DFT : DefOk P w K mg base 80 "form_text" ["form"] (spFT K))
    (DRF : DefOkX P w K mg base 80 "read_form" ["world", "text"] (spRd K C CB isFormD)) (DRT : DefOkX P w K mg base 80 "read_tree" ["world", "text"] (spRd K C CB isTreeD))
    (DU : DefOk P w K mg base 80 "_law_due" ["world", "way", "thing"] (spDu K)) (DTD : DefOk P w K mg base 80 "_law_told" ["made", "way", "thing"] (spTd K C)) :
    FnOkG P w K mg base CX0 83 f fd ["script"] (spLaw K) := by
  obtain ⟨fS, fdS, kS, bS, gS, GS⟩ := DS
  obtain ⟨fD, fdD, kD, bD, gD, GD⟩ := DD
  obtain ⟨fM, fdM, kM, bM, gM, GM⟩ := DM
  obtain ⟨fF, fdF, kF, bF, gF, GF⟩ := DF
  obtain ⟨fT, fdT, kT, bT, gT, GT⟩ := DT
  obtain ⟨fX, fdX, kX, bX, gX, GX⟩ := DX
  obtain ⟨fB, fdB, kB, bB, gB, GB⟩ := DB
  obtain ⟨fFT, fdFT, kFT, bFT, gFT, GFT⟩ := DFT
  obtain ⟨fRF, fdRF, kRF, bRF, gRF, GRF⟩ := DRF
  obtain ⟨fRT, fdRT, kRT, bRT, gRT, GRT⟩ := DRT
  obtain ⟨fU, fdU, kU, bU, gU, GU⟩ := DU
  obtain ⟨fTD, fdTD, kTD, bTD, gTD, GTD⟩ := DTD
  refine F.okG sc_law (fun vs H Q E h => ?_) (fun cdv A outer s H vs Q E hr hG h => ?_)
  · obtain ⟨a, ns, rfl, _⟩ := h
    rfl
  · obtain ⟨a, ns, rfl, hS, hlen, hbits, k⟩ := h
    have hu := hr.units
    have hu2 := room200 hr
    have hr80 : Room 80 _ := hr.mono (by decide)
    have hr5 : Room 5 _ := hr.mono (by decide)
    refine ⟨_, pss_cons (ps_set (i := 1) sc_law.nd rfl (Or.inl rfl) (pe_lst (pa_cons pe_str (pa_cons pe_str (pa_cons pe_str (pa_cons pe_str (pa_cons pe_str (pa_cons pe_str (pa_cons pe_str (pa_cons pe_str (pa_cons pe_str (pa_cons pe_str (pa_cons pe_str (pa_cons pe_str (pa_cons pe_str pa_nil)))))))))))))))
      (pss_cons (ps_set (i := 1) sc_law.nd rfl (Or.inl rfl) (pe_op op_cat (pv 1) (pe_lst (pa_cons pe_str (pa_cons pe_str (pa_cons pe_str (pa_cons pe_str (pa_cons pe_str (pa_cons pe_str (pa_cons pe_str (pa_cons pe_str (pa_cons pe_str (pa_cons pe_str (pa_cons pe_str (pa_cons pe_str pa_nil)))))))))))))))
      (pss_cons (ps_set (i := 1) sc_law.nd rfl (Or.inl rfl) (pe_op op_cat (pv 1) (pe_lst (pa_cons pe_str (pa_cons pe_str pa_nil)))))
      (pss_cut (ps_for PassesOwn.never rfl (pi_range1 (by rfl) B.range (pa_cons (pe_callB (call_max2 rfl) (by rfl) B.max boot_max (pa_cons pe_int (pa_cons (pe_callB (call_min2 rfl) (by rfl) B.min boot_min (pa_cons pe_int (pa_cons (pe_callB call_len_seq (by rfl) B.len PySem.boot_len (pa_cons (pv 0) pa_nil)) pa_nil))) pa_nil))) pa_nil)) (pg_name (i := 2) sc_law.nd rfl (Or.inl rfl))
        (pss_cons (ps_set (i := 3) sc_law.nd rfl (Or.inl rfl) (pe_call GS hr80 (by rfl) gS kS bS .nil pass0 (pa_cons (pv 0) (pa_cons (pv 2) pa_nil))))
        (pss_cons (ps_set (i := 4) sc_law.nd rfl (Or.inl rfl) (pe_call GD hr80 (by rfl) gD kD bD .nil pass0 (pa_cons (pv 3) pa_nil)))
        (pss_cons (ps_par (i := 5) (j := 6) rfl sc_law.nd rfl rfl (by decide) rfl rfl (pa_cons (pe_call GM hr80 (by rfl) gM kM bM .nil pass0 (pa_cons (pv 4) pa_nil)) (pa_cons (pe_callTy call_list_of (by rfl) B.list boot_list (pa_cons (pv 1) pa_nil)) pa_nil)) rfl)
        (pss_cut (ps_for PassesOwn.never rfl (pi_range1 (by rfl) B.range (pa_cons pe_int pa_nil)) (pg_name (i := 7) sc_law.nd rfl (Or.inl rfl))
          (pss_cons (ps_par (i := 8) (j := 9) rfl sc_law.nd rfl rfl (by decide) rfl rfl (pa_cons (pe_call GF hr80 (by rfl) gF kF bF .nil pass0 (pa_cons (pv 3) (pa_cons (pv 4) (pa_cons pe_int (pa_cons (pe_lst (pa_cons pe_str (pa_cons pe_str (pa_cons pe_str pa_nil)))) (pa_cons pe_bl pa_nil)))))) (pa_cons (pe_call GT hr80 (by rfl) gT kT bT .nil pass0 (pa_cons (pv 3) (pa_cons (pv 4) (pa_cons pe_int pa_nil)))) pa_nil)) rfl)
          (pss_one (ps_for PassesOwn.never rfl (pi_list (pe_lst (pa_cons (pv 8) (pa_cons (pv 9) pa_nil)))) (pg_name (i := 10) sc_law.nd rfl (Or.inl rfl))
            (pss_cons (ps_set (i := 11) sc_law.nd rfl (Or.inl rfl) (pe_call GX hr80 (by rfl) gX kX bX .nil pass0 (pa_cons (pv 10) pa_nil)))
            (pss_cons (ps_set (i := 12) sc_law.nd rfl (Or.inl rfl) (pe_call GB hr80 (by rfl) gB kB bB .nil pass0 (pa_cons (pv 3) (pa_cons (pv 11) pa_nil))))
            (pss_cons (ps_set (i := 6) sc_law.nd rfl (Or.inl rfl) (pe_op op_cat (pv 6) (pe_lst (pa_cons (pv 11) (pa_cons (pv 12) (pa_cons (pe_call GB hr80 (by rfl) gB kB bB .nil pass0 (pa_cons (pv 3) (pa_cons (pv 12) pa_nil))) pa_nil))))))
            (pss_one (ps_if (pt_cmpR op_ne (pe_call GFT hr80 (by rfl) gFT kFT bFT .nil pass0 (pa_cons (pv 10) pa_nil)) (pv 11) (nomark _)) (pss_one (ps_ret pe_bl)) pss_nil)))))))))
        (pss_cons (ps_set (i := 13) sc_law.nd rfl (Or.inl rfl) (pe_op op_add_str (pe_op op_add_str (pe_op op_times pe_str pe_int) pe_str) (pe_op op_times pe_str pe_int)))
        (pss_cons (ps_set (i := 14) sc_law.nd rfl (Or.inl rfl) (pe_make M.mkC M.G hr5 (by rfl) M.g M.nb M.nv passL (pa_cons (pe_lst (pa_cons (pe_tup (pa_cons pe_str (pa_cons pe_int pa_nil))) (pa_cons (pe_tup (pa_cons pe_str (pa_cons pe_int pa_nil))) pa_nil))) pa_nil)))
        (pss_cons (ps_if (PW.pt (pw_or (pt_cmpR op_ne (pe_call GFT hr80 (by rfl) gFT kFT bFT .nil pass0 (pa_cons (pe_call GRT hr80 (by rfl) gRT kRT bRT .nil passL (pa_cons (pv 14) (pa_cons (pv 13) pa_nil))) pa_nil)) (pv 13) (nomark _)) (pw_or1 (pt_cmpR (op_neX hu2) (pe_call GRF hr80 (by rfl) gRF kRF bRF .nil passL (pa_cons (pv 14) (pa_cons (pv 13) pa_nil))) (pe_call GRT hr80 (by rfl) gRT kRT bRT .nil passL (pa_cons (pv 14) (pa_cons (pv 13) pa_nil))) (nomark _))))) (pss_one (ps_ret pe_bl)) pss_nil)
        (pss_one (ps_for PassesOwn.never rfl (pi_list (pe_op op_cat (pv 6) (pe_lst (pa_cons pe_non (pa_cons pe_int (pa_cons (pe_lst (pa_cons pe_str pa_nil)) (pa_cons (pe_tup (pa_cons pe_str pa_nil)) (pa_cons pe_dnewK (pa_cons pe_bl pa_nil))))))))) (pg_name (i := 15) sc_law.nd rfl (Or.inl rfl))
          (pss_one (ps_for PassesOwn.never rfl (pi_range1 (by rfl) B.range (pa_cons pe_int pa_nil)) (pg_name (i := 16) sc_law.nd rfl (Or.inl rfl))
            (pss_cons (ps_set (i := 17) sc_law.nd rfl (Or.inl rfl) (pe_call GU hr80 (by rfl) gU kU bU .nil pass0 (pa_cons (pv 4) (pa_cons (pv 16) (pa_cons (pv 15) pa_nil)))))
            (pss_one (ps_if (pt_cmpR op_ne (pe_callB (call_repr hG hu) (by rfl) B.repr boot_repr (pa_cons (pe_call GTD hr80 (by rfl) gTD kTD bTD .nil pass0 (pa_cons (pv 5) (pa_cons (pv 16) (pa_cons (pv 15) pa_nil)))) pa_nil))
              (pe_callB (call_repr hG hu) (by rfl) B.repr boot_repr (pa_cons (pe_ifExp (pt_cmpR op_isN (pv 17) pe_non (nomark _)) (pe_lst (pa_cons (pv 15) pa_nil)) (pv 17)) pa_nil)) (nomark _)) (pss_one (ps_ret pe_bl)) pss_nil)))))))))))))))
      (pss_one (ps_ret pe_bl))))), ?_⟩
    -- the typed texts
    refine q_asgL (xs := typedA.map V.str) (el_lst (ea_cons ev_c (ea_cons ev_c (ea_cons ev_c (ea_cons ev_c (ea_cons ev_c (ea_cons ev_c (ea_cons ev_c (ea_cons ev_c (ea_cons ev_c (ea_cons ev_c (ea_cons ev_c (ea_cons ev_c (ea_cons ev_c ea_nil))))))))))))) (by decide)) fun t1 HA hA eA h1 => ?_
    refine q_asgL (xs := (typedA ++ typedB).map V.str) (el_is (el_cat (ev_var rfl) h1 (show EvL _ _ _ (typedB.map V.str) from el_lst (ea_cons ev_c (ea_cons ev_c (ea_cons ev_c (ea_cons ev_c (ea_cons ev_c (ea_cons ev_c (ea_cons ev_c (ea_cons ev_c (ea_cons ev_c (ea_cons ev_c (ea_cons ev_c (ea_cons ev_c ea_nil)))))))))))) (by decide)) (by decide)) (by rw [List.map_append])) fun t2 HB hB eB h2 => ?_
    refine q_asgL (xs := (typedA ++ typedB ++ typedC).map V.str) (el_is (el_cat (ev_var rfl) h2 (show EvL _ _ _ (typedC.map V.str) from el_lst (ea_cons ev_c (ea_cons ev_c ea_nil)) (by decide)) (by decide)) (by rw [List.map_append (l₁ := typedA ++ typedB)])) fun ta HT hT eT h3 => ?_
    have e0T : Ex H HT := (eA.trans eB).trans eT
    have lty : (typedA ++ typedB ++ typedC).length = 27 := by decide
    have tok := typed_ok
    generalize typedA ++ typedB ++ typedC = ty at h3 lty tok
    refine q_cut (M := fun σ' H' => ∃ x2 x3 x4 x5 x6 x7 x8 x9 x10 x11 x12 x13 x14 x15 x16 x17 : Option V, σ' = [some (.ref a), some (.ref ta), x2, x3, x4, x5, x6, x7, x8, x9, x10, x11, x12, x13, x14, x15, x16, x17] ∧ Ex HT H') ?_ (fun σ' H' z => by
      obtain ⟨x2, x3, x4, x5, x6, x7, x8, x9, x10, x11, x12, x13, x14, x15, x16, x17, rfl, e⟩ := z
      exact s_ret ev_c fun H' _ => k H')
    refine ⟨_, rfl, a, _, rfl, .inl (ex_l e0T hS), _, _, rfl, _, _, rfl, _, rfl, ?b1, ?b2, for_range (lo := 0) (n := Int.toNat _) (fun i σ' H' => ∃ x2 x3 x4 x5 x6 x7 x8 x9 x10 x11 x12 x13 x14 x15 x16 x17 : Option V, σ' = [some (.ref a), some (.ref ta), x2, x3, x4, x5, x6, x7, x8, x9, x10, x11, x12, x13, x14, x15, x16, x17] ∧ Ex HT H') ⟨none, none, none, none, none, none, none, none, none, none, none, none, none, none, none, none, rfl, Ex.refl _⟩ ?_ (fun σ H' z => z)⟩
    case b1 => repeat' split
               all_goals omega
    case b2 => repeat' split
               all_goals omega
    rintro i σ H1 hi ⟨x2, x3, x4, x5, x6, x7, x8, x9, x10, x11, x12, x13, x14, x15, x16, x17, rfl, s1⟩
    have hi4 : (i : Int) < 4 := by
      have hL : ((ns.map V.int).length : Int) ≤ 63 := by rw [List.length_map]; omega
      revert hi
      repeat' split
      all_goals (intro hi; omega)
    -- source, world
    refine q_set ?_
    refine ⟨_, rfl, _, rfl, a, ns, _, rfl, ex_l (e0T.trans s1) hS, hlen, hbits, by omega, by omega, fun p H2 np S2 s2 => ?_⟩
    have e12 : Ex H1 H2 := fun b u e => s2 b u e
    have pT : HT p = none := fresh_back s1 np
    have eT2 := s1.trans e12
    refine q_set ?_
    refine ⟨_, rfl, p, rfl, S2, fun u W H3 S3 B3 hw => ?_⟩
    have ok := hw.ok
    have npl : ∀ {q : Addr} {H1 : Hp}, Src H1 p → H1 q = none → q ≠ p := fun {q H1} S n z => by
      obtain ⟨_, _, hS, _⟩ := S
      rw [z, hS] at n
      cases n
    have ntp : ta ≠ p := fun z => by rw [z, pT] at h3; cases h3
    have h33 : H3 ta = some (.lst (ty.map V.str)) := B3 _ _ (eT2 _ _ h3) ntp
    -- made, some
    refine (show tSeq (tPar 5 6 _) _ _ _ H3 from ?_)
    refine ⟨_, rfl, u, W, rfl, hw, fun x H4 hx e4 wa => ⟨_, rfl, ta, _, rfl, .inl (sq_of (e4 _ _ h33)), fun sa hsa => ⟨.ref x, .ref sa, rfl, ?_⟩⟩⟩
    have e5 := Ex.new (o := .lst (ty.map V.str)) hsa
    have h5 : upd H4 sa (.lst (ty.map V.str)) sa = some (.lst (ty.map V.str)) := upd_same
    have e35 := e4.trans e5
    have nsp : sa ≠ p := npl (S3.ex e4) hsa
    have S5 := S3.ex e35
    have wa5 := wa.ex e5
    have hw5 := hw.nl (NL.ex e35)
    have B25 : But p H2 (upd H4 sa (.lst (ty.map V.str))) := B3.ex e35
    generalize upd H4 sa (.lst (ty.map V.str)) = H5 at e5 h5 e35 S5 wa5 hw5 B25
    -- eight turns
    refine q_cut (M := fun σ' H' => ∃ (sa : Addr) (ss : List Str) (x7 x8 x9 x10 x11 x12 x13 x14 x15 x16 x17 : Option V), σ' = [some (.ref a), some (.ref ta), some (.int (0 + (i : Nat))), some (.ref p), some u, some (.ref x), some (.ref sa), x7, x8, x9, x10, x11, x12, x13, x14, x15, x16, x17] ∧ Src H' p ∧ But p H5 H' ∧ H' sa = some (.lst (ss.map V.str)) ∧ (∀ s ∈ ss, TextOk s ∧ opens s ≤ 48) ∧ ss.length ≤ 75) ?_ ?_
    · refine s_forR1 (n := 8) (j := 7) (ea_cons ev_c ea_nil) ⟨by decide, by decide⟩ (fun t σ' H' => ∃ (sa : Addr) (ss : List Str) (x7 x8 x9 x10 x11 x12 x13 x14 x15 x16 x17 : Option V), σ' = [some (.ref a), some (.ref ta), some (.int (0 + (i : Nat))), some (.ref p), some u, some (.ref x), some (.ref sa), x7, x8, x9, x10, x11, x12, x13, x14, x15, x16, x17] ∧ Src H' p ∧ But p H5 H' ∧ H' sa = some (.lst (ss.map V.str)) ∧ (∀ s ∈ ss, TextOk s ∧ opens s ≤ 48) ∧ ss.length ≤ 27 + 6 * t)
        (fun H6 e6 => ⟨sa, ty, _, _, _, _, _, _, _, _, _, _, _, rfl, S5.ex e6, Ex.but e6, e6 _ _ h5, tok, by omega⟩) ?_ (fun σ' H' z => by
          obtain ⟨sa, ss, y7, y8, y9, y10, y11, y12, y13, y14, y15, y16, y17, e, S, B', h, tk, l⟩ := z
          have e8 : (8 : Int).toNat = 8 := rfl
          exact ⟨sa, ss, y7, y8, y9, y10, y11, y12, y13, y14, y15, y16, y17, e, S, B', h, tk, by omega⟩)
      rintro t σ' H6 ht ⟨sa, ss, y7, y8, y9, y10, y11, y12, y13, y14, y15, y16, y17, rfl, S6, B6, h6, tss, lss⟩
      have N6 := B6.nl S5.lst
      have hw6 := hw5.nl N6
      -- form, tree
      refine (show tSeq (tPar 8 9 _) _ _ _ H6 from ?_)
      refine ⟨_, rfl, _, rfl, (by show 3 ≤ sizeLine; decide), fun l hl => ⟨p, u, W, 3, l, ["x", "y", "nil"], true, rfl, S6.ex (Ex.new hl), hw6.q.nl (NL.ex (Ex.new hl)) (world_noL W), ok, upd_same, npl S6 hl, by simp, by decide, by decide +kernel, by decide, fun v d H7 S7 B7 fd td => ?_⟩⟩
      have B67 : But p H6 H7 := (Ex.but (Ex.new hl)).trans B7
      have N67 := B67.nl S6.lst
      refine ⟨_, rfl, _, rfl, p, u, W, 3, rfl, S7, hw6.q.nl N67 (world_noL W), ok, by decide, fun v2 d2 H8 S8 B8 tt tr => ⟨v, v2, rfl, ?_⟩⟩
      have o1 : One K H8 v d := (one_form ok fd td).nl (B8.nl S7.lst)
      have o2 : One K H8 v2 d2 := one_tree ok tt tr
      have B68 := B67.trans B8
      have S6' := S6
      -- both
      refine ⟨_, rfl, _, rfl, (by show 2 ≤ sizeLine; decide), fun la hla => ⟨la, rfl, ⟨_, SqL.of upd_same⟩, ?_⟩⟩
      have e9 := Ex.new (o := .lst [v, v2]) hla
      have h9 : upd H8 la (.lst [v, v2]) la = some (.lst [v, v2]) := upd_same
      have nla : la ≠ p := npl S8 hla
      generalize upd H8 la (.lst [v, v2]) = H9 at e9 h9
      have S9 := S8.ex e9
      have B69 := B68.ex e9
      have nsp6 : sa ≠ p := fun z => by
        obtain ⟨_, _, hS, _⟩ := S6
        rw [z, hS] at h6
        have := congrArg (fun o => match o with | some (HO.lst (V.int _ :: _)) => true | _ => false) h6
        cases ss with
        | nil => cases this
        | cons b c => cases this
      refine for_it (walk_list (xs := [v, v2])) (fun j σ' H' => ∃ (sa : Addr) (ss : List Str) (x10 x11 x12 x13 x14 x15 x16 x17 : Option V), σ' = [some (.ref a), some (.ref ta), some (.int (0 + (i : Nat))), some (.ref p), some u, some (.ref x), some (.ref sa), some (.int (t : Int)), some v, some v2, x10, x11, x12, x13, x14, x15, x16, x17] ∧ Src H' p ∧ But p H9 H' ∧ H' sa = some (.lst (ss.map V.str)) ∧ sa ≠ p ∧ (∀ s ∈ ss, TextOk s ∧ opens s ≤ 48) ∧ ss.length ≤ 27 + 6 * t + 3 * j)
        ⟨sa, ss, _, _, _, _, _, _, _, _, rfl, S9, (fun _ _ h _ => h), B69 _ _ h6 nsp6, nsp6, tss, by omega⟩ (fun j σ' H' _ ⟨_, _, _, _, _, _, _, _, _, _, _, _, B', _⟩ => sq_of (B' _ _ h9 nla)) ?_ ?_
      · rintro j vv σ' H10 H11 hj ⟨sa, ss, z10, z11, z12, z13, z14, z15, z16, z17, rfl, S10, B10, h10, nsp10, tss10, lss10⟩ ⟨rfl, hv⟩
        obtain ⟨dd, o⟩ : ∃ dd, One K H11 vv dd := by
          have N := (NL.ex e9).trans (B10.nl S9.lst)
          match j, hv with
          | 0, hv => cases hv; exact ⟨d, o1.nl N⟩
          | 1, hv => cases hv; exact ⟨d2, o2.nl N⟩
          | n + 2, hv => cases hv
        have sz := o.sz
        have dl := o.dr.len
        have hg := o.hg
        have ms := msr_sz dd
        have hj2 : j < 2 := hj
        have ht8 : t < 8 := by omega
        unfold gName
        refine q_asg (v := .str (textT dd)) (σ := [some (.ref a), some (.ref ta), some (.int (0 + (i : Nat))), some (.ref p), some u, some (.ref x), some (.ref sa), some (.int (t : Int)), some v, some v2, some vv, z11, z12, z13, z14, z15, z16, z17]) (ev_call (ea_cons (ev_var rfl) ea_nil) (spLX_v o.q o.tx o.ok (by omega) o.ni (by omega))) fun H12 e12 => ?_
        have S12 := S10.ex e12
        refine q_set ?_
        refine ⟨_, rfl, _, rfl, p, textT dd, rfl, S12, by omega, fun b1 H13 S13 B13 n1 => ?_⟩
        have r1 := near_drT o.dr n1
        have l1 := r1.len
        refine q_set ?_
        refine ⟨_, rfl, _, rfl, _, rfl, _, rfl, _, rfl, p, b1, rfl, S13, by omega, fun b2 H14 S14 B14 n2 => ⟨(by show 3 ≤ sizeLine; decide), fun lb hlb => ⟨sa, lb, ss.map V.str, [.str (textT dd), .str b1, .str b2], rfl, rfl, ?_, upd_same, ?_, fun sb hsb => ?_⟩⟩⟩
        · have nlb : sa ≠ lb := fun z => by
            have : H14 sa = some (.lst (ss.map V.str)) := (((Ex.but e12).trans B13).trans B14) _ _ h10 nsp10
            rw [z, hlb] at this
            cases this
          exact (upd_ne nlb).trans ((((Ex.but e12).trans B13).trans B14) _ _ h10 nsp10)
        · rw [List.length_map]
          exact sz_of (by show ss.length + 3 ≤ _; omega)
        have r2 := near_drT r1 n2
        have e15 := Ex.new (o := .lst [.str (textT dd), .str b1, .str b2]) hlb
        have e16 := Ex.new (o := .lst (ss.map V.str ++ [.str (textT dd), .str b1, .str b2])) hsb
        have S16 := (S14.ex e15).ex e16
        have nsb : sb ≠ p := npl (S14.ex e15) hsb
        have h16 := upd_same (H := upd H14 lb (.lst [.str (textT dd), .str b1, .str b2])) (a := sb) (o := .lst (ss.map V.str ++ [.str (textT dd), .str b1, .str b2]))
        have B16 : But p H11 (upd (upd H14 lb (.lst [.str (textT dd), .str b1, .str b2])) sb (.lst (ss.map V.str ++ [.str (textT dd), .str b1, .str b2]))) := ((((Ex.but e12).trans B13).trans B14).ex e15).ex e16
        have B17 : But p H12 (upd (upd H14 lb (.lst [.str (textT dd), .str b1, .str b2])) sb (.lst (ss.map V.str ++ [.str (textT dd), .str b1, .str b2]))) := ((B13.trans B14).ex e15).ex e16
        generalize upd (upd H14 lb (.lst [.str (textT dd), .str b1, .str b2])) sb (.lst (ss.map V.str ++ [.str (textT dd), .str b1, .str b2])) = H16 at S16 h16 B16 B17
        have o16 := o.nl (B16.nl S10.lst)
        refine s_when (b := false) (σ := [some (.ref a), some (.ref ta), some (.int (0 + (i : Nat))), some (.ref p), some u, some (.ref x), some (.ref sb), some (.int (t : Int)), some v, some v2, some vv, some (.str (textT dd)), some (.str b1), z13, z14, z15, z16, z17]) (et_is (et_test (ev_op (ev_call (ea_cons (ev_var rfl) ea_nil) (spFT_v o16.q o16.tx (by omega) (by omega))) (ev_var rfl) (rv_ne rfl))) (by simp)) (fun z => nomatch z) fun _ H17 e17 => ?_
        refine ⟨sb, ss ++ [textT dd, b1, b2], _, _, _, _, _, _, _, _, rfl, S16.ex e17, (B10.trans B16).ex e17, ?_, nsb, ?_, ?_⟩
        · rw [List.map_append]
          exact e17 _ _ h16
        · intro s m
          rcases List.mem_append.mp m with m | m
          · exact tss10 s m
          · simp only [List.mem_cons, List.not_mem_nil, or_false] at m
            rcases m with rfl | rfl | rfl
            · exact o.dr.text (by decide)
            · exact r1.text (by decide)
            · exact r2.text (by decide)
        · rw [List.length_append]
          show ss.length + 3 ≤ _
          omega
      · rintro σ' H10 ⟨sa, ss, z10, z11, z12, z13, z14, z15, z16, z17, rfl, S10, B10, h10, nsp10, tss10, lss10⟩
        refine ⟨sa, ss, _, _, _, _, _, _, _, _, _, _, _, rfl, S10, B6.trans (B69.trans B10), h10, tss10, ?_⟩
        have : [v, v2].length = 2 := rfl
        omega
    rintro σ' H6 ⟨sa, ss, x7, x8, x9, x10, x11, x12, x13, x14, x15, x16, x17, rfl, S6, B6, h6, tss, lss⟩
    have N6 := B6.nl S5.lst
    have wa6 := wa5.nl N6
    have hw6 := hw5.nl N6
    have B26 : But p H2 H6 := B25.trans B6
    have eT6 : Ex HT H6 := fun b o hb => B26 b o (eT2 b o hb) fun z => by rw [z, pT] at hb; cases hb
    -- the high tree
    have c80 : Ev (tOp (fun x y H Q => ∃ i j, x = .str i ∧ y = .str j ∧ i.length + j.length ≤ sizeLine ∧ Q (.str (i ++ j)) H) (tOp (fun x y H Q => ∃ i j, x = .str i ∧ y = .str j ∧ i.length + j.length ≤ sizeLine ∧ Q (.str (i ++ j)) H) (tOp rTimes (tC (.str "(n ")) (tC (.int 80))) (tC (.str "(z)"))) (tOp rTimes (tC (.str ")")) (tC (.int 80)))) [some (.ref a), some (.ref ta), some (.int (0 + (i : Nat))), some (.ref p), some u, some (.ref x), some (.ref sa), x7, x8, x9, x10, x11, x12, x13, x14, x15, x16, x17] H6 (.str chainS) := by
      refine ev_cat (ev_cat (ev_times (n := 80) ev_c ev_c (by decide) (by decide) (by decide) (by decide)) ev_c ?_) (ev_times (n := 80) ev_c ev_c (by decide) (by decide) (by decide) (by decide)) ?_
      · rw [rep_len]
        decide +kernel
      · rw [str_len_app, rep_len, rep_len]
        decide +kernel
    refine q_asg c80 fun H7 e7 => ?_
    refine q_set ?_
    have mk : EvI K C (tMake C (spWorld K C CX') [.bl false] E0 (tCons (tLst (tCons (tTup (tCons (tC (.str zS)) (tCons (tC (.int 0)) tNil))) (tCons (tTup (tCons (tC (.str nS)) (tCons (tC (.int 1)) tNil))) tNil))) tNil)) [some (.ref a), some (.ref ta), some (.int (0 + (i : Nat))), some (.ref p), some u, some (.ref x), some (.ref sa), x7, x8, x9, x10, x11, x12, some (.str chainS), x14, x15, x16, x17] H7 rowW := by
      refine evi_make1 (d := .list rowL) (fun H2 g2 Q k2 => ⟨(by show 2 ≤ sizeLine; decide), fun u1 hu1 => ⟨(by show 2 ≤ sizeLine; decide), fun u2 hu2 => ⟨(by show 2 ≤ sizeLine; decide), fun l2 hl2 => ?_⟩⟩⟩) ?_ rfl row_sig
      · exact k2 (.ref l2) _ (((Ex.new hu1).trans (Ex.new hu2)).trans (Ex.new hl2)) (.lst (sq_of upd_same) (.cons (.tup (SqT.of (Ex.new hl2 _ _ (Ex.new hu2 _ _ upd_same))) (.cons (.str _) (.cons (.int _) .nil))) (.cons (.tup (SqT.of (Ex.new hl2 _ _ upd_same)) (.cons (.str _) (.cons (.int _) .nil))) .nil))) (fun ds z => nomatch z)
      · refine .list (by decide) fun d m => ?_
        have sg := List.all_eq_true.mp (areSigns_all row_sig).1 d m
        obtain ⟨y, n, rfl, hy, _⟩ := sign_is sg
        exact .tuple (by simp) fun e me => by
          simp only [List.mem_cons, List.not_mem_nil, or_false] at me
          rcases me with rfl | rfl
          · exact .str (by have := (name_chars hy).2.1; omega) (name_ok hy)
          · exact .flat rfl rfl rfl
    refine mk H7 (Ex.refl _) _ fun rw_ H8 hrw e8 war => ?_
    have e68 := e7.trans e8
    have ch_b := ch_sz 80
    have ch_m := msr_sz (chD 80)
    have ch_l := text_sz (chD 80) (ch_okT 80)
    have ch_d := ch_hgt 80
    have ch_y := ok_lay _ (ch_okT 80)
    refine q_when (σ := [some (.ref a), some (.ref ta), some (.int (0 + (i : Nat))), some (.ref p), some u, some (.ref x), some (.ref sa), x7, x8, x9, x10, x11, x12, some (.str chainS), some (.ref rw_), x15, x16, x17]) (b := false) (et_is (et_or (a := false) (b := false) (fun H9 e9 Q9 k9 => ?_) (fun _ H9 e9 Q9 k9 => ?_)) rfl) (fun z => nomatch z) fun _ H9 e9 => ?_
    · refine ev_high (i := 14) (j := 13) rfl rfl (war.ex e9) chain_tree fun v H10 e10 qv => ?_
      refine ⟨v, chD 80, rfl, qv, form_txt row_ok _ (ch_form 80), by omega, by omega, fun H11 e11 => ⟨_, rfl, rfl, _, rfl, ?_⟩⟩
      have : (!decide (V.str (textT (chD 80)) = V.str chainS)) = false := by rw [chain_text]; simp
      rw [this]
      exact k9 H11 (e10.trans e11)
    · refine ev_high (i := 14) (j := 13) rfl rfl (war.ex e9) chain_form fun v H10 e10 qv => ?_
      refine ev_high (i := 14) (j := 13) rfl rfl (war.ex (e9.trans e10)) chain_tree fun v2 H11 e11 qv2 => ?_
      refine ⟨chD 80, chD 80, qv.ex e11, qv2, ch_y, ch_y, by omega, ?_⟩
      rw [ch_eqv]
      exact ⟨false, rfl, k9 H11 (e10.trans e11)⟩
    -- the things
    have e69 := e68.trans e9
    have h69 := e69 _ _ h6
    refine ⟨_, rfl, (by show 1 ≤ sizeLine; decide), fun l1 hl1 => ⟨(by show 1 ≤ sizeLine; decide), fun u1 hu1 => fun d1 hd1 => ⟨(by show 6 ≤ sizeLine; decide), fun lb hlb => ⟨sa, lb, ss.map V.str, [.non, .int 5, .ref l1, .ref u1, .ref d1, .bl true], rfl, rfl, ?_, upd_same, ?_, fun lc hlc => ⟨lc, rfl, ⟨_, SqL.of upd_same⟩, ?_⟩⟩⟩⟩⟩
    · exact Ex.new hlb _ _ (Ex.new hd1 _ _ (Ex.new hu1 _ _ (Ex.new hl1 _ _ h69)))
    · rw [List.length_map]
      exact sz_of (by show ss.length + 6 ≤ _; omega)
    have f1 := Ex.new (o := .lst [.str "x"]) hl1
    have f2 := Ex.new (o := .tup [.str "nil"]) hu1
    have f3 := Ex.new (o := .dK []) hd1
    have f4 := Ex.new (o := .lst [.non, .int 5, .ref l1, .ref u1, .ref d1, .bl true]) hlb
    have f5 := Ex.new (o := .lst (ss.map V.str ++ [.non, .int 5, .ref l1, .ref u1, .ref d1, .bl true])) hlc
    have g1 := f5 _ _ (f4 _ _ (f3 _ _ (f2 _ _ (upd_same (H := H9) (a := l1) (o := .lst [.str "x"])))))
    have g2 := f5 _ _ (f4 _ _ (f3 _ _ (upd_same (H := upd H9 l1 (.lst [.str "x"])) (a := u1) (o := .tup [.str "nil"]))))
    have g3 := f5 _ _ (f4 _ _ (upd_same (H := upd (upd H9 l1 (.lst [.str "x"])) u1 (.tup [.str "nil"])) (a := d1) (o := .dK [])))
    have g5 := upd_same (H := upd (upd (upd (upd H9 l1 (.lst [.str "x"])) u1 (.tup [.str "nil"])) d1 (.dK [])) lb (.lst [.non, .int 5, .ref l1, .ref u1, .ref d1, .bl true])) (a := lc) (o := .lst (ss.map V.str ++ [.non, .int 5, .ref l1, .ref u1, .ref d1, .bl true]))
    have e9L := (((f1.trans f2).trans f3).trans f4).trans f5
    generalize upd (upd (upd (upd (upd H9 l1 (.lst [.str "x"])) u1 (.tup [.str "nil"])) d1 (.dK [])) lb (.lst [.non, .int 5, .ref l1, .ref u1, .ref d1, .bl true])) lc (.lst (ss.map V.str ++ [.non, .int 5, .ref l1, .ref u1, .ref d1, .bl true])) = HL at g1 g2 g3 g5 e9L
    have e6L := e69.trans e9L
    have waL := wa6.ex e6L
    have hwL := hw6.nl (NL.ex e6L)
    have thgs : ∀ (j : Nat) (v : V), (ss.map V.str ++ [.non, .int 5, .ref l1, .ref u1, .ref d1, .bl true])[j]? = some v → ∃ e, Dq K HL v e ∧ Thg e := by
      intro j v hv
      have m := List.mem_of_getElem? hv
      rcases List.mem_append.mp m with m | m
      · obtain ⟨s, ms, rfl⟩ := List.mem_map.mp m
        exact ⟨.str s, .str s, thg_text (tss s ms).1 (tss s ms).2⟩
      · simp only [List.mem_cons, List.not_mem_nil, or_false] at m
        rcases m with rfl | rfl | rfl | rfl | rfl | rfl
        · exact ⟨.none, .non, thg_sm .non (by decide) (by decide) rfl⟩
        · exact ⟨.int 5, .int 5, thg_sm (.int (by decide +kernel) (by decide +kernel)) (by decide) (by decide) rfl⟩
        · exact ⟨.list [.str "x"], .lst (sq_of g1) (.cons (.str _) .nil), thg_sm (.lst (.cons (.str (by decide) (by decide +kernel)) .nil)) (by decide) (by decide +kernel) rfl⟩
        · exact ⟨.tuple [.str "nil"], .tup (SqT.of g2) (.cons (.str _) .nil), thg_sm (.tup (.cons (.str (by decide) (by decide +kernel)) .nil)) (by decide) (by decide +kernel) rfl⟩
        · exact ⟨.dict [], .dct g3 .nil, thg_sm .nod (by decide) (by decide +kernel) rfl⟩
        · exact ⟨.bool true, .bl true, thg_sm (.bl true) (by decide) (by decide) rfl⟩
    have eTL := eT6.trans e6L
    refine for_it (walk_list (xs := ss.map V.str ++ [.non, .int 5, .ref l1, .ref u1, .ref d1, .bl true])) (fun j σ' H' => ∃ (y15 y16 y17 : Option V), σ' = [some (.ref a), some (.ref ta), some (.int (0 + (i : Nat))), some (.ref p), some u, some (.ref x), some (.ref sa), x7, x8, x9, x10, x11, x12, some (.str chainS), some (.ref rw_), y15, y16, y17] ∧ Ex HL H')
      ⟨_, _, _, rfl, Ex.refl _⟩ (fun j σ' H' _ ⟨_, _, _, _, e⟩ => sq_of (e _ _ g5)) ?_ ?_
    · rintro j v σ' H10 H11 hj ⟨y15, y16, y17, rfl, e10⟩ ⟨rfl, hv⟩
      obtain ⟨th, qth, tg⟩ := thgs j v hv
      unfold gName
      refine s_forR1 (n := 2) (j := 16) (σ := [some (.ref a), some (.ref ta), some (.int (0 + (i : Nat))), some (.ref p), some u, some (.ref x), some (.ref sa), x7, x8, x9, x10, x11, x12, some (.str chainS), some (.ref rw_), some v, y16, y17]) (ea_cons ev_c ea_nil) ⟨by decide, by decide⟩ (fun wy σ' H' => ∃ (y16 y17 : Option V), σ' = [some (.ref a), some (.ref ta), some (.int (0 + (i : Nat))), some (.ref p), some u, some (.ref x), some (.ref sa), x7, x8, x9, x10, x11, x12, some (.str chainS), some (.ref rw_), some v, y16, y17] ∧ Ex HL H')
        (fun H12 e12 => ⟨_, _, rfl, e10.trans e12⟩) ?_ (fun σ' H' ⟨y16, y17, e, ex⟩ => ⟨_, y16, y17, e, ex⟩)
      rintro wy σ' H12 hwy ⟨z16, z17, rfl, e12⟩
      have hw2 : wy < 2 := by omega
      -- how both are told
      have told : ∀ (dv : V) (H13 : Hp), Ex HL H13 → ((∃ d, readG (wayF wy) W th = some d ∧ Dq K H13 dv d) ∨ (readG (wayF wy) W th = none ∧ dv = .non)) →
          EvT (tTest (tOp rNe (tCB (rRepr K) (tCons (tCall (spTd K C) [] E0 (tCons (tVar 5) (tCons (tVar 16) (tCons (tVar 15) tNil)))) tNil)) (tCB (rRepr K) (tCons (tIf (tTest (tOp (fun x y H Q => y = .non ∧ Q (.bl (decide (x = .non))) H) (tVar 17) (tC .non))) (tLst (tCons (tVar 15) tNil)) (tVar 17)) tNil))))
            [some (.ref a), some (.ref ta), some (.int (0 + (i : Nat))), some (.ref p), some u, some (.ref x), some (.ref sa), x7, x8, x9, x10, x11, x12, some (.str chainS), some (.ref rw_), some v, some (.int (wy : Int)), some dv] H13 false := by
        intro dv H13 e13 hd H14 e14 Q14 k14
        have e14L := e13.trans e14
        refine ⟨_, rfl, _, rfl, _, rfl, x, W, v, th, wy, rfl, waL.ex e14L, ok, hw2, qth.ex e14L, fun t e => (tg.tx t e).1, fun tv d H15 e15 hr qd => ?_, fun hn l H15 hl e15 h15 => ?_⟩
        · obtain ⟨nn, sh, dp, sz⟩ := readG_ok hw2 hr tg.tx
          obtain ⟨d', hr', qd'⟩ : ∃ d', readG (wayF wy) W th = some d' ∧ Dq K H13 dv d' := by
            rcases hd with h | ⟨h, _⟩
            · exact h
            · rw [hr] at h
              cases h
          rw [hr] at hr'
          cases hr'
          have nv : dv ≠ .non := fun z => by
            rw [z] at qd'
            cases qd'
            exact nn rfl
          refine ⟨tv, d, rfl, qd, sh, dp, sz, _, rfl, rfl, _, rfl, ?_⟩
          refine ite2 (fun c => absurd (of_decide_eq_true c) nv) fun _ => ?_
          refine ⟨dv, rfl, dv, d, rfl, qd'.ex (e14.trans e15), sh, dp, sz, rfl, _, rfl, ?_⟩
          have : (!decide (V.str d.shown = V.str d.shown)) = false := by simp
          rw [this]
          exact k14 H15 e15
        · have dn : dv = .non := by
            rcases hd with ⟨d, h, _⟩ | ⟨_, h⟩
            · rw [hn] at h
              cases h
            · exact h
          subst dn
          refine ⟨.ref l, .list [th], rfl, .lst (sq_of h15) (.cons (qth.ex (e14L.trans e15)) .nil), tg.sh, tg.dp, tg.sz, _, rfl, rfl, _, rfl, ?_⟩
          refine ite2 (fun _ => ?_) fun c => absurd rfl c
          refine ⟨_, rfl, (by show 1 ≤ sizeLine; decide), fun l2 hl2 => ?_⟩
          refine ⟨.ref l2, .list [th], rfl, .lst (sq_of upd_same) (.cons (qth.ex ((e14L.trans e15).trans (Ex.new hl2))) .nil), tg.sh, tg.dp, tg.sz, rfl, _, rfl, ?_⟩
          have : (!decide (V.str (PyData.list [th]).shown = V.str (PyData.list [th]).shown)) = false := by simp
          rw [this]
          exact k14 _ (e15.trans (Ex.new hl2))
      refine q_set ?_
      refine ⟨_, rfl, _, rfl, _, rfl, u, W, v, th, wy, rfl, hwL.q.ex e12, ok, hw2, qth.ex e12, tg.tx, fun dv d H13 e13 hr qd => ?_, fun hn H13 e13 => ?_⟩
      · refine s_when (b := false) (told dv H13 (e12.trans e13) (.inl ⟨d, hr, qd⟩)) (fun z => nomatch z) fun _ H14 e14 => ⟨_, _, rfl, (e12.trans e13).trans e14⟩
      · refine s_when (b := false) (told .non H13 (e12.trans e13) (.inr ⟨hn, rfl⟩)) (fun z => nomatch z) fun _ H14 e14 => ⟨_, _, rfl, (e12.trans e13).trans e14⟩
    · rintro σ' H10 ⟨y15, y16, y17, rfl, e10⟩
      exact ⟨_, _, _, _, _, _, _, _, _, _, _, _, _, _, _, _, rfl, eTL.trans e10⟩
end
end KW
namespace KW
open PySem PySem.Spec PyProof.Rows L2 Evl
section
variable {P : Program} {w : World} {K : PySem.W.Frag} {mg : Str → Option Value} {base : Heap}
/-- World's __init__ as the top has left it: more is False -/
theorem init_kb {f : Addr} {fd : FuncData} (F : FunD K "__init__" "World.__init__" (defArgs s_World___init__) (defBody s_World___init__) (defScope s_World___init__) [] [("more", .bl false)] f fd) :
    (∃ mv : List Value, KBn K fd ["self", "signs", "more"] 2 ["more"] (fun us ws => us ++ ws) (fun vs zs => vs ++ zs)) ∧ ∃ ds, Vals [V.bl false] ds ∧ Binds K fd ["self", "signs", "more"] ds := by
  refine ⟨?_, ?_⟩
  · exact FunD.kbinds0 F 2 ["more"] [] (fun us _ ws => us ++ ws) (by simp) (fun q h => nomatch h) (fun r _ r2 => r.append r2) fun D doc pm an cdv ct us mv ws l1 l2 l3 => by
      match us, ws, l1, l3 with
      | [u1, u2], [w1], _, _ => exact rfl
  · exact FunD.binds0 F 2 (by simp) rfl fun D doc pm an cdv ct us ks l1 l2 => by
      match us, ks, l1, l2 with
      | [u1, u2], [k1], _, _ => exact ⟨_, _, _, _, _, _, rfl, rfl, rfl⟩
end
abbrev FnH (K : PySem.W.Frag) (x q : Str) (st : Stmt) (f : Addr) : Prop := ∃ (oc : Value) (od : Option Addr) (kV dc pm : Value) (an : Option Addr) (cd ct : Value) (sl : Array (Option Value)), K.lookup f = some ⟨oc, od, .func (PySem.W.fnOf x q (defArgs st) (defBody st) (defScope st) .none kV dc pm an cd ct), sl⟩ ∧ PySem.W.codeIn K cd q = true
theorem fn_mk {K : PySem.W.Frag} {f : Addr} {nm q : Str} {st : Stmt} {oc : Value} {od : Option Addr} {kV dc pm : Value} {an : Option Addr} {cd ct : Value} {sl : Array (Option Value)} (h : K.lookup f = some ⟨oc, od, .func (PySem.W.fnOf nm q (defArgs st) (defBody st) (defScope st) .none kV dc pm an cd ct), sl⟩) (c : PySem.W.codeIn K cd q = true) : FnH K nm q st f := ⟨oc, od, kV, dc, pm, an, cd, ct, sl, h, c⟩
theorem FnH.f {K : PySem.W.Frag} {f : Addr} {nm q : Str} {st : Stmt} (h : FnH K nm q st f) (k : PySem.W.keepIn K (.ref f) = true) : ∃ fd, Fun K nm q st f fd := let ⟨_, _, _, _, _, _, _, _, _, l, c⟩ := h; ⟨_, fun_mk l c k⟩
/-- a def as the top has left it -/
structure DefH (K : PySem.W.Frag) (nm : Str) (st : Stmt) (f : Addr) : Prop where
  a : PySem.W.nsIn K mainGlobals nm = some (some (.ref f))
  fn : FnH K nm nm st f
  k : PySem.W.keepIn K (.ref f) = true
/-- a method of World -/
structure MthH (K : PySem.W.Frag) (C : Addr) (m q : Str) (st : Stmt) (f : Addr) : Prop where
  a : PySem.W.findIn K (.ref C) m = some (some (.ref f))
  i : PySem.W.isFn K (.ref f) = true
  fn : FnH K m q st f
  k : PySem.W.keepIn K (.ref f) = true
theorem MthH.m {K : PySem.W.Frag} {C f : Addr} {m q : Str} {st : Stmt} (h : MthH K C m q st f) : Meth K C m f := ⟨h.a, h.i, h.k⟩
/-- a property -/
structure PrpH (K : PySem.W.Frag) (C : Addr) (m q : Str) (st : Stmt) (p g : Addr) : Prop where
  a : PySem.W.findIn K (.ref C) m = some (some (.ref p))
  get : PySem.W.specialIn K (.ref p) "__get__" = some (some (.builtin "property.__get__"))
  tak : PySem.W.takesIn K (.ref p) = some true
  rec_ : ∃ rest, PySem.W.recIn K p "property" = some (.ref g :: rest)
  fn : FnH K m q st g
  k : PySem.W.keepIn K (.ref g) = true
theorem rec_mk {K : PySem.W.Frag} {p g : Addr} {rest : List Value} (h : PySem.W.recIn K p "property" = some (.ref g :: rest)) : ∃ rest, PySem.W.recIn K p "property" = some (.ref g :: rest) := ⟨rest, h⟩
theorem PrpH.p {K : PySem.W.Frag} {C p g : Addr} {m q : Str} {st : Stmt} (h : PrpH K C m q st p g) : PropOf K C m p g := ⟨h.a, h.get, h.tak, h.rec_⟩
/-- World's __init__ -/
structure IniH (K : PySem.W.Frag) (C f : Addr) : Prop where
  a : PySem.W.findIn K (.ref C) "__init__" = some (some (.ref f))
  i : PySem.W.isFn K (.ref f) = true
  fn : ∃ (oc : Value) (od : Option Addr) (D : Addr) (dc pm : Value) (an : Option Addr) (cd ct : Value) (sl : Array (Option Value)), K.lookup f = some ⟨oc, od, .func (PySem.W.fnOf "__init__" "World.__init__" (defArgs s_World___init__) (defBody s_World___init__) (defScope s_World___init__) .none (.ref D) dc pm an cd ct), sl⟩ ∧ PySem.W.codeIn K cd "World.__init__" = true ∧ PySem.W.nsIn K D "more" = some (some (.bool false))
  k : PySem.W.keepIn K (.ref f) = true
theorem ini_mk {K : PySem.W.Frag} {f : Addr} {oc : Value} {od : Option Addr} {D : Addr} {dc pm : Value} {an : Option Addr} {cd ct : Value} {sl : Array (Option Value)} (h : K.lookup f = some ⟨oc, od, .func (PySem.W.fnOf "__init__" "World.__init__" (defArgs s_World___init__) (defBody s_World___init__) (defScope s_World___init__) .none (.ref D) dc pm an cd ct), sl⟩) (c : PySem.W.codeIn K cd "World.__init__" = true) (n : PySem.W.nsIn K D "more" = some (some (.bool false))) :
    ∃ (oc : Value) (od : Option Addr) (D : Addr) (dc pm : Value) (an : Option Addr) (cd ct : Value) (sl : Array (Option Value)), K.lookup f = some ⟨oc, od, .func (PySem.W.fnOf "__init__" "World.__init__" (defArgs s_World___init__) (defBody s_World___init__) (defScope s_World___init__) .none (.ref D) dc pm an cd ct), sl⟩ ∧ PySem.W.codeIn K cd "World.__init__" = true ∧ PySem.W.nsIn K D "more" = some (some (.bool false)) := ⟨oc, od, D, dc, pm, an, cd, ct, sl, h, c, n⟩
/-- what the top has left of an error's class and its __init__ -/
structure ErrH (K : PySem.W.Frag) (nm q : Str) (st : Stmt) (fe C fI : Addr) : Prop where
  aC : PySem.W.nsIn K mainGlobals nm = some (some (.ref C))
  xL : ∃ n' q' N bs sn sub ab col dd k0 k1 k2 k3 k5, K.lookup C = some (excClassObj n' q' C N bs [.ref fe, .type "ValueError", .type "Exception", .type "BaseException", .type "object"] true sn sub ab col dd k0 k1 k2 k3 k5 "ValueError.__new__")
  sa : PySem.W.findIn K (.ref C) "__setattr__" = some (some (.builtin "object.__setattr__"))
  ga : PySem.W.findIn K (.ref C) "__getattribute__" = some (some (.builtin "BaseException.__getattribute__"))
  gg : PySem.W.findIn K (.ref C) "__getattr__" = some none
  no : PySem.W.findIn K (.ref C) "value" = some none
  iC : PySem.W.findIn K (.ref C) "__init__" = some (some (.ref fI))
  tI : PySem.W.typeIn K (.ref fI) = some (.type "function")
  fn : FnH K "__init__" q st fI
  kf : PySem.W.keepIn K (.ref fI) = true
  kC : PySem.W.keepIn K (.ref C) = true
  eC : PySem.W.subIn K (.ref C) (.type "BaseException") = some true
  tC : PySem.W.typeIn K (.ref C) = some (.type "type")
  hC : PySem.W.hasDictIn K C = true
  ic : PySem.W.isClsIn K C = true
  me : PySem.W.mroIn K C (.ref C) = some true
theorem exm_mk {K : PySem.W.Frag} {C : Addr} (eC : PySem.W.subIn K (.ref C) (.type "BaseException") = some true) (tC : PySem.W.typeIn K (.ref C) = some (.type "type")) (ic : PySem.W.isClsIn K C = true) (me : PySem.W.mroIn K C (.ref C) = some true) : PySem.W.exmOne K (.ref C) (.ref C) = some true := by
  unfold PySem.W.exmOne PySem.W.kitCls
  have h1 : (PySem.W.clsIn K C).isSome = true := ic
  rw [eC, if_pos (by rfl)]
  show (if ((PySem.W.clsIn K C).isSome && PySem.W.typeIn K (.ref C) == some (.type "type")) = true then PySem.W.subIn K (.ref C) (.ref C) else none) = some true
  rw [h1, tC, if_pos (by rfl)]
  exact me
theorem kit_no {K : PySem.W.Frag} {C : Addr} {T : String} (ic : PySem.W.isClsIn K C = true) (ty : PySem.W.typeIn K (.ref C) = some (.type "type")) (hs : PySem.W.subIn K (.type T) (.ref C) = some false) : PySem.W.kitOne K (.type T) (.ref C) = some false := by
  unfold PySem.W.kitOne PySem.W.kitCls
  have h1 : (PySem.W.clsIn K C).isSome = true := ic
  have h0 : ¬ (Value.type T == Value.ref C) = true := by simp
  rw [if_neg h0]
  show (if ((PySem.W.clsIn K C).isSome && PySem.W.typeIn K (.ref C) == some (.type "type")) = true then PySem.W.subIn K (.type T) (.ref C) else none) = some false
  rw [h1, ty, if_pos (by rfl)]
  exact hs
theorem xL_mk {K : PySem.W.Frag} {fe C : Addr} {n' q' : Str} {N : Addr} {bs : List Value} {sn : List Str} {sub : List Value} {ab : Bool} {col : Option Bool} {dd : Option Addr} {k0 k1 k2 k3 k5 : Option Value} (h : K.lookup C = some (excClassObj n' q' C N bs [.ref fe, .type "ValueError", .type "Exception", .type "BaseException", .type "object"] true sn sub ab col dd k0 k1 k2 k3 k5 "ValueError.__new__")) :
    ∃ n' q' N bs sn sub ab col dd k0 k1 k2 k3 k5, K.lookup C = some (excClassObj n' q' C N bs [.ref fe, .type "ValueError", .type "Exception", .type "BaseException", .type "object"] true sn sub ab col dd k0 k1 k2 k3 k5 "ValueError.__new__") := ⟨n', q', N, bs, sn, sub, ab, col, dd, k0, k1, k2, k3, k5, h⟩
theorem ErrH.oex {K : PySem.W.Frag} {nm q : Str} {st : Stmt} {fe C fI : Addr} (e : ErrH K nm q st fe C fI) : OexC K C := by
  obtain ⟨n', q', N, bs, sn, sub, ab, col, dd, k0, k1, k2, k3, k5, hL⟩ := e.xL
  exact ⟨⟨n', q', N, bs, _, sn, sub, ab, col, dd, k0, k1, k2, k3, k5, hL, rfl⟩, e.sa, e.eC, e.tC, e.kC⟩
theorem ErrH.ce {K : PySem.W.Frag} {mg : Str → Option Value} {h : Heap} {nm q : Str} {st : Stmt} {fe C fI : Addr} (X : K.In h) (G : h.Ns mainGlobals mg) (e : ErrH K nm q st fe C fI) : CE K mg nm C := ⟨⟨e.ga, e.gg, e.eC, e.hC⟩, exm_mk e.eC e.tC e.ic e.me, e.no, PySem.W.mg_of X G e.aC⟩
/-- World's class -/
structure WorH (K : PySem.W.Frag) (C : Addr) : Prop where
  aC : PySem.W.nsIn K mainGlobals "World" = some (some (.ref C))
  pg : PySem.W.plainGet K C Str.empty = true
  hd : PySem.W.hasDictIn K C = true
  po : PySem.W.plainOver K C = true
  sa : PySem.W.findIn K (.ref C) "__setattr__" = some (some (.builtin "object.__setattr__"))
  nS : PySem.W.findIn K (.ref C) "_signs" = some none
  nM : PySem.W.findIn K (.ref C) "_more" = some none
  nN : PySem.W.findIn K (.ref C) "_numbers" = some none
  nR : PySem.W.findIn K (.ref C) "_ranks" = some none
  mw : PySem.W.makesIn K C = true
  kp : PySem.W.keepIn K (.ref C) = true
  cc : PySem.W.findIn K (.ref C) "__class__" = some (some (.builtin "object.__class__"))
  hn : PySem.W.specialIn K (.builtin "object.__class__") "__get__" = some (some (.builtin "getset_descriptor.__get__"))
  tk : PySem.W.takesIn K (.builtin "object.__class__") = some true
  mo : PySem.W.mroIn K C (.type "object") = some true
  ic : PySem.W.isClsIn K C = true
  ty : PySem.W.typeIn K (.ref C) = some (.type "type")
theorem WorH.wc {K : PySem.W.Frag} {C : Addr} (h : WorH K C) : WC K C := ⟨⟨h.pg, h.hd, h.po, h.sa⟩, h.nS, h.nM, h.nN, h.nR⟩
/-- the module's numbers -/
structure NumH (K : PySem.W.Frag) : Prop where
  dg : ∃ t, PySem.W.nsIn K mainGlobals "DIGITS" = some (some (.str digitS t))
  md : ∃ t, PySem.W.nsIn K mainGlobals "MOST_DIGITS" = some (some (.int 800 t))
  l : ∃ t, PySem.W.nsIn K mainGlobals "LETTERS" = some (some (.str alpha t))
  n : ∃ t, PySem.W.nsIn K mainGlobals "LONGEST_NAME" = some (some (.int 8 t))
  s : ∃ t, PySem.W.nsIn K mainGlobals "MOST_SIGNS" = some (some (.int 6 t))
  p : ∃ t, PySem.W.nsIn K mainGlobals "MOST_PARTS" = some (some (.int 3 t))
theorem str_mk {K : PySem.W.Frag} {x z : Str} {t : Tok} (h : PySem.W.nsIn K mainGlobals x = some (some (.str z t))) : ∃ t, PySem.W.nsIn K mainGlobals x = some (some (.str z t)) := ⟨t, h⟩
theorem int_mk {K : PySem.W.Frag} {x : Str} {i : Int} {t : Tok} (h : PySem.W.nsIn K mainGlobals x = some (some (.int i t))) : ∃ t, PySem.W.nsIn K mainGlobals x = some (some (.int i t)) := ⟨t, h⟩
theorem NumH.dt {K : PySem.W.Frag} {h : Heap} {mg : Str → Option Value} (X : K.In h) (G : h.Ns mainGlobals mg) (n : NumH K) : Dt mg := ⟨let ⟨t, e⟩ := n.dg; ⟨t, PySem.W.mg_of X G e⟩, let ⟨t, e⟩ := n.md; ⟨t, PySem.W.mg_of X G e⟩⟩
theorem NumH.nt {K : PySem.W.Frag} {h : Heap} {mg : Str → Option Value} (X : K.In h) (G : h.Ns mainGlobals mg) (n : NumH K) : Nt mg := ⟨let ⟨t, e⟩ := n.l; ⟨t, PySem.W.mg_of X G e⟩, let ⟨t, e⟩ := n.n; ⟨t, PySem.W.mg_of X G e⟩, let ⟨t, e⟩ := n.s; ⟨t, PySem.W.mg_of X G e⟩, let ⟨t, e⟩ := n.p; ⟨t, PySem.W.mg_of X G e⟩⟩
/-- built-ins left alone -/
structure BtH (K : PySem.W.Frag) : Prop where
  isinstance : PySem.W.nsIn K mainGlobals "isinstance" = some none
  len : PySem.W.nsIn K mainGlobals "len" = some none
  int : PySem.W.nsIn K mainGlobals "int" = some none
  bool : PySem.W.nsIn K mainGlobals "bool" = some none
  str : PySem.W.nsIn K mainGlobals "str" = some none
  tuple : PySem.W.nsIn K mainGlobals "tuple" = some none
  list : PySem.W.nsIn K mainGlobals "list" = some none
  set : PySem.W.nsIn K mainGlobals "set" = some none
  all : PySem.W.nsIn K mainGlobals "all" = some none
  max : PySem.W.nsIn K mainGlobals "max" = some none
  min : PySem.W.nsIn K mainGlobals "min" = some none
  dict : PySem.W.nsIn K mainGlobals "dict" = some none
  enumerate : PySem.W.nsIn K mainGlobals "enumerate" = some none
  reversed : PySem.W.nsIn K mainGlobals "reversed" = some none
  range : PySem.W.nsIn K mainGlobals "range" = some none
  repr : PySem.W.nsIn K mainGlobals "repr" = some none
  zip : PySem.W.nsIn K mainGlobals "zip" = some none
  sum : PySem.W.nsIn K mainGlobals "sum" = some none
theorem BtH.bt {K : PySem.W.Frag} {h : Heap} {mg : Str → Option Value} (X : K.In h) (G : h.Ns mainGlobals mg) (b : BtH K) : Bt mg := ⟨PySem.W.mg_none_of X G b.isinstance, PySem.W.mg_none_of X G b.len, PySem.W.mg_none_of X G b.int, PySem.W.mg_none_of X G b.bool, PySem.W.mg_none_of X G b.str, PySem.W.mg_none_of X G b.tuple, PySem.W.mg_none_of X G b.list, PySem.W.mg_none_of X G b.set, PySem.W.mg_none_of X G b.all, PySem.W.mg_none_of X G b.max, PySem.W.mg_none_of X G b.min, PySem.W.mg_none_of X G b.dict, PySem.W.mg_none_of X G b.enumerate, PySem.W.mg_none_of X G b.reversed, PySem.W.mg_none_of X G b.range, PySem.W.mg_none_of X G b.repr, PySem.W.mg_none_of X G b.zip, PySem.W.mg_none_of X G b.sum⟩
theorem FnOkG.mono {P : Program} {w : World} {K : PySem.W.Frag} {mg : Str → Option Value} {base : Heap} {CX : CXT} {j k : Nat} {f : Addr} {fd : FuncData} {ps : List Str} {sp : Sp} (F : FnOkG P w K mg base CX j f fd ps sp) (h : j ≤ k) : FnOkG P w K mg base CX k f fd ps sp := ⟨F.len, fun A outer s H args us vs Q E hr => F.run A outer s H args us vs Q E (hr.mono h)⟩
theorem all_mk {l : PySem.W.OpenLaw} {w : World} {K : PySem.W.Frag} {h : Heap} {mg : Str → Option Value} {fa fe C fI CB iB CT iT f_is_integer f_is_name f_is_sign f_are_signs f_form_text f_told_by f_number_or_name f_read_form f_read_tree f_Lsource f_Ldraw f_Lpick f_Lmixed f_Lword f_Lworld f_Lmade f_Ltree f_Lform f_Lis_form f_Lis_tree f_Ltext f_Lread f_Lnumbered f_Ldue f_Ltold f_Lbent f_law m_is_tree m_is_form m_has_sign m_is_further m_is_open : Addr} (X : K.In h) (G : h.Ns mainGlobals mg) (hfa : mg "law" = some (.ref fa))
    (hB : BtH K) (hN : NumH K) (hW : WorH K C) (hI : IniH K C fI) (eB : ErrH K "BadSigns" "BadSigns.__init__" s_BadSigns___init__ fe CB iB) (eT : ErrH K "BadText" "BadText.__init__" s_BadText___init__ fe CT iT)
    (d_is_integer : DefH K "is_integer" s_is_integer f_is_integer)
    (d_is_name : DefH K "is_name" s_is_name f_is_name)
    (d_is_sign : DefH K "is_sign" s_is_sign f_is_sign)
    (d_are_signs : DefH K "are_signs" s_are_signs f_are_signs)
    (d_form_text : DefH K "form_text" s_form_text f_form_text)
    (d_told_by : DefH K "told_by" s_told_by f_told_by)
    (d_number_or_name : DefH K "number_or_name" s_number_or_name f_number_or_name)
    (d_read_form : DefH K "read_form" s_read_form f_read_form)
    (d_read_tree : DefH K "read_tree" s_read_tree f_read_tree)
    (d_Lsource : DefH K "_law_source" s_law_source f_Lsource)
    (d_Ldraw : DefH K "_law_draw" s_law_draw f_Ldraw)
    (d_Lpick : DefH K "_law_pick" s_law_pick f_Lpick)
    (d_Lmixed : DefH K "_law_mixed" s_law_mixed f_Lmixed)
    (d_Lword : DefH K "_law_word" s_law_word f_Lword)
    (d_Lworld : DefH K "_law_world" s_law_world f_Lworld)
    (d_Lmade : DefH K "_law_made" s_law_made f_Lmade)
    (d_Ltree : DefH K "_law_tree" s_law_tree f_Ltree)
    (d_Lform : DefH K "_law_form" s_law_form f_Lform)
    (d_Lis_form : DefH K "_law_is_form" s_law_is_form f_Lis_form)
    (d_Lis_tree : DefH K "_law_is_tree" s_law_is_tree f_Lis_tree)
    (d_Ltext : DefH K "_law_text" s_law_text f_Ltext)
    (d_Lread : DefH K "_law_read" s_law_read f_Lread)
    (d_Lnumbered : DefH K "_law_numbered" s_law_numbered f_Lnumbered)
    (d_Ldue : DefH K "_law_due" s_law_due f_Ldue)
    (d_Ltold : DefH K "_law_told" s_law_told f_Ltold)
    (d_Lbent : DefH K "_law_bent" s_law_bent f_Lbent)
    (d_law : DefH K "law" s_law f_law)
    (n_is_tree : MthH K C "is_tree" "World.is_tree" s_World_is_tree m_is_tree)
    (n_is_form : MthH K C "is_form" "World.is_form" s_World_is_form m_is_form)
    (n_has_sign : MthH K C "_has_sign" "World._has_sign" s_World__has_sign m_has_sign)
    (n_is_further : MthH K C "_is_further" "World._is_further" s_World__is_further m_is_further)
    (n_is_open : MthH K C "_is_open" "World._is_open" s_World__is_open m_is_open)
    : ∃ fd : FuncData, (∀ (s : Shared) (v : Value), BindsTo s fd ⟨[v], []⟩ [("script", v)]) ∧ ∀ base : Heap, K.In base → base.Ns mainGlobals mg → FnOkG l.prog w K mg base CX0 83 fa fd ["script"] (spLaw K) := by
  have e := hfa.symm.trans (PySem.W.mg_of X G d_law.a)
  cases e
  have B := hB.bt X G
  have M := hN.nt X G
  have MD := hN.dt X G
  have T := hW.wc
  have gW := PySem.W.mg_of X G hW.aC
  have ZB := eB.ce X G
  have ZT := eT.ce X G
  obtain ⟨fd_is_integer, F_is_integer⟩ := d_is_integer.fn.f d_is_integer.k
  have b_is_integer := F_is_integer.binds (ps := ["value"]) fun _ _ _ _ _ _ us hl => match us, hl with | [_], _ => rfl
  have q_is_integer := PySem.W.mg_of X G d_is_integer.a
  obtain ⟨fd_is_name, F_is_name⟩ := d_is_name.fn.f d_is_name.k
  have b_is_name := F_is_name.binds (ps := ["value"]) fun _ _ _ _ _ _ us hl => match us, hl with | [_], _ => rfl
  have q_is_name := PySem.W.mg_of X G d_is_name.a
  obtain ⟨fd_is_sign, F_is_sign⟩ := d_is_sign.fn.f d_is_sign.k
  have b_is_sign := F_is_sign.binds (ps := ["value"]) fun _ _ _ _ _ _ us hl => match us, hl with | [_], _ => rfl
  have q_is_sign := PySem.W.mg_of X G d_is_sign.a
  obtain ⟨fd_are_signs, F_are_signs⟩ := d_are_signs.fn.f d_are_signs.k
  have b_are_signs := F_are_signs.binds (ps := ["value"]) fun _ _ _ _ _ _ us hl => match us, hl with | [_], _ => rfl
  have q_are_signs := PySem.W.mg_of X G d_are_signs.a
  obtain ⟨fd_form_text, F_form_text⟩ := d_form_text.fn.f d_form_text.k
  have b_form_text := F_form_text.binds (ps := ["form"]) fun _ _ _ _ _ _ us hl => match us, hl with | [_], _ => rfl
  have q_form_text := PySem.W.mg_of X G d_form_text.a
  obtain ⟨fd_told_by, F_told_by⟩ := d_told_by.fn.f d_told_by.k
  have b_told_by := F_told_by.binds (ps := ["text"]) fun _ _ _ _ _ _ us hl => match us, hl with | [_], _ => rfl
  have q_told_by := PySem.W.mg_of X G d_told_by.a
  obtain ⟨fd_number_or_name, F_number_or_name⟩ := d_number_or_name.fn.f d_number_or_name.k
  have b_number_or_name := F_number_or_name.binds (ps := ["word"]) fun _ _ _ _ _ _ us hl => match us, hl with | [_], _ => rfl
  have q_number_or_name := PySem.W.mg_of X G d_number_or_name.a
  obtain ⟨fd_read_form, F_read_form⟩ := d_read_form.fn.f d_read_form.k
  have b_read_form := F_read_form.binds (ps := ["world", "text"]) fun _ _ _ _ _ _ us hl => match us, hl with | [_, _], _ => rfl
  have q_read_form := PySem.W.mg_of X G d_read_form.a
  obtain ⟨fd_read_tree, F_read_tree⟩ := d_read_tree.fn.f d_read_tree.k
  have b_read_tree := F_read_tree.binds (ps := ["world", "text"]) fun _ _ _ _ _ _ us hl => match us, hl with | [_, _], _ => rfl
  have q_read_tree := PySem.W.mg_of X G d_read_tree.a
  obtain ⟨fd_Lsource, F_Lsource⟩ := d_Lsource.fn.f d_Lsource.k
  have b_Lsource := F_Lsource.binds (ps := ["script", "start"]) fun _ _ _ _ _ _ us hl => match us, hl with | [_, _], _ => rfl
  have q_Lsource := PySem.W.mg_of X G d_Lsource.a
  obtain ⟨fd_Ldraw, F_Ldraw⟩ := d_Ldraw.fn.f d_Ldraw.k
  have b_Ldraw := F_Ldraw.binds (ps := ["source", "span"]) fun _ _ _ _ _ _ us hl => match us, hl with | [_, _], _ => rfl
  have q_Ldraw := PySem.W.mg_of X G d_Ldraw.a
  obtain ⟨fd_Lpick, F_Lpick⟩ := d_Lpick.fn.f d_Lpick.k
  have b_Lpick := F_Lpick.binds (ps := ["source", "things"]) fun _ _ _ _ _ _ us hl => match us, hl with | [_, _], _ => rfl
  have q_Lpick := PySem.W.mg_of X G d_Lpick.a
  obtain ⟨fd_Lmixed, F_Lmixed⟩ := d_Lmixed.fn.f d_Lmixed.k
  have b_Lmixed := F_Lmixed.binds (ps := ["source", "things"]) fun _ _ _ _ _ _ us hl => match us, hl with | [_, _], _ => rfl
  have q_Lmixed := PySem.W.mg_of X G d_Lmixed.a
  obtain ⟨fd_Lword, F_Lword⟩ := d_Lword.fn.f d_Lword.k
  have b_Lword := F_Lword.binds (ps := ["source"]) fun _ _ _ _ _ _ us hl => match us, hl with | [_], _ => rfl
  have q_Lword := PySem.W.mg_of X G d_Lword.a
  obtain ⟨fd_Lworld, F_Lworld⟩ := d_Lworld.fn.f d_Lworld.k
  have b_Lworld := F_Lworld.binds (ps := ["source"]) fun _ _ _ _ _ _ us hl => match us, hl with | [_], _ => rfl
  have q_Lworld := PySem.W.mg_of X G d_Lworld.a
  obtain ⟨fd_Lmade, F_Lmade⟩ := d_Lmade.fn.f d_Lmade.k
  have b_Lmade := F_Lmade.binds (ps := ["world"]) fun _ _ _ _ _ _ us hl => match us, hl with | [_], _ => rfl
  have q_Lmade := PySem.W.mg_of X G d_Lmade.a
  obtain ⟨fd_Ltree, F_Ltree⟩ := d_Ltree.fn.f d_Ltree.k
  have b_Ltree := F_Ltree.binds (ps := ["source", "world", "deep"]) fun _ _ _ _ _ _ us hl => match us, hl with | [_, _, _], _ => rfl
  have q_Ltree := PySem.W.mg_of X G d_Ltree.a
  obtain ⟨fd_Lform, F_Lform⟩ := d_Lform.fn.f d_Lform.k
  have b_Lform := F_Lform.binds (ps := ["source", "world", "deep", "letters", "blank"]) fun _ _ _ _ _ _ us hl => match us, hl with | [_, _, _, _, _], _ => rfl
  have q_Lform := PySem.W.mg_of X G d_Lform.a
  obtain ⟨fd_Lis_form, F_Lis_form⟩ := d_Lis_form.fn.f d_Lis_form.k
  have b_Lis_form := F_Lis_form.binds (ps := ["world", "thing"]) fun _ _ _ _ _ _ us hl => match us, hl with | [_, _], _ => rfl
  have q_Lis_form := PySem.W.mg_of X G d_Lis_form.a
  obtain ⟨fd_Lis_tree, F_Lis_tree⟩ := d_Lis_tree.fn.f d_Lis_tree.k
  have b_Lis_tree := F_Lis_tree.binds (ps := ["world", "thing"]) fun _ _ _ _ _ _ us hl => match us, hl with | [_, _], _ => rfl
  have q_Lis_tree := PySem.W.mg_of X G d_Lis_tree.a
  obtain ⟨fd_Ltext, F_Ltext⟩ := d_Ltext.fn.f d_Ltext.k
  have b_Ltext := F_Ltext.binds (ps := ["form"]) fun _ _ _ _ _ _ us hl => match us, hl with | [_], _ => rfl
  have q_Ltext := PySem.W.mg_of X G d_Ltext.a
  obtain ⟨fd_Lread, F_Lread⟩ := d_Lread.fn.f d_Lread.k
  have b_Lread := F_Lread.binds (ps := ["text"]) fun _ _ _ _ _ _ us hl => match us, hl with | [_], _ => rfl
  have q_Lread := PySem.W.mg_of X G d_Lread.a
  obtain ⟨fd_Lnumbered, F_Lnumbered⟩ := d_Lnumbered.fn.f d_Lnumbered.k
  have b_Lnumbered := F_Lnumbered.binds (ps := ["thing"]) fun _ _ _ _ _ _ us hl => match us, hl with | [_], _ => rfl
  have q_Lnumbered := PySem.W.mg_of X G d_Lnumbered.a
  obtain ⟨fd_Ldue, F_Ldue⟩ := d_Ldue.fn.f d_Ldue.k
  have b_Ldue := F_Ldue.binds (ps := ["world", "way", "thing"]) fun _ _ _ _ _ _ us hl => match us, hl with | [_, _, _], _ => rfl
  have q_Ldue := PySem.W.mg_of X G d_Ldue.a
  obtain ⟨fd_Ltold, F_Ltold⟩ := d_Ltold.fn.f d_Ltold.k
  have b_Ltold := F_Ltold.binds (ps := ["made", "way", "thing"]) fun _ _ _ _ _ _ us hl => match us, hl with | [_, _, _], _ => rfl
  have q_Ltold := PySem.W.mg_of X G d_Ltold.a
  obtain ⟨fd_Lbent, F_Lbent⟩ := d_Lbent.fn.f d_Lbent.k
  have b_Lbent := F_Lbent.binds (ps := ["source", "text"]) fun _ _ _ _ _ _ us hl => match us, hl with | [_, _], _ => rfl
  have q_Lbent := PySem.W.mg_of X G d_Lbent.a
  obtain ⟨fd_law, F_law⟩ := d_law.fn.f d_law.k
  have b_law := F_law.binds (ps := ["script"]) fun _ _ _ _ _ _ us hl => match us, hl with | [_], _ => rfl
  have q_law := PySem.W.mg_of X G d_law.a
  obtain ⟨hd_is_tree, H_is_tree⟩ := n_is_tree.fn.f n_is_tree.k
  have c_is_tree := H_is_tree.binds (ps := ["self", "value"]) fun _ _ _ _ _ _ us hl => match us, hl with | [_, _], _ => rfl
  obtain ⟨hd_is_form, H_is_form⟩ := n_is_form.fn.f n_is_form.k
  have c_is_form := H_is_form.binds (ps := ["self", "value"]) fun _ _ _ _ _ _ us hl => match us, hl with | [_, _], _ => rfl
  obtain ⟨hd_has_sign, H_has_sign⟩ := n_has_sign.fn.f n_has_sign.k
  have c_has_sign := H_has_sign.binds (ps := ["self", "value"]) fun _ _ _ _ _ _ us hl => match us, hl with | [_, _], _ => rfl
  obtain ⟨hd_is_further, H_is_further⟩ := n_is_further.fn.f n_is_further.k
  have c_is_further := H_is_further.binds (ps := ["self", "value"]) fun _ _ _ _ _ _ us hl => match us, hl with | [_, _], _ => rfl
  obtain ⟨hd_is_open, H_is_open⟩ := n_is_open.fn.f n_is_open.k
  have c_is_open := H_is_open.binds (ps := ["self", "value"]) fun _ _ _ _ _ _ us hl => match us, hl with | [_, _], _ => rfl
  obtain ⟨ed_B, E_B⟩ := eB.fn.f eB.kf
  have x_B := E_B.binds (ps := ["self", "value"]) fun _ _ _ _ _ _ us hl => match us, hl with | [_, _], _ => rfl
  obtain ⟨ed_T, E_T⟩ := eT.fn.f eT.kf
  have x_T := E_T.binds (ps := ["self", "value"]) fun _ _ _ _ _ _ us hl => match us, hl with | [_, _], _ => rfl
  obtain ⟨oc, od, D, dc, pm, an, cd, ct, sl, lI, cI, nI⟩ := hI.fn
  have F_I : Fun K "__init__" "World.__init__" s_World___init__ fI _ := fun_mk lI cI hI.k
  have FD_I : FunD K "__init__" "World.__init__" (defArgs s_World___init__) (defBody s_World___init__) (defScope s_World___init__) [] [("more", .bl false)] fI (PySem.W.fnOf "__init__" "World.__init__" (defArgs s_World___init__) (defBody s_World___init__) (defScope s_World___init__) .none (.ref D) dc pm an cd ct) := ⟨⟨oc, od, .none, .ref D, dc, pm, an, cd, ct, sl, rfl, lI, cI, .inl ⟨rfl, rfl⟩, .inr ⟨D, rfl, fun q hq => by
    rw [List.mem_singleton] at hq
    subst hq
    exact ⟨_, nI, rfl⟩⟩⟩, hI.k⟩
  obtain ⟨⟨mv, kbI⟩, dsI, nvI, nbI⟩ := init_kb FD_I
  refine ⟨fd_law, fun s v => ?_, fun base hK hNs => ?_⟩
  · obtain ⟨_, _, _, _, _, _, _, _, _, e, _, _⟩ := F_law.ex
    rw [e]
    exact .of_eq rfl
  have EB : EC l.prog w K mg base "BadSigns" CB iB ed_B := ⟨eB.oex, eB.iC, eB.tI, x_B, ZB.g, eB.no, ok_bad_signs E_B⟩
  have ET : EC l.prog w K mg base "BadText" CT iT ed_T := ⟨eT.oex, eT.iC, eT.tI, x_T, ZT.g, eT.no, ok_bad_text E_T⟩
  have G_is_integer := ok_is_integer (P := l.prog) (w := w) (mg := mg) (base := base) F_is_integer B
  have G_is_name := ok_is_name (P := l.prog) (w := w) (mg := mg) (base := base) F_is_name B M
  have G_is_sign := ok_is_sign (P := l.prog) (w := w) (mg := mg) (base := base) F_is_sign B M F_is_name b_is_name q_is_name F_is_integer b_is_integer q_is_integer
  have G_are_signs := ok_are_signs (P := l.prog) (w := w) (mg := mg) (base := base) F_are_signs B M F_is_sign b_is_sign q_is_sign F_is_name b_is_name q_is_name F_is_integer b_is_integer q_is_integer
  have I_has := ok_has_sign (P := l.prog) (w := w) (mg := mg) (base := base) H_has_sign B T
  have I_fur := ok_is_further (P := l.prog) (w := w) (mg := mg) (base := base) H_is_further B T F_is_integer b_is_integer q_is_integer
  have I_open := ok_is_open (P := l.prog) (w := w) (mg := mg) (base := base) H_is_open B M T F_is_name b_is_name q_is_name
  have I_tree := ok_is_tree (P := l.prog) (w := w) (mg := mg) (base := base) H_is_tree T n_has_sign.m c_has_sign (I_has.mono (by decide)) n_is_further.m c_is_further (I_fur.mono (by decide))
  have I_form := ok_is_form (P := l.prog) (w := w) (mg := mg) (base := base) H_is_form T n_has_sign.m c_has_sign (I_has.mono (by decide)) n_is_open.m c_is_open (I_open.mono (by decide))
  have I_init := ok_world (P := l.prog) (w := w) (mg := mg) (base := base) F_I B T d_are_signs.k b_are_signs q_are_signs (G_are_signs.mono (by decide)) EB
  have WMk : WM l.prog w K mg base C CB fI _ _ dsI := ⟨⟨hW.mw, hI.a, hI.i, hW.kp⟩, T, gW, I_init, kbI, nbI, nvI⟩
  have G_ft := ok_form_text (P := l.prog) (w := w) (mg := mg) (base := base) F_form_text B
  have G_nn := ok_number_or_name (P := l.prog) (w := w) (mg := mg) (base := base) F_number_or_name B MD
  have G_tb := ok_told_by (P := l.prog) (w := w) (mg := mg) (base := base) F_told_by B d_number_or_name.k b_number_or_name q_number_or_name G_nn
  have G_rf := ok_read_form (P := l.prog) (w := w) (mg := mg) (base := base) F_read_form B T n_is_form.m c_is_form (I_form.mono (by decide)) d_told_by.k b_told_by q_told_by (G_tb.mono (by decide)) d_form_text.k b_form_text q_form_text (G_ft.mono (by decide)) ET
  have G_rt := ok_read_tree (P := l.prog) (w := w) (mg := mg) (base := base) F_read_tree B T n_is_tree.m c_is_tree (I_tree.mono (by decide)) d_told_by.k b_told_by q_told_by (G_tb.mono (by decide)) d_form_text.k b_form_text q_form_text (G_ft.mono (by decide)) ET
  have J_source := ok_source (P := l.prog) (w := w) (mg := mg) (base := base) F_Lsource ⟨B.int, B.len⟩
  have J_draw := ok_draw (P := l.prog) (w := w) (mg := mg) (base := base) F_Ldraw ⟨B.int, B.len⟩
  have J_pick := ok_pick (P := l.prog) (w := w) (mg := mg) (base := base) F_Lpick B d_Ldraw.k b_Ldraw q_Ldraw J_draw
  have J_mixed := ok_mixed (P := l.prog) (w := w) (mg := mg) (base := base) F_Lmixed B d_Ldraw.k b_Ldraw q_Ldraw J_draw
  have J_word := ok_word (P := l.prog) (w := w) (mg := mg) (base := base) F_Lword B d_Ldraw.k b_Ldraw q_Ldraw (J_draw.mono (by decide)) d_Lpick.k b_Lpick q_Lpick J_pick
  have J_world := ok_dw (P := l.prog) (w := w) (mg := mg) (base := base) F_Lworld B d_Ldraw.k b_Ldraw q_Ldraw J_draw d_Lpick.k b_Lpick q_Lpick J_pick d_Lmixed.k b_Lmixed q_Lmixed J_mixed d_Lword.k b_Lword q_Lword J_word
  have J_made := ok_made (P := l.prog) (w := w) (mg := mg) (base := base) F_Lmade WMk
  have J_tree := ok_tree (P := l.prog) (w := w) (mg := mg) (base := base) F_Ltree B b_Ltree q_Ltree d_Ldraw.k b_Ldraw q_Ldraw J_draw d_Lpick.k b_Lpick q_Lpick J_pick 6
  have J_form := ok_form (P := l.prog) (w := w) (mg := mg) (base := base) F_Lform B b_Lform q_Lform d_Ldraw.k b_Ldraw q_Ldraw J_draw d_Lpick.k b_Lpick q_Lpick J_pick 6
  have J_isform := ok_lf (P := l.prog) (w := w) (mg := mg) (base := base) F_Lis_form B b_Lis_form q_Lis_form 50
  have J_istree := ok_lt (P := l.prog) (w := w) (mg := mg) (base := base) F_Lis_tree B b_Lis_tree q_Lis_tree 50
  have J_text := ok_lx (P := l.prog) (w := w) (mg := mg) (base := base) F_Ltext B b_Ltext q_Ltext 50
  have J_read := ok_lr (P := l.prog) (w := w) (mg := mg) (base := base) F_Lread B
  have J_numb := ok_ln (P := l.prog) (w := w) (mg := mg) (base := base) F_Lnumbered B b_Lnumbered q_Lnumbered 50
  have J_due := ok_du (P := l.prog) (w := w) (mg := mg) (base := base) F_Ldue B d_Lread.k b_Lread q_Lread (J_read.mono (by decide)) d_Lnumbered.k b_Lnumbered q_Lnumbered J_numb d_Lis_form.k b_Lis_form q_Lis_form J_isform d_Lis_tree.k b_Lis_tree q_Lis_tree J_istree d_Ltext.k b_Ltext q_Ltext J_text
  have J_told := ok_td (P := l.prog) (w := w) (mg := mg) (base := base) (C := C) F_Ltold ZT d_read_form.k b_read_form q_read_form (G_rf.mono (by decide)) d_read_tree.k b_read_tree q_read_tree (G_rt.mono (by decide))
  have J_bent := ok_bt (P := l.prog) (w := w) (mg := mg) (base := base) F_Lbent B d_Ldraw.k b_Ldraw q_Ldraw (J_draw.mono (by decide)) d_Lpick.k b_Lpick q_Lpick J_pick
  exact ok_law F_law B WMk ⟨_, _, d_Lsource.k, b_Lsource, q_Lsource, J_source.mono (by decide)⟩ ⟨_, _, d_Lworld.k, b_Lworld, q_Lworld, J_world.mono (by decide)⟩ ⟨_, _, d_Lmade.k, b_Lmade, q_Lmade, J_made.mono (by decide)⟩ ⟨_, _, d_Lform.k, b_Lform, q_Lform, J_form.mono (by decide)⟩ ⟨_, _, d_Ltree.k, b_Ltree, q_Ltree, J_tree.mono (by decide)⟩ ⟨_, _, d_Ltext.k, b_Ltext, q_Ltext, J_text.mono (by decide)⟩ ⟨_, _, d_Lbent.k, b_Lbent, q_Lbent, J_bent.mono (by decide)⟩ ⟨_, _, d_form_text.k, b_form_text, q_form_text, G_ft.mono (by decide)⟩ ⟨_, _, d_read_form.k, b_read_form, q_read_form, G_rf.mono (by decide)⟩ ⟨_, _, d_read_tree.k, b_read_tree, q_read_tree, G_rt.mono (by decide)⟩ ⟨_, _, d_Ldue.k, b_Ldue, q_Ldue, J_due.mono (by decide)⟩ ⟨_, _, d_Ltold.k, b_Ltold, q_Ltold, J_told.mono (by decide)⟩
theorem walk {l : PySem.W.OpenLaw} {q : Program} {loose : List Str} {XP : (Str → Option Value) → Heap → Prop} {YP : World → Heap → Prop} {d : DefRec} {K : Params → PySem.W.Frag} (hn : l.most = some 63) (hdf : d.params.defaults = [])
    (hY : ∀ (w : World) (h : Heap), YP w h → (K w.params).In h)
    (F : ∀ (w : World) (mg : Str → Option Value) (fa : Addr) (h : Heap), (K w.params).In h → h.Ns mainGlobals mg → mg d.name = some (.ref fa) →
      ∃ fd : FuncData, (∀ (s : Shared) (u : Value), BindsTo s fd ⟨[u], []⟩ [("script", u)]) ∧ ∀ base : Heap, (K w.params).In base → base.Ns mainGlobals mg → FnOkG l.prog w (K w.params) mg base CX0 83 fa fd ["script"] (spLaw (K w.params))) :
    PySem.W.WalkO q loose XP YP l.row.toRowW d [] (fun f vs => PySem.call f vs) :=
  walk_ofBG (n := 63) (k := 83) (x := "script") (sp := fun w => spLaw (K w.params)) hn (by decide) hdf ⟨rfl, by decide, by decide⟩ hY F fun _ _ a ns hl hb _ hS => ⟨a, ns, rfl, hS, hl, hb, fun _ => rfl⟩
end KW
open PySem PySem.W PyProof.Rows
set_option maxRecDepth 100000 in
set_option maxHeartbeats 0 in
theorem PySem.Challenge.cw_butthese_k50_texts_of_forms_holds : PySem.Challenge.rw_butthese_k50_texts_of_forms.Holds := by
  w_on; o_law; k_head; (case hw => w_witness2)
  k_fill
  refine KW.walk (l := PySem.Challenge.rw_butthese_k50_texts_of_forms) rfl rfl (fun w h Y => PySem.W.kIn_of Y) ?F
  case F =>
    intro w mg fa h KX G hmg
    refine' KW.all_mk KX G hmg ?hB ?hN ?hW ?hI ?eB ?eT ?d_is_integer ?d_is_name ?d_is_sign ?d_are_signs ?d_form_text ?d_told_by ?d_number_or_name ?d_read_form ?d_read_tree ?d_Lsource ?d_Ldraw ?d_Lpick ?d_Lmixed ?d_Lword ?d_Lworld ?d_Lmade ?d_Ltree ?d_Lform ?d_Lis_form ?d_Lis_tree ?d_Ltext ?d_Lread ?d_Lnumbered ?d_Ldue ?d_Ltold ?d_Lbent ?d_law ?n_is_tree ?n_is_form ?n_has_sign ?n_is_further ?n_is_open 
    (case hB => (refine' KW.BtH.mk ?isinstance ?len ?int ?bool ?str ?tuple ?list ?set ?all ?max ?min ?dict ?enumerate ?reversed ?range ?repr ?zip ?sum; (case isinstance => k_is); (case len => k_is); (case int => k_is); (case bool => k_is); (case str => k_is); (case tuple => k_is); (case list => k_is); (case set => k_is); (case all => k_is); (case max => k_is); (case min => k_is); (case dict => k_is); (case enumerate => k_is); (case reversed => k_is); (case range => k_is); (case repr => k_is); (case zip => k_is); (case sum => k_is)))
    (case hN => (refine' KW.NumH.mk (KW.str_mk ?dg) (KW.int_mk ?md) (KW.str_mk ?l) (KW.int_mk ?nn) (KW.int_mk ?ns) (KW.int_mk ?np); (case dg => k_is); (case md => k_is); (case l => k_is); (case nn => k_is); (case ns => k_is); (case np => k_is)))
    (case hW => (refine' KW.WorH.mk ?aC ?pg ?hd ?po ?sa ?nS ?nM ?nN ?nR ?mw ?kp ?cc ?hn ?tk ?mo ?ic ?ty; (case aC => k_is); (case pg => k_is); (case hd => k_is); (case po => k_is); (case sa => k_is); (case nS => k_is); (case nM => k_is); (case nN => k_is); (case nR => k_is); (case mw => k_is); (case kp => k_is); (case cc => k_is); (case hn => k_is); (case tk => k_is); (case mo => k_is); (case ic => k_is); (case ty => k_is)))
    (case hI => (refine' KW.IniH.mk ?a ?i (KW.ini_mk ?l ?c ?n) ?k; (case a => k_is); (case i => k_is); (case l => k_is); (case c => k_is); (case n => k_is); (case k => k_is)))
    (case eB => (refine' KW.ErrH.mk ?aC (KW.xL_mk ?xL) ?sa ?ga ?gg ?no ?iC ?tI (KW.fn_mk ?l ?c) ?kf ?kC ?eC ?tC ?hC ?ic ?me; (case aC => k_is); (case xL => k_is); (case sa => k_is); (case ga => k_is); (case gg => k_is); (case no => k_is); (case iC => k_is); (case tI => k_is); (case l => k_is); (case c => k_is); (case kf => k_is); (case kC => k_is); (case eC => k_is); (case tC => k_is); (case hC => k_is); (case ic => k_is); (case me => k_is)))
    (case eT => (refine' KW.ErrH.mk ?aC (KW.xL_mk ?xL) ?sa ?ga ?gg ?no ?iC ?tI (KW.fn_mk ?l ?c) ?kf ?kC ?eC ?tC ?hC ?ic ?me; (case aC => k_is); (case xL => k_is); (case sa => k_is); (case ga => k_is); (case gg => k_is); (case no => k_is); (case iC => k_is); (case tI => k_is); (case l => k_is); (case c => k_is); (case kf => k_is); (case kC => k_is); (case eC => k_is); (case tC => k_is); (case hC => k_is); (case ic => k_is); (case me => k_is)))
    (case d_is_integer => (refine' KW.DefH.mk ?a (KW.fn_mk ?l ?c) ?k; (case a => k_is); (case l => k_is); (case c => k_is); (case k => k_is)))
    (case d_is_name => (refine' KW.DefH.mk ?a (KW.fn_mk ?l ?c) ?k; (case a => k_is); (case l => k_is); (case c => k_is); (case k => k_is)))
    (case d_is_sign => (refine' KW.DefH.mk ?a (KW.fn_mk ?l ?c) ?k; (case a => k_is); (case l => k_is); (case c => k_is); (case k => k_is)))
    (case d_are_signs => (refine' KW.DefH.mk ?a (KW.fn_mk ?l ?c) ?k; (case a => k_is); (case l => k_is); (case c => k_is); (case k => k_is)))
    (case d_form_text => (refine' KW.DefH.mk ?a (KW.fn_mk ?l ?c) ?k; (case a => k_is); (case l => k_is); (case c => k_is); (case k => k_is)))
    (case d_told_by => (refine' KW.DefH.mk ?a (KW.fn_mk ?l ?c) ?k; (case a => k_is); (case l => k_is); (case c => k_is); (case k => k_is)))
    (case d_number_or_name => (refine' KW.DefH.mk ?a (KW.fn_mk ?l ?c) ?k; (case a => k_is); (case l => k_is); (case c => k_is); (case k => k_is)))
    (case d_read_form => (refine' KW.DefH.mk ?a (KW.fn_mk ?l ?c) ?k; (case a => k_is); (case l => k_is); (case c => k_is); (case k => k_is)))
    (case d_read_tree => (refine' KW.DefH.mk ?a (KW.fn_mk ?l ?c) ?k; (case a => k_is); (case l => k_is); (case c => k_is); (case k => k_is)))
    (case d_Lsource => (refine' KW.DefH.mk ?a (KW.fn_mk ?l ?c) ?k; (case a => k_is); (case l => k_is); (case c => k_is); (case k => k_is)))
    (case d_Ldraw => (refine' KW.DefH.mk ?a (KW.fn_mk ?l ?c) ?k; (case a => k_is); (case l => k_is); (case c => k_is); (case k => k_is)))
    (case d_Lpick => (refine' KW.DefH.mk ?a (KW.fn_mk ?l ?c) ?k; (case a => k_is); (case l => k_is); (case c => k_is); (case k => k_is)))
    (case d_Lmixed => (refine' KW.DefH.mk ?a (KW.fn_mk ?l ?c) ?k; (case a => k_is); (case l => k_is); (case c => k_is); (case k => k_is)))
    (case d_Lword => (refine' KW.DefH.mk ?a (KW.fn_mk ?l ?c) ?k; (case a => k_is); (case l => k_is); (case c => k_is); (case k => k_is)))
    (case d_Lworld => (refine' KW.DefH.mk ?a (KW.fn_mk ?l ?c) ?k; (case a => k_is); (case l => k_is); (case c => k_is); (case k => k_is)))
    (case d_Lmade => (refine' KW.DefH.mk ?a (KW.fn_mk ?l ?c) ?k; (case a => k_is); (case l => k_is); (case c => k_is); (case k => k_is)))
    (case d_Ltree => (refine' KW.DefH.mk ?a (KW.fn_mk ?l ?c) ?k; (case a => k_is); (case l => k_is); (case c => k_is); (case k => k_is)))
    (case d_Lform => (refine' KW.DefH.mk ?a (KW.fn_mk ?l ?c) ?k; (case a => k_is); (case l => k_is); (case c => k_is); (case k => k_is)))
    (case d_Lis_form => (refine' KW.DefH.mk ?a (KW.fn_mk ?l ?c) ?k; (case a => k_is); (case l => k_is); (case c => k_is); (case k => k_is)))
    (case d_Lis_tree => (refine' KW.DefH.mk ?a (KW.fn_mk ?l ?c) ?k; (case a => k_is); (case l => k_is); (case c => k_is); (case k => k_is)))
    (case d_Ltext => (refine' KW.DefH.mk ?a (KW.fn_mk ?l ?c) ?k; (case a => k_is); (case l => k_is); (case c => k_is); (case k => k_is)))
    (case d_Lread => (refine' KW.DefH.mk ?a (KW.fn_mk ?l ?c) ?k; (case a => k_is); (case l => k_is); (case c => k_is); (case k => k_is)))
    (case d_Lnumbered => (refine' KW.DefH.mk ?a (KW.fn_mk ?l ?c) ?k; (case a => k_is); (case l => k_is); (case c => k_is); (case k => k_is)))
    (case d_Ldue => (refine' KW.DefH.mk ?a (KW.fn_mk ?l ?c) ?k; (case a => k_is); (case l => k_is); (case c => k_is); (case k => k_is)))
    (case d_Ltold => (refine' KW.DefH.mk ?a (KW.fn_mk ?l ?c) ?k; (case a => k_is); (case l => k_is); (case c => k_is); (case k => k_is)))
    (case d_Lbent => (refine' KW.DefH.mk ?a (KW.fn_mk ?l ?c) ?k; (case a => k_is); (case l => k_is); (case c => k_is); (case k => k_is)))
    (case d_law => (refine' KW.DefH.mk ?a (KW.fn_mk ?l ?c) ?k; (case a => k_is); (case l => k_is); (case c => k_is); (case k => k_is)))
    (case n_is_tree => (refine' KW.MthH.mk ?a ?i (KW.fn_mk ?l ?c) ?k; (case a => k_is); (case i => k_is); (case l => k_is); (case c => k_is); (case k => k_is)))
    (case n_is_form => (refine' KW.MthH.mk ?a ?i (KW.fn_mk ?l ?c) ?k; (case a => k_is); (case i => k_is); (case l => k_is); (case c => k_is); (case k => k_is)))
    (case n_has_sign => (refine' KW.MthH.mk ?a ?i (KW.fn_mk ?l ?c) ?k; (case a => k_is); (case i => k_is); (case l => k_is); (case c => k_is); (case k => k_is)))
    (case n_is_further => (refine' KW.MthH.mk ?a ?i (KW.fn_mk ?l ?c) ?k; (case a => k_is); (case i => k_is); (case l => k_is); (case c => k_is); (case k => k_is)))
    (case n_is_open => (refine' KW.MthH.mk ?a ?i (KW.fn_mk ?l ?c) ?k; (case a => k_is); (case i => k_is); (case l => k_is); (case c => k_is); (case k => k_is)))
