import PyProof.Rows.All
import Wide.All
import OpenK.AllK
import Wide.FinOn
import KE.KExcInit
import HandS.Base
import HandS.Call
import HandS.List
import HandS.Ends
import HandS.Exc
import HandS.ForMost
import HandS.ExcInit
import HandS.ExcIs
import HandS.IsInst
import KE.KExcIs
import HandS.Walk
import HandS.Wide
import HandS.TryMany
import HandS.ExcField
import HandS.WordsExc
import PyProof.NeKinds
import PyProof.NeData
import HandS.Steps
import HandS.Lambda
import HandS.TupSets
import HandS.SetBool
import HandS.TupAny
import PyProof.FitsInt
import HandS.Conv
import HandS.Zip
import KE.GoesEnum
import HandS.SetKeys
import KE.SortCalls
import KE.LtData
import KE.SortData
import HandS.DictComp
import HandS.DictTup
import HandS.OwnEq
import KE.KDictPairs
import KE.KDictSum
import KE.KDictKeyed
import HandS.TupLen
import HandS.EndTab
import KE.DataCmp
import KE.DatumOrd
import PyProof.InstNe
import KE.KDictIter
import KE.KDictZip
import HandS.Style
import PySem.Challenge.RW_sharedscopes_k12_news_and_what_is_lackin
set_option Elab.async false
set_option linter.all false
set_option maxRecDepth 100000
set_option maxHeartbeats 16000000
set_option maxHeartbeats 4000000
/-! errors of own classes, by inherited __init__, with and without keywords -/
namespace PySem
namespace K0X
open Builtin Builtin.ObjectAttr
/-- own classes, then a built-in's mro -/
def RefTail (bmB bm : List Value) : Prop := ∃ cs : List Addr, bm = cs.map Value.ref ++ bmB
theorem RefTail.contains {bmB bm : List Value} (T : RefTail bmB bm) (X : String) : bm.contains (.type X) = bmB.contains (.type X) := by
  obtain ⟨cs, rfl⟩ := T
  induction cs with
  | nil => rfl
  | cons c r ih =>
    rw [List.map_cons, List.cons_append, List.contains_cons, ih]; rfl
theorem RefTail.passes {bmB bm : List Value} (T : RefTail bmB bm) (self : Value) (h : refuseLoop self "__setattr__" bmB = pure ()) : refuseLoop self "__setattr__" bm = pure () := by
  obtain ⟨cs, rfl⟩ := T
  induction cs with
  | nil => exact h
  | cons c r ih =>
    rw [List.map_cons, List.cons_append, refuseLoop_ref]; exact ih

section
variable {prog : Program} {w : World} {A : Around} {E : Value → Shared → Prop} {R : Result → Shared → Prop} {h : Heap} {g : Array GenState} {d : Drawn} {t : Nat} {os : OsState}
variable {nm q : Str} {C N : Addr} {bs bm bmB : List Value} {hdct : Bool} {sn : List Str} {sub : List Value} {ab : Bool} {col : Option Bool} {dd : Option Addr} {k0 k1 k2 k3 k5 : Option Value} {B newId initId : String}
abbrev excO (C t : Addr) : Obj := { cls := .ref C, data := .fields #[.ref t, .none, .none, .none, .bool false, .none] }

theorem check_new_kw {M : Model} (F : ExcBaseFacts B newId initId bmB) (hT : ∀ X : String, bm.contains (.type X) = bmB.contains (.type X)) {rest : List Value} {kw : List (Str × Value)} {Q : Unit → Shared → Prop}
    (hC : h.get? C = some (excClassObj nm q C N bs bm hdct sn sub ab col dd k0 k1 k2 k3 k5 newId)) (hq : Q () ⟨h, g, d, t, os⟩) : wpAny M A (checkBuiltinCall newId ⟨.ref C :: rest, kw⟩) Q E ⟨h, g, d, t, os⟩ := by
  have hcont : (Value.ref C :: bm).contains (.type B) = true := by rw [List.contains_cons, hT, F.hasB, Bool.or_true]
  have hstar := F.noStar
  simp only [checkBuiltinCall, F.newKind, F.newSplit, F.newRow]
  repeat (first | refine wpAny_loadPart_at hC ?_ | (refine wpAny_isSubtype_exc hC ?_; rw [hcont]) | refine wpAny_staticBase_exc hC ?_ | refine wpAny_madeBy_exc hC ?_ | simp only [bne_self_eq_false, Bool.false_eq_true, if_false] | wp_step)
  exact hq

theorem new_kw (F : ExcBaseFacts B newId initId bmB) (hT : ∀ X : String, bm.contains (.type X) = bmB.contains (.type X)) {rest : List Value} {kw : List (Str × Value)}
    (hC : h.get? C = some (excClassObj nm q C N bs bm hdct sn sub ab col dd k0 k1 k2 k3 k5 newId))
    (hq : R (.ok (.ret (.ref (h.objs.size + 1)))) ⟨(h.push { cls := .type "tuple", data := .seq rest.toArray }).push
      { cls := .ref C, data := .fields #[.ref h.objs.size, .none, .none, .none, .bool false, .none] }, g, d, t, os⟩) (hrest : rest.length ≤ sizeLine) :
    codeAny (model prog w) A (.builtin newId ⟨.ref C :: rest, kw⟩) R ⟨h, g, d, t, os⟩ := by
  have hends := F.ends
  have hcB : (Value.ref C :: bm).contains (.type B) = true := by rw [List.contains_cons, hT, F.hasB, Bool.or_true]
  have hcA : (Value.ref C :: bm).contains (.type "AttributeError") = false := by rw [List.contains_cons, hT, F.noAttr]; rfl
  have hcN : (Value.ref C :: bm).contains (.type "NameError") = false := by rw [List.contains_cons, hT, F.noName]; rfl
  refine codeAny_builtinAt F.entry ?_
  unfold Builtin.«BaseException.__new__»
  refine wpAt_bind ?_
  show wpAt _ _ _ (stack >>= _) _ _ _
  refine wpAt_bind (wpAt_stack fun p below => wpAt_of_wpAny ?_)
  wp_walk
  refine wpAt_of_wpAny ?_
  rw [F.owner]
  repeat (first | with_reducible refine wpAny_madeHere_exc F.canon hC ?_ | with_reducible refine wpAny_loadPart_at hC ?_ | (with_reducible refine wpAny_isSubtype_exc hC ?_; first | rw [hcB] | rw [hcA] | rw [hcN]) | wp_step)
  show R _ _
  rw [Heap.size_push]
  exact hq

theorem type_call_kw (F : ExcBaseFacts B newId initId bmB) (hT : ∀ X : String, bm.contains (.type X) = bmB.contains (.type X)) {rest : List Value} {kw : List (Str × Value)} {fI : Addr} {Q : Fin → Shared → Prop}
    (hC : h.get? C = some (excClassObj nm q C N bs bm hdct sn sub ab col dd k0 k1 k2 k3 k5 newId))
    (hi : W.Looks (model prog w) h (typeLookup (.ref C) "__init__") (some (.ref fI))) (hb : ∀ self, W.Looks (model prog w) h (bindSpecial (.ref fI) self) (.ref fI, [self])) (hrest : rest.length ≤ sizeLine)
    (hq : codeAny (model prog w) A (.call (.ref fI) ⟨.ref (h.objs.size + 1) :: rest, kw⟩)
      (fun r s' => match r with | .ok (.ret v) => v = .none ∧ Q (.done (.ret (.ref (h.objs.size + 1)))) s' | .ok _ => False | .error e => E e s')
      ⟨(h.push (W.kdv_tup rest)).push (excO C h.objs.size), g, d, t, os⟩) :
    wpAny (model prog w) A (Builtin.«type.__call__» ⟨.ref C :: rest, kw⟩) Q E ⟨h, g, d, t, os⟩ := by
  repeat (first | with_reducible refine wpAny_loadPart_at hC ?_ | with_reducible refine wpAny_madeBy_exc hC ?_ | wp_step)
  refine codeAny_call_builtin_code (Code.quiet_builtin _ F.quiet) (check_new_kw F hT hC ?_)
  refine new_kw F hT hC ?_ hrest
  show wpAny _ _ _ _ _ _
  have k : ∀ b o, h.get? b = some o → ((h.push (W.kdv_tup rest)).push (excO C h.objs.size)).get? b = some o := fun b o e => Heap.get?_push_of_some _ (Heap.get?_push_of_some _ e)
  have hC₁ := k _ _ hC
  have hget : ((h.push (W.kdv_tup rest)).push (excO C h.objs.size)).get? (h.objs.size + 1) = some (excO C h.objs.size) := by heap_get
  have hcC : (Value.ref C :: bm).contains (.ref C) = true := by simp
  have i1 := hi.keeps k
  have b1 := (hb (.ref (h.objs.size + 1))).keeps k
  unfold isInstance
  repeat (first | with_reducible refine wpAny_loadPart_at hget ?_ | (with_reducible refine wpAny_isSubtype_exc hC₁ ?_; rw [hcC]) | wp_step)
  show wpAny _ _ (typeLookup (.ref C) _) _ _ _
  refine i1.at ?_
  refine wpAny_holding (wpAny_bind (b1.at ?_))
  refine wpAny_bind (wpAny_call (codeAny_mono hq fun r s' z => ?_))
  rcases r with e | (v | _ | _ | _) <;> first | exact z | exact z.elim | skip
  obtain ⟨rfl, z⟩ := z
  first
    | exact wpAny_pure (wpAny_pure z)
    | (wp_walk; exact z)

theorem call_kw (F : ExcBaseFacts B newId initId bmB) (hT : ∀ X : String, bm.contains (.type X) = bmB.contains (.type X)) {rest : List Value} {kw : List (Str × Value)} {fI : Addr}
    (hC : h.get? C = some (excClassObj nm q C N bs bm hdct sn sub ab col dd k0 k1 k2 k3 k5 newId)) (hty : W.Looks (model prog w) h (isInstance (.ref C) (.type "type")) true)
    (hi : W.Looks (model prog w) h (typeLookup (.ref C) "__init__") (some (.ref fI))) (hb : ∀ self, W.Looks (model prog w) h (bindSpecial (.ref fI) self) (.ref fI, [self])) (hrest : rest.length ≤ sizeLine)
    (hq : codeAny (model prog w) (A.under (.builtin "type.__call__" ⟨.ref C :: rest, kw⟩)) (.call (.ref fI) ⟨.ref (h.objs.size + 1) :: rest, kw⟩) (W.InitBack (h.objs.size + 1) R)
      ⟨(h.push (W.kdv_tup rest)).push (excO C h.objs.size), g, d, t, os⟩) :
    codeAny (model prog w) A (.call (.ref C) ⟨rest, kw⟩) R ⟨h, g, d, t, os⟩ := by
  have f1 := tc_lookup
  have f2 := tc_bind (.ref C)
  have hTy : (⟨h, g, d, t, os⟩ : Shared).TypeIs (.ref C) "type" := ⟨_, hC, rfl⟩
  refine codeAny_of_tree ?_
  show wpAny _ _ (callAny (.ref C) _) _ _ _
  repeat (any_goals (first | assumption | with_reducible refine wpAny_loadPart_at hC ?_ | wp_step))
  refine ⟨rfl, ?_⟩
  refine codeAny_call_builtin_at (Code.quiet_builtin _ (by decide +kernel)) entry_typeCall (W.check_slot tc_kind tc_split hty (W.tc_args _ _ _) (type_call_kw F hT hC hi hb hrest ?_))
  refine codeAny_mono hq fun r s' z => ?_
  rcases r with e | (v | _ | _ | _) <;> exact z
end

/-! self.name = v on an exception without a dict yet -/
section
variable {prog : Program} {w : World} {A : Around} {E : Value → Shared → Prop} {R : Result → Shared → Prop} {hp : Heap} {g : Array GenState} {d : Drawn} {t : Nat} {os : OsState}
variable {bm bmB : List Value} {B sa : String}
theorem osa_kw {K : W.Frag} {name : Str} {tk : Tok} {v : Value} {x C : Addr} {fv : Array Value} {cd : ClassData} (SF : StoreFacts B bmB sa "object") (T : RefTail bmB bm)
    (X : K.In hp) (hx : hp.get? x = some { cls := .ref C, data := .fields fv }) (hcd : W.clsIn K C = some cd) (hm : cd.mro = .ref C :: bm) (hh : cd.hasDict = true) (ha : W.findIn K (.ref C) name = some none)
    (hq : ∀ h' tk' dx, (∀ b o, b ≠ x → hp.get? b = some o → h'.get? b = some o) → hp.objs.size ≤ dx → dx ≠ x → h'.get? x = some { cls := .ref C, dict := some dx, data := .fields fv } →
      h'.Ns1 dx (fun y => if y = name then some v else none) → R (.ok (.ret .none)) ⟨h', g, d, tk', os⟩) :
    codeAny (model prog w) A (.call (.builtin "object.__setattr__") ⟨[.ref x, .str name tk, v], []⟩) R ⟨hp, g, d, t, os⟩ := by
  have I : W.InstAt hp x { cls := .ref C, data := .fields fv } C none := ⟨hx, rfl, rfl, trivial⟩
  have ne : cd.mro.isEmpty = false := by rw [hm]; rfl
  have hob : cd.mro.contains (.type "object") = true := by rw [hm, List.contains_cons, T.contains, SF.hasOwner]; rfl
  have hxs : x ≠ hp.objs.size := Nat.ne_of_lt (Heap.lt_size hx)
  have sub : W.Looks (model prog w) hp (isInstance (.ref x) (.type "object")) true := I.type.andThen (W.looks_mroIn X (by unfold W.mroIn; rw [hcd, Option.bind_some, if_neg (by rw [ne]; decide), hob]))
  have SO := F.store_object
  refine codeAny_call_builtin SO.slot.plain SO.entry (@W.check_slot (model prog w) _ _ ⟨hp, g, d, t, os⟩ "object.__setattr__" "object" "__setattr__" (.ref x) [.str name tk, v] [] _ SO.kind SO.split sub (SO.args (.ref x) (.str name tk) v) ?_)
  have hmr : W.Looks (model prog w) hp (mroOf (.ref C)) cd.mro := (W.looks_clsIn X hcd).andThen .now
  have L3 : W.Looks (model prog w) hp (storeTaker? none) none := .now
  have hcls : W.Looks (model prog w) hp (classData C) cd := W.looks_clsIn X hcd
  rw [W.osa_eq, refuse_eq]
  refine wpAny_bind (wpAny_bind (I.type.at (wpAny_bind (hmr.at ?_))))
  have hps : refuseLoop (.ref x) "__setattr__" cd.mro = pure () := by rw [hm, refuseLoop_ref]; exact T.passes (.ref x) (SF.passes (.ref x))
  rw [hps]
  refine wpAny_pure (wpAny_bind (I.type.at (wpAny_bind ((W.looks_findIn X ha).at (wpAny_bind (L3.at ?_))))))
  show wpAny _ _ (storeInOwnDict (.ref x) (.ref C) (.str name tk) name v false) _ _ _
  obtain ⟨nm, bs, mro, ns, qn, hd, sn, sb, ab, col, del⟩ := cd
  dsimp only at hh
  subst hh
  unfold storeInOwnDict ownDictForStores
  repeat (first | with_reducible refine HandSPX.store_in_new ?_ ?_ | with_reducible refine wpAny_loadPart_at hx ?_ | with_reducible refine hcls.at ?_ | wp_step)
  · exact ⟨_, #[], _, (Heap.get?_update_ne _ _ _ _ hxs.symm).trans (Heap.get?_push_at rfl rfl), rfl, fun e he => absurd he (by simp), fun _ => rfl⟩
  · intro h' tk' hn' hs
    have hx₁ : (hp.push { cls := .type "dict", data := .dict #[] }).get? x = some { cls := .ref C, data := .fields fv } := Heap.get?_push_of_some _ hx
    refine hq h' tk' hp.objs.size (fun b o hb ho => ?_) (Nat.le_refl _) hxs.symm ?_ hn'
    · exact (hs.2 b (Nat.ne_of_lt (Heap.lt_size ho))).trans ((Heap.get?_update_ne _ _ _ _ hb).trans (Heap.get?_push_of_some _ ho))
    · exact (hs.2 x hxs).trans (Heap.get?_update_self _ hx₁ rfl)
end
end K0X

namespace K0X
open PySem.W PySem.Calls PyProof.Rows
/-- what the written part says of an error class at C, whose __init__ (at fI, perhaps a base's) puts its one argument in the field fld -/
structure EC (K : Frag) (fld : Str) (C fI : Addr) : Prop where
  cls : ∃ (B newId initId : String) (bmB : List Value) (nm q : Str) (N : Addr) (bs bm : List Value) (sn : List Str) (sub : List Value) (ab : Bool) (col : Option Bool) (dd : Option Addr) (k0 k1 k2 k3 k5 : Option Value),
    ExcBaseFacts B newId initId bmB ∧ StoreFacts B bmB "object.__setattr__" "object" ∧ RefTail bmB bm ∧ K.lookup C = some (excClassObj nm q C N bs bm true sn sub ab col dd k0 k1 k2 k3 k5 newId)
  sa : findIn K (.ref C) "__setattr__" = some (some (.builtin "object.__setattr__"))
  ga : findIn K (.ref C) "__getattribute__" = some (some (.builtin "BaseException.__getattribute__"))
  gg : findIn K (.ref C) "__getattr__" = some none
  noN : findIn K (.ref C) fld = some none
  iC : findIn K (.ref C) "__init__" = some (some (.ref fI))
  tI : typeIn K (.ref fI) = some (.type "function")
  kC : keepIn K (.ref C) = true
  exC : subIn K (.ref C) (.type "BaseException") = some true
  tyC : instIn K (.ref C) (.type "type") = some true
  hdC : hasDictIn K C = true
  hm : mroIn K C (.type "object") = some true
  hcl : findIn K (.ref C) "__class__" = some (some (.builtin "object.__class__"))
/-- what __init__ leaves of a fresh exception at x -/
structure InitEnd (fld : Str) (h h' : Heap) (x C dx t1 : Addr) (v : Value) : Prop where
  keep : ∀ b o, b ≠ x → h.get? b = some o → h'.get? b = some o
  obj : h'.get? x = some { cls := .ref C, dict := some dx, data := .fields #[.ref t1, .none, .none, .none, .bool false, .none] }
  dbig : h.objs.size ≤ dx
  dne : dx ≠ x
  ns : h'.Ns1 dx (fun y => if y = fld then some v else none)
/-- a made one -/
structure Made (fld : Str) (h h' : Heap) (e C d : Addr) (v : Value) : Prop where
  keep : ∀ b o, h.get? b = some o → h'.get? b = some o
  new : h.objs.size ≤ e
  obj : ∃ t1 : Addr, h'.get? e = some { cls := .ref C, dict := some d, data := .fields #[.ref t1, .none, .none, .none, .bool false, .none] }
  dbig : h.objs.size ≤ d
  dne : d ≠ e
  ns : h'.Ns1 d (fun y => if y = fld then some v else none)
/-- __init__, called with these arguments behind self, puts v -/
def InitRuns (prog : Program) (w : World) (K : Frag) (fld : Str) (C fI : Addr) (rest : List Value) (kw : List (Str × Value)) (v : Value) : Prop :=
  ∀ (A : Around) (R : Result → Shared → Prop) (s : Shared) (x t0 : Addr), K.In s.heap → s.heap.NoLimit → s.heap.get? x = some (excO C t0) → A.depth < recursionLimit →
    (∀ h' tk dx, InitEnd fld s.heap h' x C dx t0 v → R (.ok (.ret .none)) { s with heap := h', toks := tk }) →
    codeAny (model prog w) A (.call (.ref fI) ⟨.ref x :: rest, kw⟩) R s
theorem one_size (v : Value) : [v].length ≤ sizeLine := by
  rw [sizeLine_eq]
  exact (by decide : 1 ≤ 16777216)
theorem ldC {M : Model} {s : Shared} {name : Str} {scope : Scope} {L a : Addr} {cd : Value} {m : Str → Option Value} {x : Str} {pos : Pos} {v : Value} {Q : Value → Shared → Prop} {A : Around} {E : Value → Shared → Prop} (hn : s.heap.Ns L m) (hv : m x = some v) (h : Q v s)
    (hk : scope.kind = .function := by rfl) (hl : (envOfC name scope L a cd).kindOf x = some .local := by rfl) (hd : (x == ("__debug__" : Str)) = false := by decide) :
    wpAny M A (eval (.Name x pos) (envOfC name scope L a cd)) Q E s := wpAny_Name (wpAny_loadName_local hk hl hn hv h) hd
section
variable {prog : Program} {w : World} {A : Around} {E : Value → Shared → Prop} {R : Result → Shared → Prop} {s : Shared} {K : Frag} {mg : Str → Option Value} {C fI : Addr} {fld : Str}
theorem low_made (T : EC K fld C fI) {v : Value} {rest : List Value} {kw : List (Str × Value)} (J : InitRuns prog w K fld C fI rest kw v) (hrest : rest.length ≤ sizeLine) (X : K.In s.heap) (hlim : s.heap.NoLimit) (hroom : A.depth + 1 < recursionLimit)
    (hq : ∀ h' tk e d, Made fld s.heap h' e C d v → R (.ok (.ret (.ref e))) { s with heap := h', toks := tk }) :
    codeAny (model prog w) A (.call (.ref C) ⟨rest, kw⟩) R s := by
  obtain ⟨B, newId, initId, bmB, nm, q, N, bs, bm, sn, sub, ab, col, dd, k0, k1, k2, k3, k5, FB, SF, RT, hC⟩ := T.cls
  obtain ⟨hp, g, dr, tk, os⟩ := s
  have k : ∀ b o, hp.get? b = some o → ((hp.push (kdv_tup rest)).push (excO C hp.objs.size)).get? b = some o := fun b o e => Heap.get?_push_of_some _ (Heap.get?_push_of_some _ e)
  have hget : ((hp.push (kdv_tup rest)).push (excO C hp.objs.size)).get? (hp.objs.size + 1) = some (excO C hp.objs.size) := by heap_get
  refine call_kw FB RT.contains (X _ _ hC) (looks_instIn X T.tyC) (looks_findIn X T.iC) (fun self => bind_fn X self T.tI) hrest ?_
  refine J _ _ ⟨(hp.push (kdv_tup rest)).push (excO C hp.objs.size), g, dr, tk, os⟩ _ _ (X.keeps k) (hlim.keeps k) hget ?_ fun h' tk' dx ⟨k', hx, dn, dne, hns⟩ => ?_
  · show A.depth + 1 < recursionLimit
    exact hroom
  · have old : ∀ b o, hp.get? b = some o → h'.get? b = some o := fun b o e => k' b o (Nat.ne_of_lt (Nat.lt_succ_of_lt (Heap.lt_size e))) (k b o e)
    have z : hp.objs.size + 1 + 1 ≤ dx := by
      first
        | (simpa only [Heap.size_push] using dn)
        | exact dn
        | (have q := dn; rw [Heap.size_push, Heap.size_push] at q; exact q)
    exact ⟨rfl, hq h' tk' (hp.objs.size + 1) dx ⟨old, Nat.le_succ _, ⟨_, hx⟩, Nat.le_trans (Nat.le_trans (Nat.le_succ _) (Nat.le_succ _)) z, dne, hns⟩⟩
end

/-! ### the __init__ that puts told -/
def iATold (p1 p2 : Pos) : Arguments := { posonlyargs := [], args := [{ arg := "self", annotation := none, pos := p1 }, { arg := "told", annotation := none, pos := p2 }], vararg := none, kwonlyargs := [], kw_defaults := [], kwarg := none, defaults := [] }
def iBTold (q1 q2 q3 q4 : Pos) : List Stmt := [.Assign [.Attribute (.Name "self" q1) "told" q2] (.Name "told" q3) q4]
def iSTold : Scope := { kind := .function, names := [(PySem.Str.ofString "self", .local), (PySem.Str.ofString "told", .local)], isGenerator := false, isCoroutine := false, more := [] }
def IniTold (K : Frag) (fI : Addr) : Prop := ∃ (oc : Value) (od : Option Addr) (doc pm : Value) (an : Option Addr) (cdv ct : Value) (osl : Array (Option Value)) (p1 p2 q1 q2 q3 q4 : Pos),
    K.lookup fI = some ⟨oc, od, .func (fnOf "__init__" "ScopeError.__init__" (iATold p1 p2) (iBTold q1 q2 q3 q4) iSTold .none .none doc pm an cdv ct), osl⟩ ∧ codeIn K cdv "ScopeError.__init__" = true
section
variable {prog : Program} {w : World} {K : Frag} {C fI : Addr} {v : Value}
theorem iniTold_pos (T : EC K "told" C fI) (J : IniTold K fI) : InitRuns prog w K "told" C fI [v] [] v := by
  intro A R s x t0 X hlim hx hroom hq
  obtain ⟨oc, od, doc, pm, an, cdv, ct, osl, p1, p2, q1, q2, q3, q4, ho, hcd⟩ := J
  obtain ⟨B, newId, initId, bmB, nm, q, N, bs, bm, sn, sub, ab, col, dd, k0, k1, k2, k3, k5, FB, SF, RT, hC⟩ := T.cls
  have hcl : clsIn K C = some { name := nm, bases := bs, mro := .ref C :: bm, ns := N, qualname := q, hasDict := true, slotNames := sn, subclasses := sub, abstract := ab, collection := col, hasDel := false } := by unfold clsIn; rw [hC] <;> rfl
  refine Att.call_fn (binds := [("self", .ref x), ("told", v)]) X hlim ho hcd hroom (BindsTo.of_eq (by first | rfl | with_unfolding_all rfl)) (by first | rfl | decide | with_unfolding_all rfl) (fun s₁ IC => ?_) rfl rfl rfl
  obtain ⟨h₁, tk₁, rfl⟩ := IC.toInCall.same
  have k : ∀ b o, s.heap.get? b = some o → h₁.get? b = some o := IC.toInCall.keep
  have hn := IC.toInCall.ns
  have X₁ : K.In h₁ := X.keeps k
  have hx₁ := k _ _ hx
  show wpAny _ _ (execs _ _) _ _ _
  refine wpAny_execs_cons (plainObj_wpAny_Assign_Attribute ?_)
  refine ldC (v := v) hn (by first | rfl | with_unfolding_all rfl | kernel_rfl) (ldC (v := .ref x) hn (by first | rfl | with_unfolding_all rfl | kernel_rfl) ?_)
  refine set_plain X₁ (ox := excO C t0) (od := none) ⟨hx₁, rfl, rfl, trivial⟩ T.sa ?_
  refine osa_kw SF RT X₁ hx₁ hcl rfl rfl T.noN (fun h₃ tk₃ dx k₃ dn dne hx₃ hn₃ => ?_)
  show wpAny _ _ (execs _ _) _ _ _
  have z : s.heap.objs.size < h₁.objs.size := hn.lt
  exact wpAny_execs_nil (hq h₃ tk₃ dx ⟨fun b o hb e => k₃ b o hb (k b o e), hx₃, Nat.le_of_lt (Nat.lt_of_lt_of_le z dn), dne, hn₃⟩)
theorem iniTold_kw (T : EC K "told" C fI) (J : IniTold K fI) : InitRuns prog w K "told" C fI [] [("told", v)] v := by
  intro A R s x t0 X hlim hx hroom hq
  obtain ⟨oc, od, doc, pm, an, cdv, ct, osl, p1, p2, q1, q2, q3, q4, ho, hcd⟩ := J
  obtain ⟨B, newId, initId, bmB, nm, q, N, bs, bm, sn, sub, ab, col, dd, k0, k1, k2, k3, k5, FB, SF, RT, hC⟩ := T.cls
  have hcl : clsIn K C = some { name := nm, bases := bs, mro := .ref C :: bm, ns := N, qualname := q, hasDict := true, slotNames := sn, subclasses := sub, abstract := ab, collection := col, hasDel := false } := by unfold clsIn; rw [hC] <;> rfl
  refine Att.call_fn (binds := [("self", .ref x), ("told", v)]) X hlim ho hcd hroom (BindsTo.of_eq (by first | rfl | with_unfolding_all rfl)) (by first | rfl | decide | with_unfolding_all rfl) (fun s₁ IC => ?_) rfl rfl rfl
  obtain ⟨h₁, tk₁, rfl⟩ := IC.toInCall.same
  have k : ∀ b o, s.heap.get? b = some o → h₁.get? b = some o := IC.toInCall.keep
  have hn := IC.toInCall.ns
  have X₁ : K.In h₁ := X.keeps k
  have hx₁ := k _ _ hx
  show wpAny _ _ (execs _ _) _ _ _
  refine wpAny_execs_cons (plainObj_wpAny_Assign_Attribute ?_)
  refine ldC (v := v) hn (by first | rfl | with_unfolding_all rfl | kernel_rfl) (ldC (v := .ref x) hn (by first | rfl | with_unfolding_all rfl | kernel_rfl) ?_)
  refine set_plain X₁ (ox := excO C t0) (od := none) ⟨hx₁, rfl, rfl, trivial⟩ T.sa ?_
  refine osa_kw SF RT X₁ hx₁ hcl rfl rfl T.noN (fun h₃ tk₃ dx k₃ dn dne hx₃ hn₃ => ?_)
  show wpAny _ _ (execs _ _) _ _ _
  have z : s.heap.objs.size < h₁.objs.size := hn.lt
  exact wpAny_execs_nil (hq h₃ tk₃ dx ⟨fun b o hb e => k₃ b o hb (k b o e), hx₃, Nat.le_of_lt (Nat.lt_of_lt_of_le z dn), dne, hn₃⟩)
end

/-! ### the __init__ that puts most -/
def iAMost (p1 p2 : Pos) : Arguments := { posonlyargs := [], args := [{ arg := "self", annotation := none, pos := p1 }, { arg := "most", annotation := none, pos := p2 }], vararg := none, kwonlyargs := [], kw_defaults := [], kwarg := none, defaults := [] }
def iBMost (q1 q2 q3 q4 : Pos) : List Stmt := [.Assign [.Attribute (.Name "self" q1) "most" q2] (.Name "most" q3) q4]
def iSMost : Scope := { kind := .function, names := [(PySem.Str.ofString "self", .local), (PySem.Str.ofString "most", .local)], isGenerator := false, isCoroutine := false, more := [] }
def IniMost (K : Frag) (fI : Addr) : Prop := ∃ (oc : Value) (od : Option Addr) (doc pm : Value) (an : Option Addr) (cdv ct : Value) (osl : Array (Option Value)) (p1 p2 q1 q2 q3 q4 : Pos),
    K.lookup fI = some ⟨oc, od, .func (fnOf "__init__" "TooMany.__init__" (iAMost p1 p2) (iBMost q1 q2 q3 q4) iSMost .none .none doc pm an cdv ct), osl⟩ ∧ codeIn K cdv "TooMany.__init__" = true
section
variable {prog : Program} {w : World} {K : Frag} {C fI : Addr} {v : Value}
theorem iniMost_pos (T : EC K "most" C fI) (J : IniMost K fI) : InitRuns prog w K "most" C fI [v] [] v := by
  intro A R s x t0 X hlim hx hroom hq
  obtain ⟨oc, od, doc, pm, an, cdv, ct, osl, p1, p2, q1, q2, q3, q4, ho, hcd⟩ := J
  obtain ⟨B, newId, initId, bmB, nm, q, N, bs, bm, sn, sub, ab, col, dd, k0, k1, k2, k3, k5, FB, SF, RT, hC⟩ := T.cls
  have hcl : clsIn K C = some { name := nm, bases := bs, mro := .ref C :: bm, ns := N, qualname := q, hasDict := true, slotNames := sn, subclasses := sub, abstract := ab, collection := col, hasDel := false } := by unfold clsIn; rw [hC] <;> rfl
  refine Att.call_fn (binds := [("self", .ref x), ("most", v)]) X hlim ho hcd hroom (BindsTo.of_eq (by first | rfl | with_unfolding_all rfl)) (by first | rfl | decide | with_unfolding_all rfl) (fun s₁ IC => ?_) rfl rfl rfl
  obtain ⟨h₁, tk₁, rfl⟩ := IC.toInCall.same
  have k : ∀ b o, s.heap.get? b = some o → h₁.get? b = some o := IC.toInCall.keep
  have hn := IC.toInCall.ns
  have X₁ : K.In h₁ := X.keeps k
  have hx₁ := k _ _ hx
  show wpAny _ _ (execs _ _) _ _ _
  refine wpAny_execs_cons (plainObj_wpAny_Assign_Attribute ?_)
  refine ldC (v := v) hn (by first | rfl | with_unfolding_all rfl | kernel_rfl) (ldC (v := .ref x) hn (by first | rfl | with_unfolding_all rfl | kernel_rfl) ?_)
  refine set_plain X₁ (ox := excO C t0) (od := none) ⟨hx₁, rfl, rfl, trivial⟩ T.sa ?_
  refine osa_kw SF RT X₁ hx₁ hcl rfl rfl T.noN (fun h₃ tk₃ dx k₃ dn dne hx₃ hn₃ => ?_)
  show wpAny _ _ (execs _ _) _ _ _
  have z : s.heap.objs.size < h₁.objs.size := hn.lt
  exact wpAny_execs_nil (hq h₃ tk₃ dx ⟨fun b o hb e => k₃ b o hb (k b o e), hx₃, Nat.le_of_lt (Nat.lt_of_lt_of_le z dn), dne, hn₃⟩)
theorem iniMost_kw (T : EC K "most" C fI) (J : IniMost K fI) : InitRuns prog w K "most" C fI [] [("most", v)] v := by
  intro A R s x t0 X hlim hx hroom hq
  obtain ⟨oc, od, doc, pm, an, cdv, ct, osl, p1, p2, q1, q2, q3, q4, ho, hcd⟩ := J
  obtain ⟨B, newId, initId, bmB, nm, q, N, bs, bm, sn, sub, ab, col, dd, k0, k1, k2, k3, k5, FB, SF, RT, hC⟩ := T.cls
  have hcl : clsIn K C = some { name := nm, bases := bs, mro := .ref C :: bm, ns := N, qualname := q, hasDict := true, slotNames := sn, subclasses := sub, abstract := ab, collection := col, hasDel := false } := by unfold clsIn; rw [hC] <;> rfl
  refine Att.call_fn (binds := [("self", .ref x), ("most", v)]) X hlim ho hcd hroom (BindsTo.of_eq (by first | rfl | with_unfolding_all rfl)) (by first | rfl | decide | with_unfolding_all rfl) (fun s₁ IC => ?_) rfl rfl rfl
  obtain ⟨h₁, tk₁, rfl⟩ := IC.toInCall.same
  have k : ∀ b o, s.heap.get? b = some o → h₁.get? b = some o := IC.toInCall.keep
  have hn := IC.toInCall.ns
  have X₁ : K.In h₁ := X.keeps k
  have hx₁ := k _ _ hx
  show wpAny _ _ (execs _ _) _ _ _
  refine wpAny_execs_cons (plainObj_wpAny_Assign_Attribute ?_)
  refine ldC (v := v) hn (by first | rfl | with_unfolding_all rfl | kernel_rfl) (ldC (v := .ref x) hn (by first | rfl | with_unfolding_all rfl | kernel_rfl) ?_)
  refine set_plain X₁ (ox := excO C t0) (od := none) ⟨hx₁, rfl, rfl, trivial⟩ T.sa ?_
  refine osa_kw SF RT X₁ hx₁ hcl rfl rfl T.noN (fun h₃ tk₃ dx k₃ dn dne hx₃ hn₃ => ?_)
  show wpAny _ _ (execs _ _) _ _ _
  have z : s.heap.objs.size < h₁.objs.size := hn.lt
  exact wpAny_execs_nil (hq h₃ tk₃ dx ⟨fun b o hb e => k₃ b o hb (k b o e), hx₃, Nat.le_of_lt (Nat.lt_of_lt_of_le z dn), dne, hn₃⟩)
end
end K0X
end PySem
namespace L2
open PySem PySem.Spec PyProof.Rows
/-- at a: an error of the class at C that tells v by the field fld -/
def ErrAt (fld : Str) (C : Addr) (v : V) (H : Hp) (a : Addr) : Prop := ∃ d, H a = some (exo a C (some d)) ∧ H d = some (exd d [(fld, v)])
theorem ErrAt.same {fld : Str} {C : Addr} {v : V} {H H' : Hp} {a : Addr} (h : ErrAt fld C v H a) (s : Same H H') : ErrAt fld C v H' a := by
  obtain ⟨d, h1, h2⟩ := h
  exact ⟨d, s _ _ h1, s _ _ h2⟩
section
variable {X : Cx} {pins : List (Addr × Obj)} {σ : St} {H : Hp} {s : Shared}
theorem inv_made {fld : Str} {C e d : Addr} {v : V} {u : Value} {h' : Heap} {tk : Nat} (I : Inv X pins σ H s) (M : PySem.K0X.Made fld s.heap h' e C d u) (rv : RelV v u) :
    Inv X pins σ (upd (upd H d (exd d [(fld, v)])) e (exo e C (some d))) { s with heap := h', toks := tk } ∧ H e = none ∧ H d = none ∧ d ≠ e := by
  have ne : H e = none := I.hok.fresh M.new
  have nd : H d = none := I.hok.fresh M.dbig
  have old : ∀ {b : Addr} {o : Obj}, s.heap.get? b = some o → b ≠ e ∧ b ≠ d := fun {b o} q => ⟨Nat.ne_of_lt (Nat.lt_of_lt_of_le (Heap.lt_size q) M.new), Nat.ne_of_lt (Nat.lt_of_lt_of_le (Heap.lt_size q) M.dbig)⟩
  have trk : ∀ {b : Addr} {o : HO}, H b = some o → b ≠ e ∧ b ≠ d := fun {b o} q => ⟨ne_of_none q ne, ne_of_none q nd⟩
  have put : ∀ {b : Addr}, b ≠ e → b ≠ d → upd (upd H d (exd d [(fld, v)])) e (exo e C (some d)) b = H b := fun {b} h1 h2 => by rw [upd_ne h1, upd_ne h2]
  obtain ⟨t1, ho⟩ := M.obj
  refine ⟨I.un ?_ fun b o q => ?_, ne, nd, M.dne⟩
  · exact {
      keep := fun b o q _ _ _ => M.keep b o q
      slot := fun b o q _ _ _ => ⟨o.slots, M.keep b o q⟩
      free := fun b o q n _ => by rw [put (old q).1 (old q).2]; exact n
      there := fun b o q _ => ⟨o, M.keep b o q⟩
      tups := fun b xs q => by rw [put (trk q).1 (trk q).2]; exact q
      frzs := fun b o xs q => by rw [put (trk q).1 (trk q).2]; exact q
      tbls := fun b ps q => ⟨#[], by rw [put (trk q).1 (trk q).2, q]; simp⟩ }
  · by_cases hb : b = e
    · subst hb
      rw [upd_same] at q
      cases q
      exact exo_ok ho
    · rw [upd_ne hb] at q
      by_cases hd : b = d
      · subst hd
        rw [upd_same] at q
        cases q
        exact exd_ok M.ns (relO_put (fs := []) rv fun g => True.intro)
      · rw [upd_ne hd] at q
        exact (I.hok b o q).stay (fun c w _ z => M.keep c w z) (fun c hc => by rw [put (trk hc).1 (trk hc).2]; exact hc) (fun c xs hc => by rw [put (trk hc).1 (trk hc).2]; exact hc)
/-- C(e) -/
def tMk (fld : Str) (C : Addr) (ta : TA) : TE := fun σ H Q => ta σ H fun vs H1 => ∃ v, vs = [v] ∧ ∀ a H2, Same H1 H2 → H1 a = none → ErrAt fld C v H2 a → Q (.ref a) H2
theorem same_made {fld : Str} {C e d : Addr} {v : V} (ne : H e = none) (nd : H d = none) : Same H (upd (upd H d (exd d [(fld, v)])) e (exo e C (some d))) := fun b o q => by
  rw [upd_ne (ne_of_none q ne), upd_ne (ne_of_none q nd)]
  exact q
theorem errAt_made {fld : Str} {C e d : Addr} {v : V} (n : d ≠ e) : ErrAt fld C v (upd (upd H d (exd d [(fld, v)])) e (exo e C (some d))) e :=
  ⟨d, upd_same, by rw [upd_ne n, upd_same]⟩
theorem pe_mk {fld : Str} {C fI : Addr} {x : Str} {e : Expr} {ta : TA} {p pos : Pos} {k : Nat} (T : PySem.K0X.EC X.K fld C fI) (J : ∀ v, PySem.K0X.InitRuns X.prog X.w X.K fld C fI [v] [] v) (hr : Room k X.A) (hm : X.mg x = some (.ref C)) (ha : PA X [e] ta) (hg : Gl X x := by rfl)
    (hdb : (x == ("__debug__" : Str)) = false := by decide) (he : starEach (e :: []) X.env = (false, eval e X.env) :: starEach [] X.env := by rfl) (hpl : (backTo pos (starEach [] X.env)).any (·.1) = false := by rfl) :
    PE X (.Call (.Name x p) [e] [] pos) (tMk fld C ta) := by
  refine ⟨fun pins s σ H Q I h => ?_⟩
  refine wpAny_Call_Name_kw (ld_glob I hg hm ?_ hdb)
  refine PySem.W.callWith_K (h₀ := X.base) I.ok.mod.kin T.kC (thn (ha.run pos pins s σ H _ I h) fun us s1 hh => ?_) he hpl
  obtain ⟨vs, H1, I1, r1, v, ev, q1⟩ := hh
  subst ev
  refine ⟨I1.kIn, ?_⟩
  cases r1 with
  | cons rv rn =>
    rename_i v' us'
    cases rn
    show wpAny _ _ (call (.ref C) [v']) _ _ _
    have hlim := I1.nolimit
    refine wpAny_call (PySem.K0X.low_made T (J v') (PySem.K0X.one_size v') I1.kIn hlim (by have := hr.dp; omega) fun h' tk' e d M => ?_)
    obtain ⟨I2, ne, nd, nde⟩ := inv_made (tk := tk') I1 M rv
    exact ⟨.ref e, _, I2, rfl, q1 e _ (same_made ne nd) ne (errAt_made nde)⟩
/-- C(fld = e) -/
theorem pe_mkw {fld : Str} {C fI : Addr} {x : Str} {kws : List Keyword} {ta : TA} {p pos : Pos} {k : Nat} (T : PySem.K0X.EC X.K fld C fI) (J : ∀ v, PySem.K0X.InitRuns X.prog X.w X.K fld C fI [] [(fld, v)] v) (hr : Room k X.A) (hm : X.mg x = some (.ref C)) (hkw : PK X kws ta) (hg : Gl X x := by rfl)
    (hall : (backToKw pos (keywordEach kws X.env)).all (·.1.isSome) = true := by rfl) (hks : (backToKw pos (keywordEach kws X.env)).filterMap (·.1) = [fld] := by rfl) (hdb : (x == ("__debug__" : Str)) = false := by decide)
    (hpl : ((backTo pos (starEach [] X.env)).any (·.1) || (backToKw pos (keywordEach kws X.env)).any (·.1.isNone)) = false := by rfl) :
    PE X (.Call (.Name x p) [] kws pos) (tMk fld C ta) := by
  refine ⟨fun pins s σ H Q I h => ?_⟩
  refine wpAny_Call_Name_kw (ld_glob I hg hm ?_ hdb)
  refine PySem.W.callWith_KW0 (h₀ := X.base) I.ok.mod.kin T.kC hall ?_ hpl
  refine thn (hkw.run pos pins s σ H _ I h) fun us s1 hh => ?_
  obtain ⟨vs, H1, I1, r1, v, ev, q1⟩ := hh
  subst ev
  refine ⟨I1.kIn, ?_⟩
  rw [hks]
  cases r1 with
  | cons rv rn =>
    rename_i v' us'
    cases rn
    show wpAny _ _ (call (.ref C) [] [(fld, v')]) _ _ _
    have hlim := I1.nolimit
    refine wpAny_call (PySem.K0X.low_made T (J v') (Nat.zero_le _) I1.kIn hlim (by have := hr.dp; omega) fun h' tk' e d M => ?_)
    obtain ⟨I2, ne, nd, nde⟩ := inv_made (tk := tk') I1 M rv
    exact ⟨.ref e, _, I2, rfl, q1 e _ (same_made ne nd) ne (errAt_made nde)⟩
/-- the object and its dict's object -/
theorem errAt_inst {fld : Str} {C a : Addr} {v : V} (I : Inv X pins σ H s) (h : ErrAt fld C v H a) : ∃ (ox od : Obj) (u : Value), PySem.W.InstAt s.heap a ox C (some od) ∧ RelV v u ∧ PySem.W.lookIn fld od = some (some u) := by
  obtain ⟨d, h1, h2⟩ := h
  obtain ⟨t1, ho⟩ := exo_at I.hok h1
  obtain ⟨mA, hns, hr⟩ := exd_at I.hok h2
  obtain ⟨od, hod, hl⟩ := lookIn_ns hns
  have hl1 : List.lookup fld [(fld, v)] = some v := by simp [List.lookup]
  obtain ⟨u, hu, ru⟩ := RelO.some_of (v := v) (o := mA fld) (by rw [← hl1]; exact hr fld)
  exact ⟨_, od, u, ⟨ho, rfl, rfl, hod⟩, ru, by rw [hl, hu]⟩
/-- e.fld -/
def tTell (K : PySem.W.Frag) (fld : Str) (te : TE) : TE := fun σ H Q => te σ H fun x H1 => ∃ a C v, x = .ref a ∧ ErrAt fld C v H1 a ∧ (∃ fI, PySem.K0X.EC K fld C fI) ∧ Q v H1
theorem pe_tell {fld : Str} {e : Expr} {te : TE} {pos : Pos} (he : PE X e te) (hb : attributeBase e fld X.env (eval e X.env) = eval e X.env := by rfl) : PE X (.Attribute e fld pos) (tTell X.K fld te) := by
  refine ⟨fun pins s σ H Q I h => ?_⟩
  refine attr_of hb (thn (he.run pins s σ H _ I h) fun u s1 hh => ?_)
  obtain ⟨x, H1, I1, rx, a, C, v, ex, hE, ⟨fI, T⟩, q⟩ := hh
  subst ex
  obtain rfl : u = Value.ref a := rx
  obtain ⟨ox, od, u, J, ru, hl⟩ := errAt_inst I1 hE
  exact HandSPX.exc_get I1.kIn J T.ga T.gg T.exC (PySem.W.findObj_own T.hdC T.noN rfl hl) (handed_of ru) ⟨v, H1, I1.tok _, ru, q⟩
end
/-- isinstance asks object.__class__ -/
structure ClsF (K : PySem.W.Frag) : Prop where
  hn : PySem.W.specialIn K (.builtin "object.__class__") "__get__" = some (some (.builtin "getset_descriptor.__get__"))
  ht : PySem.W.takesIn K (.builtin "object.__class__") = some true
theorem kitx_err {K : PySem.W.Frag} {fld : Str} {x D fI : Addr} {ox : Obj} {od : Option Obj} (T : PySem.K0X.EC K fld D fI) (F : ClsF K) : PySem.W.KitX K (.ref x) (.ref D) (fun h => PySem.W.InstAt h x ox D od) where
  ty := fun _ _ _ I => I.type
  it := fun M h X _ => by
    obtain ⟨cdD, hcD, _⟩ := PySem.W.any_some T.hdC
    unfold PySem.W.clsIn at hcD
    split at hcD
    · rename_i c' d' cd' sl' ho
      intro A' Q' E' s' k q
      unfold isType loadHead
      exact wpAny_bind (wpAny_loadPart (k _ _ (X _ _ ho)) (wpAny_pure q))
    · cases hcD
  ne := fun h tp dd its n sl X htp => by
    obtain ⟨cdD, hcD, _⟩ := PySem.W.any_some T.hdC
    refine Bool.eq_false_iff.mpr fun q => ?_
    have e : D = tp := Value.ref.inj (beq_iff_eq.mp q)
    subst e
    unfold PySem.W.clsIn at hcD
    split at hcD
    · rename_i c' d' cd' sl' ho
      have z := (X _ _ ho).symm.trans htp
      cases z
    · cases hcD
  ca := fun X I k => PySem.W.kx_classE X I T.ga T.gg T.exC (PySem.W.findObj_dataE (by obtain ⟨cd, hc, _⟩ := PySem.W.any_some T.hdC; rw [hc]; rfl) T.hcl F.hn F.ht) T.hm k
/-- isinstance(e, c) -/
def rIsErr (K : PySem.W.Frag) : List V → Hp → VK → Prop := fun xs H Q => ∃ (a : Addr) (c : V) (cv : Value) (fld : Str) (C : Addr) (v : V) (b : Bool), xs = [.ref a, c] ∧ ErrAt fld C v H a ∧ (∃ fI, PySem.K0X.EC K fld C fI) ∧ ClsV c cv ∧ PySem.W.kitOne K (.ref C) cv = some b ∧ Q (.bl b) H
theorem call_isErr {X : Cx} (F : ClsF X.K) : CallR X (.builtin "isinstance") (rIsErr X.K) := by
  intro pins s σ H xs us Q I r h
  obtain ⟨a, c, cv, fld, C, v, b, rfl, hE, ⟨fI, T⟩, kc, e, q⟩ := h
  cases r with
  | cons rx rr =>
    cases rr with
    | cons rt rr =>
      cases rr
      cases rx
      have ec := kc.eq rt
      subst ec
      obtain ⟨ox, od, u, J, _, _⟩ := errAt_inst I hE
      exact PySem.W.kia_one (kitx_err T F) I.kIn J e (fun z => nomatch z) fun tk => ⟨.bl b, H, I.kept (t' := tk) fun _ _ z => z, rfl, q⟩
/-! ### repr of what is written of data -/
inductive Sh (K : PySem.W.Frag) (H : Hp) : V → PyData → Prop where
  | plain {v : V} {d : PyData} (h : Dp K H v d) (hd : d.hasDict = false) : Sh K H v d
  | one {a : Addr} {x : Str} {i : Int} (h : H a = some (.dK [(.inr x, .int i)])) : Sh K H (.ref a) (.dict [(.str x, .int i)])
theorem Sh.same {K : PySem.W.Frag} {H H' : Hp} {v : V} {d : PyData} (s : Same H H') (hD : ∀ v d, Dp K H v d → Dp K H' v d) (h : Sh K H v d) : Sh K H' v d := by
  cases h with
  | plain h hd => exact .plain (hD _ _ h) hd
  | one h => exact .one (s _ _ h)
section
variable {X : Cx} {pins : List (Addr × Obj)} {σ : St} {H : Hp} {s : Shared}
theorem Sh.reads {v : V} {d : PyData} {u : Value} (I : Inv X pins σ H s) (h : Sh X.K H v d) (r : RelV v u) : ∃ as, Reads s.heap u d as ∧ (d.hasDict = true → sysModules ∉ as) := by
  cases h with
  | plain h hd =>
    obtain ⟨as, q⟩ := Dp.reads I d v u h r
    exact ⟨as, q, fun z => by rw [hd] at z; cases z⟩
  | @one a x i h =>
    obtain rfl : u = Value.ref a := r
    have z : ObjOk X.prog X.w H s.heap a (.dK [(.inr x, .int i)]) := I.hok a _ h
    obtain ⟨_, hs, vs, hkv, o, es, ep, ho, hx, hd, hk, hp, _⟩ := z
    cases hkv with
    | @cons p q l1 l2 hpq hrest =>
      cases hrest
      obtain ⟨e1, e2⟩ := hpq
      obtain ⟨qk, qv⟩ := q
      dsimp only at e1 e2
      subst e1
      obtain ⟨t2, rfl⟩ : ∃ t, qv = Value.int i t := e2
      generalize hl : es.toList = el at hp
      cases hp with
      | @cons en kv el2 kvs2 h1 h2 h3 =>
        cases h3
        dsimp only at h1 h2
        have h1' : keyIs (.inr x) en.key = true := h1
        rcases keyIs_shape h1' with ⟨j, t, z, _⟩ | ⟨y, t, z, hkey⟩
        · cases z
        · cases z
          have hr := Reads.dict (kvs := [(.str x, .int i)]) (as := []) (bs := []) ho hx.1 hd (by rw [hl]; show ReadsAll _ [en.key] [.str x] []; rw [hkey]; exact .cons (as := []) (bs := []) (.str _ _) .nil) (by rw [hl]; show ReadsAll _ [en.val] [.int i] []; rw [h2]; exact .cons (as := []) (bs := []) (.int _ _) .nil)
          refine ⟨_, hr, fun _ hm => ?_⟩
          have hm2 : sysModules = a := by simpa using hm
          rw [hm2] at hs
          exact absurd hs (by simp)
/-- repr(v) -/
def rRepr (K : PySem.W.Frag) : List V → Hp → VK → Prop := fun xs H Q => ∃ (v : V) (d : PyData), xs = [v] ∧ Sh K H v d ∧ d.showable = true ∧ d.depth ≤ 8 ∧ ((∀ i, d ≠ .int i) → d.shown.length ≤ sizeLine) ∧ Q (.str d.shown) H
theorem call_reprS (hg : X.A.guards = some []) (hu : X.A.units + 64 < cLine) : CallR X (.builtin "repr") (rRepr X.K) := by
  intro pins s σ H xs us Q I r h
  obtain ⟨v, d, rfl, hS, hsh, hdp, hsz, q⟩ := h
  obtain ⟨u, rfl, ru⟩ := vals1 r
  obtain ⟨as, hr, hsm⟩ := hS.reads I ru
  cases hr with
  | none => exact PySem.P.repr_of_none ⟨.str _, H, I.tok _, ⟨_, rfl⟩, q⟩
  | bool b => exact PySem.P.repr_of_bool ⟨.str _, H, I.tok _, ⟨_, rfl⟩, q⟩
  | int i t => exact PySem.P.repr_of_int (of_decide_eq_true hsh) ⟨.str _, H, I.tok _, ⟨_, rfl⟩, q⟩
  | str x t => exact PySem.P.repr_of_str ⟨.str _, H, I.tok _, ⟨_, rfl⟩, q⟩ (hsz fun i z => nomatch z)
  | list a1 a2 a3 a4 => exact repr_of_reads' (Reads.list a1 a2 a3 a4) hsh hsm hg (by omega) (fun _ _ e => e) (fun h' u tk hk => ⟨.str _, H, I.kept hk, ⟨_, rfl⟩, q⟩) (hsz fun i z => nomatch z)
  | tuple a1 a2 a3 a4 => exact repr_of_reads' (Reads.tuple a1 a2 a3 a4) hsh hsm hg (by omega) (fun _ _ e => e) (fun h' u tk hk => ⟨.str _, H, I.kept hk, ⟨_, rfl⟩, q⟩) (hsz fun i z => nomatch z)
  | dict a1 a2 a3 a4 a5 => exact repr_of_reads' (Reads.dict a1 a2 a3 a4 a5) hsh hsm hg (by omega) (fun _ _ e => e) (fun h' u tk hk => ⟨.str _, H, I.kept hk, ⟨_, rfl⟩, q⟩) (hsz fun i z => nomatch z)
end
end L2
/-! a law's def at the caller itself: there nothing is being shown, so repr of lists and dicts is told -/
namespace L2
open PySem PySem.Spec PyProof.Rows
/-- a def's body, run at the caller -/
theorem run_at {CX : CXT} {P : Program} {w : World} {K : PySem.W.Frag} {mg : Str → Option Value} {base : Heap} {k : Nat} {A : Around} {outer : List Env} {f : Addr} {name qual : Str} {params : Arguments} {body : List Stmt} {scope : Scope} {dV kV doc pm cdv ct oc : Value} {an od : Option Addr}
    {osl : Array (Option Value)} {N ps : List Str} {s : Shared} {H : Hp} {args : Args} {us : List Value} {vs : List V} {Q : VK} {E : XK} (lk : K.lookup f = some ⟨oc, od, .func (PySem.W.fnOf name qual params body scope dV kV doc pm an cdv ct), osl⟩) (hcd : PySem.W.codeIn K cdv qual = true) (S : FnScope N ps scope)
    (hl : vs.length = ps.length) (hr : Room (k + 1) A) (e0 : Env0 P w K mg base A outer s H) (hb : BindsTo s (PySem.W.fnOf name qual params body scope dV kV doc pm an cdv ct) args (ps.zip us)) (r : Vals vs us)
    (hbody : ∃ t, PSs (cxOf CX P w K mg base N qual scope f cdv A outer s H E) body t ∧ t { nx := fun _ H' => Q .non H', rt := Q } (start N vs) H) :
    codeAny (model P w) A (.call (.ref f) args) (CR CX outer P w H s Q E) s := by
  have KX : K.In s.heap := e0.mod.kin.keeps fun b o e => (e0.bs b o e).1
  have lim : s.heap.NoLimit := e0.mod.nolimit.keeps fun b o e => (e0.bs b o e).1
  have hkind : ∀ y ∈ ps.zip us, scope.names.lookup y.1 = some .local ∨ (scope.names.lookup y.1 = some .cell ∧ ((cellsFrom (s.heap.objs.size + 1) scope.names []).lookup y.1).isSome = true) := fun y hy => by
    have hm : y.1 ∈ ps := (List.of_mem_zip (show (y.1, y.2) ∈ ps.zip us from hy)).1
    exact (S.par y.1 hm).imp id fun q => ⟨q, PySem.W.cellsFrom_some _ _ _ (.inl q)⟩
  refine codeAny_call_function hr.depth (KX _ _ lk) rfl S.co S.gen rfl (PySem.W.codeRec_of KX hcd) (hb _ _ _ _ ?_)
  refine wpAny_newFunctionEnv_cells S.kind hkind fun env he s1 x => ?_
  subst he
  refine ⟨lim.keeps x.toInCall.keep, codeAny_func ?_⟩
  obtain ⟨t, ht, hq⟩ := hbody
  have I := inv_start (CX := CX) (E := E) S hr.hd e0 hl r x
  refine wpAny_mono (ht.run [] s1 (start N vs) H _ I hq) (fun fl s' hs => ?_) fun e s' hs => hs
  cases fl with
  | ret u =>
    obtain ⟨v, σ', H', J, rv, q⟩ := hs
    exact ⟨v, H', J.os, J.bare, J.base, J.hok, rv, q⟩
  | next =>
    obtain ⟨σ', H', J, q⟩ := hs
    exact ⟨V.non, H', J.os, J.bare, J.base, J.hok, rfl, q⟩
  | brk =>
    obtain ⟨_, _, _, q⟩ := hs
    exact False.elim q
  | cont =>
    obtain ⟨_, _, _, q⟩ := hs
    exact False.elim q

/-- what is asked of a law's def: at the caller, wherever the script stands, it gives True -/
def GoodAt (P : Program) (w : World) (K : PySem.W.Frag) (mg : Str → Option Value) (fa : Addr) (n : Nat) : Prop :=
  ∀ (base : Heap) (s : Shared) (H : Hp) (a : Addr) (ns : List Int), ns.length ≤ n → Env0 P w K mg base callerA [] s H → Only H → SqL K H a (ns.map V.int) →
    codeAny (model P w) callerA (.call (.ref fa) ⟨[.ref a], []⟩) (CR CX0 [] P w H s (fun v _ => v = .bl true) E0) s

theorem good_call {P : Program} {w : World} {K : PySem.W.Frag} {mg mb : Str → Option Value} {n : Nat} {fa a : Addr} {s₁ : Shared} {vs : List Value} {ns : List Int}
    (KX : K.In s₁.heap) (hns : s₁.heap.Ns mainGlobals mg) (hb : s₁.heap.Ns builtinsNs mb) (hbb : ∀ x : Str, x ≠ "__name__" → mb x = bootBuiltins x) (hlim : s₁.heap.NoLimit) (hg : s₁.gens = #[])
    (ha : s₁.heap.get? a = some { cls := .type "list", data := .seq vs.toArray }) (hi : IntsAre vs ns) (hl : ns.length ≤ n) (hn : n ≤ sizeLine) (F : GoodAt P w K mg fa n) :
    codeAny (model P w) callerA (.call (.ref fa) ⟨[.ref a], []⟩) (fun r s' => r = .ok (.ret (.bool true)) ∧ OldK s₁.heap s'.heap ∧ s'.os = s₁.os ∧ AllBare s'.gens) s₁ := by
  have rv := vals_ints hi
  have lenV := hi.length
  have hls : ns.length ≤ sizeLine := Nat.le_trans hl hn
  have main : ∀ H : Hp, Only H → SqL K H a (ns.map V.int) → HOk P w H s₁.heap → (∀ b, H b ≠ none → b = a) → (H a ≠ none → K.lookup a = none) →
      codeAny (model P w) callerA (.call (.ref fa) ⟨[.ref a], []⟩) (fun r s' => r = .ok (.ret (.bool true)) ∧ OldK s₁.heap s'.heap ∧ s'.os = s₁.os ∧ AllBare s'.gens) s₁ := by
    intro H hO hS hok hA hK
    have isA : ∀ {b : Addr} {u : HO}, H b = some u → b = a := fun {b u} q => hA b (by rw [q]; exact fun z => nomatch z)
    have free : ∀ {b : Addr}, b ≠ a → H b = none := fun {b} hb => by
      cases q : H b with
      | none => rfl
      | some u => exact absurd (isA q) hb
    have nsK : ∀ {b : Addr} {m : Str → Option Value}, s₁.heap.Ns b m → (hidT s₁.heap H).Ns b m := fun {b m} ⟨o, es, ep, e, d, r⟩ => ⟨o, es, ep, hidT_get e (free fun z => by
      rw [z, ha] at e
      cases e
      cases d), d, r⟩
    have hKb : K.In (hidT s₁.heap H) := fun b o e => hidT_get (KX b o e) (by
      cases q : H b with
      | none => rfl
      | some u =>
        have z := isA q
        subst z
        have z2 := hK (by rw [q]; exact fun z => nomatch z)
        rw [e] at z2
        cases z2)
    obtain ⟨mc, l1, l2⟩ := hlim
    have e0 : Env0 P w K mg (hidT s₁.heap H) callerA [] s₁ H :=
      ⟨rfl, ⟨hKb, nsK hns, ⟨mb, nsK hb, hbb⟩, ⟨mc, nsK l1, l2⟩⟩, fun b o e => of_hidT e, Nat.le_of_eq (hidT_size _ _), trivial, fun b hb => absurd hb List.not_mem_nil, hok, .of_eq hg⟩
    refine codeAny_mono (F _ s₁ H a ns hl e0 hO hS) fun r s' h => ?_
    cases r with
    | error e => exact False.elim h
    | ok fl =>
      cases fl with
      | next => exact False.elim h
      | brk => exact False.elim h
      | cont => exact False.elim h
      | ret u =>
        obtain ⟨v, H', os, bare, un, hok', r', q⟩ := h
        have q' : v = .bl true := q
        subst q'
        obtain rfl : u = Value.bool true := r'
        refine ⟨rfl, OldK.of_keep fun b o e => ?_, os, bare⟩
        cases q : H b with
        | none => exact un.keep b o e q List.not_mem_nil List.not_mem_nil
        | some u =>
          rcases hO b with z | ⟨ob, xs, z⟩
          · rw [q] at z
            cases z
          · obtain ⟨e1, _⟩ := hok b _ z
            obtain ⟨e2, _⟩ := hok' b _ (un.frzs b ob _ z)
            rw [e] at e1
            cases e1
            exact e2
  cases hk : K.lookup a with
  | some o =>
    have e := KX a o hk
    rw [ha] at e
    cases e
    exact main (fun _ => none) (fun _ => .inl rfl) (.inr ⟨_, vs.toArray, _, hk, rfl, rfl, rfl, by rw [List.size_toArray, lenV]; exact hls, by simpa using rv⟩) (fun b u z => nomatch z) (fun b z => absurd rfl z) fun z => absurd rfl z
  | none =>
    let o : Obj := { cls := .type "list", data := .seq vs.toArray }
    have at_a : ∀ b, (if b = a then some (HO.frz o (.lst (ns.map V.int))) else none) = none ∨ b = a := fun b => by
      by_cases hb : b = a
      · exact .inr hb
      · exact .inl (if_neg hb)
    refine main (fun b => if b = a then some (.frz o (.lst (ns.map V.int))) else none) (fun b => ?_) (.inl (.inr ⟨o, if_pos rfl⟩)) (fun b u z => ?_) (fun b z => ?_) fun _ => hk
    · exact (at_a b).imp id fun hb => ⟨_, _, if_pos hb⟩
    · rcases at_a b with q | hb
      · rw [show (fun b => if b = a then some (HO.frz o (.lst (ns.map V.int))) else none) b = none from q] at z
        cases z
      · rw [show (fun b => if b = a then some (HO.frz o (.lst (ns.map V.int))) else none) b = some (.frz o (.lst (ns.map V.int))) from if_pos hb] at z
        cases z
        subst hb
        exact ⟨ha, by rw [List.length_map]; exact hls, vs, _, rv, ha⟩
    · exact (at_a b).resolve_left z

/-- the goal that k_head leaves, from GoodAt -/
theorem walk_at {l : PySem.W.OpenLaw} {n : Nat} {q : Program} {loose : List Str} {XP : (Str → Option Value) → Heap → Prop} {YP : World → Heap → Prop} {d : DefRec} {K : Params → PySem.W.Frag}
    (hn : l.most = some n) (hn2 : n ≤ sizeLine) (hdf : d.params.defaults = []) (hY : ∀ (w : World) (h : Heap), YP w h → (K w.params).In h)
    (F : ∀ (w : World) (mg : Str → Option Value) (fa : Addr) (h : Heap), (K w.params).In h → h.Ns mainGlobals mg → mg d.name = some (.ref fa) → GoodAt l.prog w (K w.params) mg fa n) :
    PySem.W.WalkO q loose XP YP l.row.toRowW d [] (fun f vs => PySem.call f vs) := by
  refine Att.attach_call hn hdf fun w s₀ s₁ mg mb fa o pm cd doc a vs ns G Y ho hd hcd hmg hobj hints hlen hg => ?_
  have KX := hY w _ Y
  exact good_call KX G.T.g G.T.b G.T.builtins G.T.nolimit hg hobj hints hlen hn2 (F w mg fa _ KX G.T.g hmg)
end L2
namespace K0
open PySem L2
theorem b01 (c : Bool) : (-2 ^ 64 < (if c = true then 1 else 0 : Int)) ∧ (if c = true then 1 else 0 : Int) < 2 ^ 64 := by cases c <;> decide
theorem fmod_nn (a : Int) {b : Int} (h : 0 < b) : 0 ≤ a.fmod b := by
  rw [Int.fmod_eq_emod_of_nonneg a (by omega)]
  exact Int.emod_nonneg a (by omega)
theorem fmod_lt (a : Int) {b : Int} (h : 0 < b) : a.fmod b < b := by
  rw [Int.fmod_eq_emod_of_nonneg a (by omega)]
  exact Int.emod_lt_of_pos a h
theorem paired_append {α β : Type} {F : α → β → Prop} {l2 : List α} {m2 : List β} (k : Paired F l2 m2) : ∀ {l1 : List α} {m1 : List β}, Paired F l1 m1 → Paired F (l1 ++ l2) (m1 ++ m2)
  | _, _, .nil => k
  | _, _, .cons r t => .cons r (paired_append k t)
theorem same_upd {H : Hp} {a : Addr} {o : HO} (n : H a = none) : Same H (upd H a o) := fun b u e => by
  rw [upd_ne (ne_of_none e n)]
  exact e
theorem pa_imp {X : Cx} {es : List Expr} {t t' : TA} (h : PA X es t) (k : ∀ σ H Q, t' σ H Q → t σ H Q) : PA X es t' := ⟨fun pos pins s σ H Q I q => h.run pos pins s σ H Q I (k σ H Q q)⟩
theorem pe_imp {X : Cx} {e : Expr} {t t' : TE} (h : PE X e t) (k : ∀ σ H Q, t' σ H Q → t σ H Q) : PE X e t' := ⟨fun pins s σ H Q I q => h.run pins s σ H Q I (k σ H Q q)⟩
theorem seqT_same {K : PySem.W.Frag} {H H' : Hp} {a : Addr} {xs : List V} (e : Same H H') (h : SqT K H a xs) : SqT K H' a xs := by
  rcases h with (h | ⟨o, h⟩) | h
  · exact .inl (.inl (e _ _ h))
  · exact .inl (.inr ⟨o, e _ _ h⟩)
  · exact .inr h
mutual
theorem dp_same {K : PySem.W.Frag} {H H' : Hp} (s : Same H H') : ∀ (d : PyData) (v : V), Dp K H v d → Dp K H' v d
  | .none, _, h => by
    cases h
    exact .non
  | .bool b, _, h => by
    cases h
    exact .bl b
  | .int i, _, h => by
    cases h
    exact .int i
  | .str x, _, h => by
    cases h
    exact .str x
  | .list ds, _, h => by
    cases h with
    | lst h1 h2 => exact .lst (s.seq h1) (dpAll_same s ds _ h2)
  | .tuple ds, _, h => by
    cases h with
    | tup h1 h2 => exact .tup (seqT_same s h1) (dpAll_same s ds _ h2)
  | .dict _, _, h => by cases h
theorem dpAll_same {K : PySem.W.Frag} {H H' : Hp} (s : Same H H') : ∀ (ds : List PyData) (vs : List V), DpAll K H vs ds → DpAll K H' vs ds
  | [], _, h => by
    cases h
    exact .nil
  | d :: ds, _, h => by
    cases h with
    | cons h1 h2 => exact .cons (dp_same s d _ h1) (dpAll_same s ds _ h2)
end
theorem sh_same {K : PySem.W.Frag} {H H' : Hp} {v : V} {d : PyData} (s : Same H H') (h : Sh K H v d) : Sh K H' v d := h.same s fun v d q => dp_same s d v q
/-- a thing that repr tells: as the text r -/
def Tells (K : PySem.W.Frag) (H : Hp) (v : V) (r : Str) : Prop := ∃ d : PyData, Sh K H v d ∧ d.showable = true ∧ d.depth ≤ 8 ∧ ((∀ i, d ≠ .int i) → d.shown.length ≤ sizeLine) ∧ d.shown = r ∧ PyData.strOk r = true
theorem Tells.same {K : PySem.W.Frag} {H H' : Hp} {v : V} {r : Str} (h : Tells K H v r) (s : Same H H') : Tells K H' v r := by
  obtain ⟨d, h1, h2⟩ := h
  exact ⟨d, sh_same s h1, h2⟩
theorem Tells.ok {K : PySem.W.Frag} {H : Hp} {v : V} {r : Str} (h : Tells K H v r) : PyData.strOk r = true := by
  obtain ⟨d, _, _, _, _, _, h⟩ := h
  exact h
theorem tells_repr {K : PySem.W.Frag} {H : Hp} {v : V} {r : Str} {Q : VK} (h : Tells K H v r) (q : Q (.str r) H) : rRepr K [v] H Q := by
  obtain ⟨d, h1, h2, h3, h4, rfl, _⟩ := h
  exact ⟨v, d, rfl, h1, h2, h3, h4, q⟩
theorem ok_ofString (x : String) : PyData.strOk (Str.ofString x) = true := by
  rw [Str.ofString_eq_toList]
  unfold PyData.strOk
  rw [List.all_toArray, List.all_eq_true]
  intro n hn
  obtain ⟨ch, _, rfl⟩ := List.mem_map.mp hn
  have h : ch.toNat < 0xd800 ∨ (0xdfff < ch.toNat ∧ ch.toNat < 0x110000) := ch.valid
  exact decide_eq_true (by omega)
theorem tells_int {K : PySem.W.Frag} {H : Hp} {i : Int} (h : i.natAbs < 2 ^ 100) : ∃ r, Tells K H (.int i) r :=
  ⟨_, .int i, .plain (.int i) rfl, decide_eq_true (Nat.lt_of_lt_of_le (PySem.Flt.log2_lt_of (by decide) h) (by decide)), by show 0 ≤ 8; decide, fun h => absurd rfl (h i), rfl, ok_ofString _⟩
theorem tells_data {K : PySem.W.Frag} {H : Hp} {v : V} {d : PyData} (h : Sh K H v d) (c : (d.showable && decide (d.depth ≤ 8) && decide (d.shown.length ≤ sizeLine) && PyData.strOk d.shown) = true) : ∃ r, Tells K H v r := by
  simp only [Bool.and_eq_true, decide_eq_true_eq] at c
  exact ⟨_, d, h, c.1.1.1, c.1.1.2, fun _ => c.1.2, rfl, c.2⟩
theorem dpAll_rep {K : PySem.W.Frag} {H : Hp} {v : V} {d : PyData} (h : Dp K H v d) : ∀ n : Nat, DpAll K H (List.replicate n v) (List.replicate n d)
  | 0 => .nil
  | n + 1 => .cons h (dpAll_rep h n)
theorem dpAll_bl {K : PySem.W.Frag} {H : Hp} : ∀ bs : List Bool, DpAll K H (bs.map V.bl) (bs.map PyData.bool)
  | [] => .nil
  | b :: bs => .cons (.bl b) (dpAll_bl bs)
theorem canAll_bools : ∀ bs : List Bool, PyData.canLayAll0 (bs.map .bool) = true
  | [] => by simp [PyData.canLayAll0]
  | b :: bs => by simp [PyData.canLayAll0, PyData.canLay0, canAll_bools bs]
theorem depth_bools : ∀ bs : List Bool, PyData.depthAll (bs.map .bool) = 0
  | [] => by simp [PyData.depthAll]
  | b :: bs => by simp [PyData.depthAll, PyData.depth, depth_bools bs]
theorem canAll_strs {x : Str} (h : PyData.strOk x = true) : ∀ n : Nat, PyData.canLayAll0 (List.replicate n (.str x)) = true
  | 0 => by simp [PyData.canLayAll0]
  | n + 1 => by simp [List.replicate_succ, PyData.canLayAll0, PyData.canLay0, h, canAll_strs h n]
theorem depth_strs {x : Str} : ∀ n : Nat, PyData.depthAll (List.replicate n (.str x)) = 0
  | 0 => by simp [PyData.depthAll]
  | n + 1 => by simp [List.replicate_succ, PyData.depthAll, PyData.depth, depth_strs n]
theorem shaped_bools (bs : List Bool) : SeqAt.shaped (.list (bs.map .bool)) = true := by
  simp [SeqAt.shaped, PyData.canLay0, canAll_bools, PyData.depth, depth_bools]
theorem shaped_strs {x : Str} (h : PyData.strOk x = true) (n : Nat) : SeqAt.shaped (.list (List.replicate n (.str x))) = true := by
  simp [SeqAt.shaped, PyData.canLay0, canAll_strs h, PyData.depth, depth_strs]
theorem eqv_shaped {d : PyData} (h : SeqAt.shaped d = true) : PyData.eqv d d = true := SeqAt.eqv_refl d (SeqAt.canLay_of_shaped h)
theorem same_over {H H' : Hp} {d : Addr} {o : HO} (s : Same H H') (n : H d = none) : Same H (upd H' d o) := fun b u e => by
  rw [upd_ne (ne_of_none e n)]
  exact s b u e
/-- a comprehension over a list that stands still: the i-th item is f i -/
theorem lc_fun {K : PySem.W.Frag} {a : Addr} {xs : List V} {te : TE} {j : Nat} {σ : St} {H1 : Hp} {D : Addr} {Qd : Hp → Prop} (f : Nat → V) (nD : H1 D = none) (ha : SqL K H1 a xs) (hz : xs.length ≤ 1000) (hw : ∀ x, wipe ((wipe σ [j]).set j (some x)) [j] = wipe σ [j])
    (he : ∀ i x H' Q, xs[i]? = some x → Same H1 H' → Q (f i) H' → te ((wipe σ [j]).set j (some x)) H' Q) (hd : ∀ H', Same H1 H' → H' D = some (.lst ((List.range xs.length).map f)) → Qd H') :
    ∃ W : Nat → Nat → Hp → Prop, (∃ m, W 0 m (upd H1 D (.lst []))) ∧ ∀ i m H, W i m H →
      ((Itl K a).stop i H ∧ Qd H) ∨ ((Itl K a).go i H ∧ ∃ Nx : Hp → Prop, (∀ H', Nx H' → ∃ m', m' < m ∧ W (i + 1) m' H') ∧ ∀ x H', (Itl K a).yld i H x H' → (gName j) x (wipe σ [j]) H' fun σ2 H2 => wipe σ2 [j] = wipe σ [j] ∧ tYes σ2 H2 fun b H3 =>
        if b = true then te σ2 H3 fun y H4 => ∃ acc, H4 D = some (.lst acc) ∧ acc.length < sizeLine ∧ Nx (upd H4 D (.lst (acc ++ [y]))) else Nx H3) := by
  refine lc_list (K := K) (a := a) (xs := xs) (fun i H' => i ≤ xs.length ∧ Same H1 H' ∧ H' D = some (.lst ((List.range i).map f))) ⟨Nat.zero_le _, same_upd nD, upd_same⟩ (fun i H' _ ⟨_, s, _⟩ => s.seq ha) ?_ (fun H' ⟨_, s, h⟩ => hd H' s h)
  intro i x H' hi ⟨hle, s, h⟩
  have hlt := (List.getElem?_eq_some_iff.mp hi).1
  refine ⟨hw x, ?_⟩
  unfold tYes
  dsimp only
  rw [if_pos rfl]
  refine he i x H' _ hi s ⟨_, h, ?_, hlt, same_over s nD, ?_⟩
  · rw [List.length_map, List.length_range, sizeLine_eq]
    omega
  · rw [upd_same, List.range_succ, List.map_append]
    rfl
/-- .. over a range -/
theorem lc_funR {n : Nat} {te : TE} {j : Nat} {σ : St} {H1 : Hp} {D : Addr} {Qd : Hp → Prop} (f : Nat → V) (nD : H1 D = none) (hz : n ≤ 1000) (hw : ∀ x, wipe ((wipe σ [j]).set j (some x)) [j] = wipe σ [j])
    (he : ∀ i H' Q, i < n → Same H1 H' → Q (f i) H' → te ((wipe σ [j]).set j (some (.int (0 + (i : Int))))) H' Q) (hd : ∀ H', Same H1 H' → H' D = some (.lst ((List.range n).map f)) → Qd H') :
    ∃ W : Nat → Nat → Hp → Prop, (∃ m, W 0 m (upd H1 D (.lst []))) ∧ ∀ i m H, W i m H →
      ((Itr 0 n).stop i H ∧ Qd H) ∨ ((Itr 0 n).go i H ∧ ∃ Nx : Hp → Prop, (∀ H', Nx H' → ∃ m', m' < m ∧ W (i + 1) m' H') ∧ ∀ x H', (Itr 0 n).yld i H x H' → (gName j) x (wipe σ [j]) H' fun σ2 H2 => wipe σ2 [j] = wipe σ [j] ∧ tYes σ2 H2 fun b H3 =>
        if b = true then te σ2 H3 fun y H4 => ∃ acc, H4 D = some (.lst acc) ∧ acc.length < sizeLine ∧ Nx (upd H4 D (.lst (acc ++ [y]))) else Nx H3) := by
  refine lc_range (lo := 0) (n := n) (fun i H' => i ≤ n ∧ Same H1 H' ∧ H' D = some (.lst ((List.range i).map f))) ⟨Nat.zero_le _, same_upd nD, upd_same⟩ ?_ (fun H' ⟨_, s, h⟩ => hd H' s h)
  intro i H' hlt ⟨hle, s, h⟩
  refine ⟨hw _, ?_⟩
  unfold tYes
  dsimp only
  rw [if_pos rfl]
  refine he i H' _ hlt s ⟨_, h, ?_, hlt, same_over s nD, ?_⟩
  · rw [List.length_map, List.length_range, sizeLine_eq]
    omega
  · rw [upd_same, List.range_succ, List.map_append]
    rfl
theorem map_range_const {α : Type} (x : α) (n : Nat) : (List.range n).map (fun _ => x) = List.replicate n x := by
  induction n with
  | zero => rfl
  | succ n ih => rw [List.range_succ, List.map_append, ih, List.replicate_succ']; rfl
end K0
/-! data, with empty dicts in it, and what the program asks of it -/
namespace K1
open PySem L2
mutual
/-- a value that is data: lists are tracked or written, dicts empty -/
inductive DQ (K : PySem.W.Frag) (H : Hp) : V → PyData → Prop
  | non : DQ K H .non .none
  | bl (b : Bool) : DQ K H (.bl b) (.bool b)
  | int (i : Int) : DQ K H (.int i) (.int i)
  | str (x : Str) (h : x.length ≤ 1000) : DQ K H (.str x) (.str x)
  | lst {a : Addr} {xs : List V} {ds : List PyData} : SqL K H a xs → DQs K H xs ds → DQ K H (.ref a) (.list ds)
  | tup {a : Addr} {xs : List V} {ds : List PyData} : SqT K H a xs → DQs K H xs ds → DQ K H (.ref a) (.tuple ds)
  | dct {a : Addr} : H a = some (.dK []) → DQ K H (.ref a) (.dict [])
inductive DQs (K : PySem.W.Frag) (H : Hp) : List V → List PyData → Prop
  | nil : DQs K H [] []
  | cons {v : V} {vs : List V} {d : PyData} {ds : List PyData} : DQ K H v d → DQs K H vs ds → DQs K H (v :: vs) (d :: ds)
end
mutual
theorem DQ.same {K : PySem.W.Frag} {H H' : Hp} (s : Same H H') : ∀ (d : PyData) (v : V), DQ K H v d → DQ K H' v d
  | .none, _, h => by
    cases h
    exact .non
  | .bool b, _, h => by
    cases h
    exact .bl b
  | .int i, _, h => by
    cases h
    exact .int i
  | .str x, _, h => by
    cases h with
    | str _ h => exact .str x h
  | .list ds, _, h => by
    cases h with
    | lst h1 h2 => exact .lst (s.seq h1) (DQs.same s ds _ h2)
  | .tuple ds, _, h => by
    cases h with
    | tup h1 h2 => exact .tup (K0.seqT_same s h1) (DQs.same s ds _ h2)
  | .dict [], _, h => by
    cases h with
    | dct h => exact .dct (s _ _ h)
  | .dict (_ :: _), _, h => by cases h
theorem DQs.same {K : PySem.W.Frag} {H H' : Hp} (s : Same H H') : ∀ (ds : List PyData) (vs : List V), DQs K H vs ds → DQs K H' vs ds
  | [], _, h => by
    cases h
    exact .nil
  | d :: ds, _, h => by
    cases h with
    | cons h1 h2 => exact .cons (DQ.same s d _ h1) (DQs.same s ds _ h2)
end
theorem DQ.to {K : PySem.W.Frag} {H H' : Hp} {d : PyData} {v : V} (h : DQ K H v d) (s : Same H H') : DQ K H' v d := DQ.same s d v h
theorem DQs.len {K : PySem.W.Frag} {H : Hp} : ∀ {vs : List V} {ds : List PyData}, DQs K H vs ds → vs.length = ds.length
  | _, _, .nil => rfl
  | _, _, .cons _ t => by rw [List.length_cons, List.length_cons, t.len]
theorem DQs.get {K : PySem.W.Frag} {H : Hp} : ∀ {vs : List V} {ds : List PyData} {i : Nat} {d : PyData}, DQs K H vs ds → ds[i]? = some d → ∃ v, vs[i]? = some v ∧ DQ K H v d
  | _, _, i, d, .nil, h => by simp at h
  | _, _, 0, d, .cons r t, h => by
    simp at h
    subst h
    exact ⟨_, rfl, r⟩
  | _, _, i + 1, d, .cons r t, h => by
    obtain ⟨v, h1, h2⟩ := t.get (i := i) (d := d) (by simpa using h)
    exact ⟨v, by simpa using h1, h2⟩
/-- the name of its type -/
def tyD : PyData → String
  | .none => "NoneType"
  | .bool _ => "bool"
  | .int _ => "int"
  | .str _ => "str"
  | .list _ => "list"
  | .tuple _ => "tuple"
  | .dict _ => "dict"
def isInt : PyData → Bool
  | .int _ => true
  | .bool _ => true
  | _ => false
def isBool : PyData → Bool
  | .bool _ => true
  | _ => false
def isStr : PyData → Bool
  | .str _ => true
  | _ => false
def isTup : PyData → Bool
  | .tuple _ => true
  | _ => false
theorem kit_int (d : PyData) : kitB (tyD d) "int" = some (isInt d) := by cases d <;> (simp only [tyD, isInt]; decide +kernel)
theorem kit_bool (d : PyData) : kitB (tyD d) "bool" = some (isBool d) := by cases d <;> (simp only [tyD, isBool]; decide +kernel)
theorem kit_str (d : PyData) : kitB (tyD d) "str" = some (isStr d) := by cases d <;> (simp only [tyD, isStr]; decide +kernel)
theorem kit_tup (d : PyData) : kitB (tyD d) "tuple" = some (isTup d) := by cases d <;> (simp only [tyD, isTup]; decide +kernel)
theorem tyX_of {K : PySem.W.Frag} {H : Hp} {v : V} {d : PyData} (h : DQ K H v d) : TyX K H v (.type (tyD d)) := by
  cases h with
  | non => exact .base .non
  | bl b => exact .base (.bl b)
  | int i => exact .base (.int i)
  | str x _ => exact .base (.str x)
  | lst h _ =>
    rcases h with (h | ⟨o, h⟩) | ⟨o, its, n, h1, h2, _⟩
    · exact .base (.lst h)
    · exact .base (.frz h)
    · exact .kList h1 h2
  | tup h _ =>
    rcases h with (h | ⟨o, h⟩) | ⟨o, its, n, h1, h2, _⟩
    · exact .base (.tup h)
    · exact .fTuple h
    · exact .kTuple h1 h2
  | dct h => exact .base (.dK h)
theorem isi_ask {K : PySem.W.Frag} {H : Hp} {v : V} {d : PyData} {n : String} {b : Bool} {Q : VK} (h : DQ K H v d) (e : kitB (tyD d) n = some b) (q : Q (.bl b) H) : rIsi K [v, .ty n] H Q :=
  ⟨v, .ty n, .type (tyD d), .type n, b, rfl, .ty n, tyX_of h, kit_ty e, q⟩
/-! ### what the document calls numbers, names, stamps, bodies and deeds, of data -/
def numD : PyData → Bool
  | .int _ => true
  | _ => false
def fromD (lo hi : Int) : PyData → Bool
  | .int i => decide (lo ≤ i) && decide (i ≤ hi)
  | _ => false
def tupD (n : Nat) : PyData → Bool
  | .tuple ds => decide (ds.length = n)
  | _ => false
def stampD : PyData → Bool
  | .tuple [a, b] => fromD 1 999 a && fromD 0 3 b
  | _ => false
def rootD : PyData → Bool
  | .tuple [a, b] => fromD 0 0 a && fromD 0 0 b
  | _ => false
def thingD (d : PyData) : Bool := stampD d || rootD d
def letter (c : Nat) : Bool := decide (97 ≤ c) && decide (c ≤ 122)
def nameD : PyData → Bool
  | .str x => decide (1 ≤ x.length) && decide (x.length ≤ 4) && x.cps.toList.all letter
  | _ => false
def binderD (d : PyData) : Bool := match d with
  | .none => true
  | d => thingD d
def noneD : PyData → Bool
  | .none => true
  | _ => false
def holdsD : PyData → Bool
  | .str x => x == "block" || x == "let" || x == "sum" || x == "product"
  | _ => false
def contentD (k c : PyData) : Bool := match k with
  | .str x => if x = "let" then nameD c else if x = "use" then binderD c else if x = "number" then fromD 0 99 c else holdsD k && noneD c
  | _ => false
def writeD (w c : PyData) : Bool := match w with
  | .str x => if x = "wish" then nameD c else if x = "point" then binderD c else decide (x = "set") && fromD 0 99 c
  | _ => false
def seenD (t : Int) : PyData → Bool
  | .tuple ds => decide (ds.length = 4) && ds.all (fromD 0 (t - 1))
  | _ => false
def makeR : List PyData → Bool
  | [k, u, y, c] => thingD u && (fromD 0 999 y && contentD k c)
  | _ => false
def moveR : List PyData → Bool
  | [t, u, y] => thingD t && (thingD u && fromD 0 999 y)
  | _ => false
def dropR : List PyData → Bool
  | [t] => thingD t
  | _ => false
def markR : List PyData → Bool
  | [t] => stampD t
  | _ => false
def writeR (w : Str) : List PyData → Bool
  | [t, c] => thingD t && writeD (.str w) c
  | _ => false
def bodyR (w : Str) (r : List PyData) : Bool :=
  if w = "make" then makeR r else if w = "move" then moveR r else if w = "drop" then dropR r else if w = "undo" ∨ w = "redo" then markR r else writeR w r
def bodyD : PyData → Bool
  | .tuple (.str w :: r) => bodyR w r
  | _ => false
def timeD : PyData → Int
  | .tuple (.int t :: _) => t
  | _ => 0
def deedD : PyData → Bool
  | .tuple [s, k, b] => stampD s && (seenD (timeD s) k && bodyD b)
  | _ => false
/-! ### promises -/
/-- a question of one value of data -/
def spD (K : PySem.W.Frag) (f : PyData → Bool) : Sp := fun vs H Q _ => ∃ v d, vs = [v] ∧ DQ K H v d ∧ ∀ H', Same H H' → Q (.bl (f d)) H'
def spFrom (K : PySem.W.Frag) : Sp := fun vs H Q _ => ∃ v d lo hi, vs = [v, .int lo, .int hi] ∧ DQ K H v d ∧ ∀ H', Same H H' → Q (.bl (fromD lo hi d)) H'
def spTup (K : PySem.W.Frag) : Sp := fun vs H Q _ => ∃ v d, ∃ n : Nat, vs = [v, .int n] ∧ DQ K H v d ∧ ∀ H', Same H H' → Q (.bl (tupD n d)) H'
end K1
namespace K1
open PySem L2
def top (i : Nat) : Stmt := PySem.Challenge.pw_sharedscopes_k12_news_and_what_is_lackin.main.body.getD i (.Pass ⟨0, 0, 0, 0⟩)
abbrev s_is_number : Stmt := top 2
abbrev s_is_from : Stmt := top 3
abbrev s_is_tuple_of : Stmt := top 4
abbrev s_is_name : Stmt := top 22
abbrev s_is_stamp : Stmt := top 23
abbrev s_is_thing : Stmt := top 24
abbrev s_is_body : Stmt := top 25
abbrev s_is_deed : Stmt := top 26
/-- the built-ins' names are not the module's -/
structure Bi (mg : Str → Option Value) : Prop where
  isi : mg "isinstance" = none
  int : mg "int" = none
  bool : mg "bool" = none
  str : mg "str" = none
  tuple : mg "tuple" = none
  len : mg "len" = none
  all : mg "all" = none
/-- a def of the text, called by its name -/
structure Dn (K : PySem.W.Frag) (mg : Str → Option Value) (x : Str) (ps : List Str) (st : Stmt) (g : Addr) (fd : FuncData) : Prop where
  fn : Fun K x x st g fd
  bn : Binds K fd ps []
  mg : mg x = some (.ref g)
theorem DQ.item {K : PySem.W.Frag} {H : Hp} {v : V} {ds : List PyData} {i : Nat} {d : PyData} (h : DQ K H v (.tuple ds)) (hi : ds[i]? = some d) : ∃ a xs u, v = .ref a ∧ SqT K H a xs ∧ atI xs (i : Int) = some u ∧ DQ K H u d := by
  cases h with
  | tup h1 h2 =>
    obtain ⟨u, e, q⟩ := h2.get hi
    exact ⟨_, _, u, rfl, h1, atI_nat e, q⟩
/-- isinstance(v, a built-in type), of data -/
def rIsiD (K : PySem.W.Frag) : List V → Hp → VK → Prop := fun xs H Q => ∃ v d n b, xs = [v, .ty n] ∧ DQ K H v d ∧ kitB (tyD d) n = some b ∧ Q (.bl b) H
theorem call_isiD {X : Cx} : CallR X (.builtin "isinstance") (rIsiD X.K) := by
  intro pins s σ H xs us Q I r ⟨v, d, n, b, e, hd, hk, q⟩
  subst e
  exact call_isi pins s σ H _ us Q I r (isi_ask hd hk q)
section
variable {P : Program} {w : World} {K : PySem.W.Frag} {mg : Str → Option Value} {base : Heap}
theorem sc_number : FnScope ["value"] ["value"] (defScope s_is_number) := ⟨rfl, rfl, rfl, by decide +kernel, rfl, by decide +kernel, by decide +kernel⟩
theorem ok_number {f : Addr} {fd : FuncData} (F : Fun K "is_number" "is_number" s_is_number f fd) (B : Bi mg) : FnOk P w K mg base CX0 1 f fd ["value"] (spD K numD) := by
  refine F.ok sc_number (fun vs H Q E h => ?_) (fun cdv A outer s H vs Q E hr h => ?_)
  · obtain ⟨v, d, rfl, _⟩ := h
    rfl
  · obtain ⟨v, d, rfl, hd, k⟩ := h
    refine ⟨_, pss_one (ps_ret (pe_and (pe_callB call_isiD (by rfl) B.isi (by decide +kernel) (pa_cons (pv 0) (pa_cons (pe_bltn (v := .ty "int") (by rfl) B.int (by decide +kernel) rfl) pa_nil)))
      (pe_one (pe_not (pe_callB call_isiD (by rfl) B.isi (by decide +kernel) (pa_cons (pv 0) (pa_cons (pe_bltn (v := .ty "bool") (by rfl) B.bool (by decide +kernel) rfl) pa_nil))))))), ?_⟩
    refine ⟨_, rfl, v, d, _, _, rfl, hd, kit_int d, _, rfl, ?_⟩
    have k' := k H (Same.refl H)
    cases hd with
    | int i => exact iteT ⟨_, rfl, _, _, _, _, rfl, .int i, kit_bool _, _, rfl, k'⟩
    | bl b => exact iteT ⟨_, rfl, _, _, _, _, rfl, .bl b, kit_bool _, _, rfl, k'⟩
    | _ => exact iteF k'
theorem sc_from : FnScope ["value", "least", "most"] ["value", "least", "most"] (defScope s_is_from) := ⟨rfl, rfl, rfl, by decide +kernel, rfl, by decide +kernel, by decide +kernel⟩
theorem ok_from {f g : Addr} {fd fg : FuncData} (F : Fun K "is_from" "is_from" s_is_from f fd) (B : Bi mg) (D : Dn K mg "is_number" ["value"] s_is_number g fg) : FnOk P w K mg base CX0 2 f fd ["value", "least", "most"] (spFrom K) := by
  have G : FnOk P w K mg base CX0 1 g fg _ (spD K numD) := ok_number D.fn B
  refine F.ok sc_from (fun vs H Q E h => ?_) (fun cdv A outer s H vs Q E hr h => ?_)
  · obtain ⟨v, d, lo, hi, rfl, _⟩ := h
    rfl
  · obtain ⟨v, d, lo, hi, rfl, hd, k⟩ := h
    refine ⟨_, pss_one (ps_ret (pe_and (pe_call G hr rfl D.mg D.fn.kp D.bn .nil pass0 (pa_cons (pv 0) pa_nil)) (pe_one (pe_chain op_le op_le (pv 1) (pv 0) (pv 2))))), ?_⟩
    refine ⟨_, rfl, v, d, rfl, hd, fun H1 S1 => ⟨_, rfl, ?_⟩⟩
    have k' := k H1 S1
    cases hd with
    | int i =>
      refine iteT ⟨_, rfl, _, rfl, _, _, rfl, rfl, _, rfl, ?_⟩
      have e : fromD lo hi (.int i) = (decide (lo ≤ i) && decide (i ≤ hi)) := rfl
      rw [e] at k'
      refine ite2 (fun h => ?_) (fun h => ?_)
      · rw [h, Bool.true_and] at k'
        exact ⟨_, rfl, _, _, rfl, rfl, k'⟩
      · rw [Bool.eq_false_iff.mpr h, Bool.false_and] at k'
        exact k'
    | _ => exact iteF k'
theorem sc_tupleof : FnScope ["value", "many"] ["value", "many"] (defScope s_is_tuple_of) := ⟨rfl, rfl, rfl, by decide +kernel, rfl, by decide +kernel, by decide +kernel⟩
theorem dec_len {a b : Nat} : decide (V.int (a : Int) = V.int (b : Int)) = decide (a = b) := by
  by_cases h : a = b
  · subst h
    rw [decide_eq_true rfl, decide_eq_true rfl]
  · rw [decide_eq_false h, decide_eq_false fun z => h ?_]
    injection z with z
    omega
theorem ok_tupleof {f : Addr} {fd : FuncData} (F : Fun K "is_tuple_of" "is_tuple_of" s_is_tuple_of f fd) (B : Bi mg) : FnOk P w K mg base CX0 1 f fd ["value", "many"] (spTup K) := by
  refine F.ok sc_tupleof (fun vs H Q E h => ?_) (fun cdv A outer s H vs Q E hr h => ?_)
  · obtain ⟨v, d, n, rfl, _⟩ := h
    rfl
  · obtain ⟨v, d, n, rfl, hd, k⟩ := h
    refine ⟨_, pss_one (ps_ret (pe_and (pe_callB call_isiD (by rfl) B.isi (by decide +kernel) (pa_cons (pv 0) (pa_cons (pe_bltn (v := .ty "tuple") (by rfl) B.tuple (by decide +kernel) rfl) pa_nil)))
      (pe_one (pe_cmpR op_eq (pe_callB call_len_seq (by rfl) B.len PySem.boot_len (pa_cons (pv 0) pa_nil)) (pv 1) (nomark _))))), ?_⟩
    refine ⟨_, rfl, v, d, _, _, rfl, hd, kit_tup d, _, rfl, ?_⟩
    have k' := k H (Same.refl H)
    cases hd with
    | @tup a xs ds h1 h2 =>
      refine iteT ⟨_, rfl, a, xs, rfl, .inr h1, _, rfl, rfl, ?_⟩
      rw [h2.len, dec_len]
      exact k'
    | _ => exact iteF k'
end
end K1
namespace K1
open PySem L2
abbrev s_can_make : Stmt := top 30
abbrev s_can_hold : Stmt := top 31
abbrev s_can_write : Stmt := top 32
abbrev s_is_key : Stmt := top 33
abbrev s_is_value : Stmt := top 34
abbrev s_is_binder : Stmt := top 35
abbrev s_is_seen : Stmt := top 36
/-- the module's constants -/
structure Cn (K : PySem.W.Frag) (mg : Str → Option Value) : Prop where
  mt : ∃ t, mg "MOST_TIME" = some (.int 999 t)
  hol : ∃ a, mg "_HOLDERS" = some (.ref a) ∧ ∀ H, SqT K H a [.str "block", .str "let", .str "sum", .str "product"]
  mar : ∃ a, mg "_MARKS" = some (.ref a) ∧ ∀ H, SqT K H a [.str "undo", .str "redo"]
  let_ : ∃ t, mg "_LETTERS" = some (.str "abcdefghijklmnopqrstuvwxyz" t)
theorem letters : ("abcdefghijklmnopqrstuvwxyz" : Str).cps.toList = [97, 98, 99, 100, 101, 102, 103, 104, 105, 106, 107, 108, 109, 110, 111, 112, 113, 114, 115, 116, 117, 118, 119, 120, 121, 122] := by decide +kernel
theorem mem_letters (c : Nat) : decide (c ∈ ("abcdefghijklmnopqrstuvwxyz" : Str).cps.toList) = letter c := by
  rw [letters, Bool.eq_iff_iff]
  unfold letter
  simp only [decide_eq_true_eq, List.mem_cons, List.not_mem_nil, or_false, Bool.and_eq_true]
  omega
/-- a comprehension over a text's signs -/
theorem lc_funS {z : Str} {te : TE} {j : Nat} {σ : St} {H1 : Hp} {D : Addr} {Qd : Hp → Prop} (f : Nat → V) (nD : H1 D = none) (hz : z.cps.size ≤ 1000) (hw : ∀ x, wipe ((wipe σ [j]).set j (some x)) [j] = wipe σ [j])
    (he : ∀ i c H' Q, z.cps[i]? = some c → Same H1 H' → Q (f i) H' → te ((wipe σ [j]).set j (some (.str ⟨#[c]⟩))) H' Q) (hd : ∀ H', Same H1 H' → H' D = some (.lst ((List.range z.cps.size).map f)) → Qd H') :
    ∃ W : Nat → Nat → Hp → Prop, (∃ m, W 0 m (upd H1 D (.lst []))) ∧ ∀ i m H, W i m H →
      ((Its z).stop i H ∧ Qd H) ∨ ((Its z).go i H ∧ ∃ Nx : Hp → Prop, (∀ H', Nx H' → ∃ m', m' < m ∧ W (i + 1) m' H') ∧ ∀ x H', (Its z).yld i H x H' → (gName j) x (wipe σ [j]) H' fun σ2 H2 => wipe σ2 [j] = wipe σ [j] ∧ tYes σ2 H2 fun b H3 =>
        if b = true then te σ2 H3 fun y H4 => ∃ acc, H4 D = some (.lst acc) ∧ acc.length < sizeLine ∧ Nx (upd H4 D (.lst (acc ++ [y]))) else Nx H3) := by
  refine lc_it (walk_str (z := z)) (fun i H' => i ≤ z.cps.size ∧ Same H1 H' ∧ H' D = some (.lst ((List.range i).map f))) ⟨Nat.zero_le _, K0.same_upd nD, upd_same⟩ (fun _ _ _ _ => trivial) ?_ (fun H' ⟨_, s, h⟩ => hd H' s h)
  rintro i x H2 H' hlt ⟨hle, s, h⟩ ⟨rfl, c, hc, rfl⟩
  refine ⟨hw _, ?_⟩
  unfold tYes
  dsimp only
  rw [if_pos rfl]
  refine he i c _ _ hc s ⟨_, h, ?_, hlt, K0.same_over s nD, ?_⟩
  · rw [List.length_map, List.length_range, sizeLine_eq]
    omega
  · rw [upd_same, List.range_succ, List.map_append]
    rfl
def ask {α : Type} (p : α → Bool) : Option α → Bool
  | some x => p x
  | none => true
theorem all_range {α : Type} (p : α → Bool) : ∀ (l : List α), ((List.range l.length).map fun i => ask p l[i]?).all id = l.all p := by
  intro l
  rw [Bool.eq_iff_iff]
  simp only [List.all_map, List.all_eq_true, List.mem_range, Function.comp, id]
  constructor
  · intro h x hx
    obtain ⟨i, hi, e⟩ := List.mem_iff_getElem.mp hx
    have z := h i hi
    rw [List.getElem?_eq_getElem hi] at z
    rw [e] at z
    exact z
  · intro h i hi
    rw [List.getElem?_eq_getElem hi]
    exact h _ (List.getElem_mem hi)
section
variable {P : Program} {w : World} {K : PySem.W.Frag} {mg : Str → Option Value} {base : Heap}
theorem sc_name : FnScope ["value", "sign"] ["value"] (defScope s_is_name) := ⟨rfl, rfl, rfl, by decide +kernel, rfl, by decide +kernel, by decide +kernel⟩
theorem ok_name {f : Addr} {fd : FuncData} (F : Fun K "is_name" "is_name" s_is_name f fd) (B : Bi mg) (C : Cn K mg) : FnOk P w K mg base CX0 1 f fd ["value"] (spD K nameD) := by
  refine F.ok sc_name (fun vs H Q E h => ?_) (fun cdv A outer s H vs Q E hr h => ?_)
  · obtain ⟨v, d, rfl, _⟩ := h
    rfl
  · obtain ⟨v, d, rfl, hd, k⟩ := h
    obtain ⟨tL, hL⟩ := C.let_
    refine ⟨_, pss_cons (ps_if (PW.pt (pw_or (pt_not (pt_val (pe_callB call_isiD (by rfl) B.isi (by decide +kernel) (pa_cons (pv 0) (pa_cons (pe_bltn (v := .ty "str") (by rfl) B.str (by decide +kernel) rfl) pa_nil)))))
        (pw_or1 (pt_not (pt_chain op_le op_le pe_int (pe_callB call_len_str (by rfl) B.len PySem.boot_len (pa_cons (pv 0) pa_nil)) pe_int))))) (pss_one (ps_ret pe_bl)) pss_nil)
      (pss_one (ps_ret (pe_callB (cr_all rfl) (by rfl) B.all (by decide +kernel) (pa_cons (pe_lc (own := [("sign", 1)]) (g := gName 1) (tt := tYes) rfl sc_name.nd (pi_str (pv 0)) (blkOk_by (own := [("sign", 1)]) (N := ["value", "sign"]) (sc := defScope s_is_name) (by decide +kernel))
        (fun _ _ _ _ _ => pg_name (i := 1) sc_name.nd rfl (Or.inl rfl)) (fun _ _ _ _ _ => pts_nil) (fun _ _ _ _ _ => pe_cmpR op_in_sign (pv 1) (pe_glob (v := .str "abcdefghijklmnopqrstuvwxyz") rfl hL ⟨_, rfl⟩) rfl)) pa_nil)))), ?_⟩
    refine ⟨_, rfl, v, d, _, _, rfl, hd, kit_str d, _, rfl, ?_⟩
    have k' := k H (Same.refl H)
    cases hd with
    | str x hx =>
      refine iteF ⟨_, rfl, x, rfl, ?_, _, _, rfl, rfl, _, rfl, ?_⟩
      · rw [sizeLine_eq]
        omega
      · have e : nameD (.str x) = (decide (1 ≤ x.length) && decide (x.length ≤ 4) && x.cps.toList.all letter) := rfl
        rw [e] at k'
        refine ite2 (fun h1 => ?_) (fun h1 => ?_)
        · refine ⟨_, _, rfl, rfl, _, rfl, ?_⟩
          have h1' : 1 ≤ x.length := by
            have := of_decide_eq_true h1
            omega
          by_cases h2 : x.length ≤ 4
          · refine iteNS (by omega) ?_
            refine ⟨_, rfl, x, rfl, fun Dd nD => ?_⟩
            have hs : x.cps.size = x.cps.toList.length := (Array.length_toList).symm
            refine lc_funS (z := x) (j := 1) (fun i => .bl (ask letter x.cps.toList[i]?)) nD (by show x.length ≤ 1000; exact hx) (fun _ => rfl) (fun i c H' Q' hc s' q => ?_) (fun H' s' hD => ?_)
            · refine ⟨_, rfl, c, _, rfl, rfl, ?_⟩
              rw [mem_letters]
              rw [← Array.getElem?_toList] at hc
              rw [hc] at q
              exact q
            · refine ⟨Dd, (List.range x.cps.size).map fun i => ask letter x.cps.toList[i]?, rfl, SqL.of (hD.trans (by rw [List.map_map]; rfl)), ?_⟩
              have z := k H' s'
              rw [e, decide_eq_true h1', decide_eq_true h2, Bool.true_and, Bool.true_and, ← all_range, ← hs] at z
              exact z
          · rw [decide_eq_true h1', decide_eq_false h2] at k'
            rw [decide_eq_false (by omega)]
            exact iteT k'
        · have h1' : ¬ 1 ≤ x.length := fun h => h1 (decide_eq_true (by omega))
          rw [decide_eq_false h1'] at k'
          exact ⟨_, rfl, iteT k'⟩
    | _ => exact iteT (iteT k')
end
end K1
namespace K1
open PySem L2
def tabL : List (Nat × Str × List Str) := [(0, (("_wall" : Str), [("k" : Str)])),
  (2, (("is_number" : Str), [("value" : Str)])),
  (3, (("is_from" : Str), [("value" : Str), ("least" : Str), ("most" : Str)])),
  (4, (("is_tuple_of" : Str), [("value" : Str), ("many" : Str)])),
  (5, (("is_listing" : Str), [("value" : Str)])),
  (6, (("are_at_most" : Str), [("ones" : Str), ("others" : Str)])),
  (22, (("is_name" : Str), [("value" : Str)])),
  (23, (("is_stamp" : Str), [("value" : Str)])),
  (24, (("is_thing" : Str), [("value" : Str)])),
  (25, (("is_body" : Str), [("value" : Str)])),
  (26, (("is_deed" : Str), [("value" : Str)])),
  (27, (("check_hand" : Str), [("hand" : Str)])),
  (28, (("names_in" : Str), [("body" : Str)])),
  (29, (("has_seen_stamp" : Str), [("deed" : Str), ("stamp" : Str)])),
  (30, (("_can_make" : Str), [("body" : Str)])),
  (31, (("_can_hold" : Str), [("kind" : Str), ("content" : Str)])),
  (32, (("_can_write" : Str), [("word" : Str), ("content" : Str)])),
  (33, (("_is_key" : Str), [("value" : Str)])),
  (34, (("_is_value" : Str), [("value" : Str)])),
  (35, (("_is_binder" : Str), [("value" : Str)])),
  (36, (("_is_seen" : Str), [("value" : Str), ("time" : Str)])),
  (37, (("_named_things" : Str), [("body" : Str)])),
  (41, (("check_book" : Str), [("book" : Str)])),
  (42, (("check_stamp" : Str), [("book" : Str), ("stamp" : Str)])),
  (43, (("are_closed" : Str), [("deeds" : Str), ("times" : Str)])),
  (44, (("_check_single" : Str), [("deeds" : Str)])),
  (45, (("_closed_times" : Str), [("table" : Str)])),
  (47, (("is_branch" : Str), [("book" : Str), ("value" : Str)])),
  (48, (("check_branch" : Str), [("book" : Str), ("branch" : Str)])),
  (49, (("all_of" : Str), [("book" : Str)])),
  (50, (("closure_of" : Str), [("book" : Str), ("stamp" : Str)])),
  (51, (("joined_branch" : Str), [("book" : Str), ("one" : Str), ("other" : Str)])),
  (52, (("part_of" : Str), [("book" : Str), ("branch" : Str)])),
  (53, (("news_of" : Str), [("book" : Str), ("branch" : Str), ("other" : Str)])),
  (54, (("lacks_of" : Str), [("book" : Str), ("branch" : Str), ("stamp" : Str)])),
  (55, (("has_stamp" : Str), [("branch" : Str), ("stamp" : Str)])),
  (56, (("_taken" : Str), [("book" : Str), ("branch" : Str)])),
  (57, (("_closure" : Str), [("deed" : Str)])),
  (58, (("_joined" : Str), [("one" : Str), ("other" : Str)])),
  (60, (("_law_pool" : Str), [("_law_script" : Str), ("_law_k" : Str)])),
  (61, (("_law_take" : Str), [("_law_source" : Str), ("_law_top" : Str)])),
  (62, (("_law_one" : Str), [("_law_source" : Str), ("_law_things" : Str)])),
  (63, (("_law_turned" : Str), [("_law_source" : Str), ("_law_things" : Str)])),
  (64, (("_law_rounds" : Str), [("_law_script" : Str)])),
  (65, (("_law_world" : Str), [("_law_many" : Str)])),
  (66, (("_law_seen_deeds" : Str), [("_law_world_here" : Str), ("_law_hand" : Str)])),
  (67, (("_law_learn" : Str), [("_law_source" : Str), ("_law_world_here" : Str), ("_law_hand" : Str)])),
  (68, (("_law_content" : Str), [("_law_source" : Str), ("_law_kind" : Str), ("_law_some" : Str)])),
  (69, (("_law_holders" : Str), [("_law_some" : Str)])),
  (70, (("_law_made_body" : Str), [("_law_source" : Str), ("_law_some" : Str)])),
  (71, (("_law_body" : Str), [("_law_source" : Str), ("_law_some" : Str)])),
  (72, (("_law_do" : Str), [("_law_source" : Str), ("_law_world_here" : Str), ("_law_hand" : Str), ("_law_body_here" : Str)])),
  (73, (("_law_step" : Str), [("_law_source" : Str), ("_law_world_here" : Str)])),
  (74, (("_law_drawn" : Str), [("_law_source" : Str), ("_law_most" : Str), ("_law_many" : Str)])),
  (75, (("_law_stamps" : Str), [("_law_some" : Str)])),
  (76, (("_law_branches" : Str), [("_law_source" : Str), ("_law_deeds" : Str)])),
  (77, (("_law_in" : Str), [("_law_deed" : Str), ("_law_branch" : Str)])),
  (78, (("_law_can" : Str), [("_law_book" : Str), ("_law_deed" : Str)])),
  (79, (("_law_news_right" : Str), [("_law_book" : Str), ("_law_deeds" : Str), ("_law_one_here" : Str), ("_law_other" : Str)])),
  (80, (("_law_lack_right" : Str), [("_law_book" : Str), ("_law_deeds" : Str), ("_law_branch" : Str), ("_law_deed" : Str)])),
  (81, (("_law_refused" : Str), [("_law_call" : Str)])),
  (82, (("_law_refuses" : Str), [("_law_source" : Str), ("_law_book" : Str), ("_law_branch" : Str)])),
  (83, (("law" : Str), [("_law_script" : Str)]))]

/-- all that the top has written -/
structure All (K : PySem.W.Frag) (mg : Str → Option Value) : Prop where
  dn : ∀ i x ps, tabL.lookup i = some (x, ps) → ∃ g fd, Dn K mg x ps (top i) g fd
  bi : Bi mg
  cn : Cn K mg
/-- a def that keeps a promise, called by its name -/
def Cl (P : Program) (w : World) (K : PySem.W.Frag) (mg : Str → Option Value) (base : Heap) (k : Nat) (x : Str) (ps : List Str) (sp : Sp) : Prop :=
  ∃ g fd, FnOk P w K mg base CX0 k g fd ps sp ∧ mg x = some (.ref g) ∧ PySem.W.keepIn K (.ref g) = true ∧ Binds K fd ps []
theorem Dn.cl {P : Program} {w : World} {K : PySem.W.Frag} {mg : Str → Option Value} {base : Heap} {k : Nat} {x : Str} {ps : List Str} {st : Stmt} {g : Addr} {fd : FuncData} {sp : Sp} (D : Dn K mg x ps st g fd) (F : FnOk P w K mg base CX0 k g fd ps sp) : Cl P w K mg base k x ps sp :=
  ⟨g, fd, F, D.mg, D.fn.kp, D.bn⟩
theorem pe_cl {X : Cx} {k m : Nat} {x : Str} {ps : List Str} {sp : Sp} {e : Expr} {es : List Expr} {t : TA} {p pos : Pos} (C : Cl X.prog X.w X.K X.mg X.base k x ps sp) (hr : Room m X.A) (hk : k ≤ m) (ha : PA X (e :: es) t) (hg : Gl X x := by rfl) (hdb : (x == ("__debug__" : Str)) = false := by decide)
    (he : starEach (e :: es) X.env = (false, eval e X.env) :: starEach es X.env := by rfl) (hpl : (backTo pos (starEach es X.env)).any (·.1) = false := by rfl) : PE X (.Call (.Name x p) (e :: es) [] pos) (tCall sp [] E0 t) := by
  obtain ⟨g, fd, F, hm, hk', hb⟩ := C
  exact pe_call F (hr.mono hk) hg hm hk' hb .nil pass0 ha hdb he hpl
section
variable {P : Program} {w : World} {K : PySem.W.Frag} {mg : Str → Option Value} {base : Heap}
theorem cl_number (T : All K mg) : Cl P w K mg base 1 "is_number" ["value"] (spD K numD) := by
  obtain ⟨g, fd, D⟩ := T.dn 2 _ _ rfl
  exact D.cl (ok_number D.fn T.bi)
theorem cl_from (T : All K mg) : Cl P w K mg base 2 "is_from" ["value", "least", "most"] (spFrom K) := by
  obtain ⟨g, fd, D⟩ := T.dn 3 _ _ rfl
  obtain ⟨g1, fd1, D1⟩ := T.dn 2 _ _ rfl
  exact D.cl (ok_from D.fn T.bi D1)
theorem cl_tupleof (T : All K mg) : Cl P w K mg base 1 "is_tuple_of" ["value", "many"] (spTup K) := by
  obtain ⟨g, fd, D⟩ := T.dn 4 _ _ rfl
  exact D.cl (ok_tupleof D.fn T.bi)
theorem cl_name (T : All K mg) : Cl P w K mg base 1 "is_name" ["value"] (spD K nameD) := by
  obtain ⟨g, fd, D⟩ := T.dn 22 _ _ rfl
  exact D.cl (ok_name D.fn T.bi T.cn)
/-- the words of a question by is_from of one value, with written bounds -/
theorem sc_key : FnScope ["value"] ["value"] (defScope s_is_key) := ⟨rfl, rfl, rfl, by decide +kernel, rfl, by decide +kernel, by decide +kernel⟩
theorem cl_key (T : All K mg) : Cl P w K mg base 3 "_is_key" ["value"] (spD K (fromD 0 999)) := by
  obtain ⟨g, fd, D⟩ := T.dn 33 _ _ rfl
  refine D.cl (D.fn.ok sc_key (fun vs H Q E h => ?_) (fun cdv A outer s H vs Q E hr h => ?_))
  · obtain ⟨v, d, rfl, _⟩ := h
    rfl
  · obtain ⟨v, d, rfl, hd, k⟩ := h
    exact ⟨_, pss_one (ps_ret (pe_cl (cl_from T) hr (by decide) (pa_cons (pv 0) (pa_cons pe_int (pa_cons pe_int pa_nil))))), _, rfl, v, d, _, _, rfl, hd, k⟩
theorem sc_value : FnScope ["value"] ["value"] (defScope s_is_value) := ⟨rfl, rfl, rfl, by decide +kernel, rfl, by decide +kernel, by decide +kernel⟩
theorem cl_value (T : All K mg) : Cl P w K mg base 3 "_is_value" ["value"] (spD K (fromD 0 99)) := by
  obtain ⟨g, fd, D⟩ := T.dn 34 _ _ rfl
  refine D.cl (D.fn.ok sc_value (fun vs H Q E h => ?_) (fun cdv A outer s H vs Q E hr h => ?_))
  · obtain ⟨v, d, rfl, _⟩ := h
    rfl
  · obtain ⟨v, d, rfl, hd, k⟩ := h
    exact ⟨_, pss_one (ps_ret (pe_cl (cl_from T) hr (by decide) (pa_cons (pv 0) (pa_cons pe_int (pa_cons pe_int pa_nil))))), _, rfl, v, d, _, _, rfl, hd, k⟩
theorem tup2 {d : PyData} (h : tupD 2 d = true) : ∃ a b, d = .tuple [a, b] := by
  cases d with
  | tuple ds =>
    have hl := of_decide_eq_true h
    match ds, hl with
    | [a, b], _ => exact ⟨a, b, rfl⟩
  | _ => cases h
theorem stamp_of {a b : PyData} : stampD (.tuple [a, b]) = (fromD 1 999 a && fromD 0 3 b) := rfl
theorem not_stamp {d : PyData} (h : tupD 2 d = false) : stampD d = false ∧ rootD d = false := by
  cases d with
  | tuple ds =>
    match ds with
    | [a, b] => cases h
    | [] => exact ⟨rfl, rfl⟩
    | [_] => exact ⟨rfl, rfl⟩
    | _ :: _ :: _ :: _ => exact ⟨rfl, rfl⟩
  | _ => exact ⟨rfl, rfl⟩
theorem sc_stamp : FnScope ["value"] ["value"] (defScope s_is_stamp) := ⟨rfl, rfl, rfl, by decide +kernel, rfl, by decide +kernel, by decide +kernel⟩
theorem cl_stamp (T : All K mg) : Cl P w K mg base 3 "is_stamp" ["value"] (spD K stampD) := by
  obtain ⟨g, fd, D⟩ := T.dn 23 _ _ rfl
  refine D.cl (D.fn.ok sc_stamp (fun vs H Q E h => ?_) (fun cdv A outer s H vs Q E hr h => ?_))
  · obtain ⟨v, d, rfl, _⟩ := h
    rfl
  · obtain ⟨v, d, rfl, hd, k⟩ := h
    obtain ⟨tM, hM⟩ := T.cn.mt
    refine ⟨_, pss_one (ps_ret (pe_and (pe_cl (cl_tupleof T) hr (by decide) (pa_cons (pv 0) (pa_cons pe_int pa_nil))) (pe_and (pe_cl (cl_from T) hr (by decide) (pa_cons (pe_ix ix_tup (pv 0) pe_int (fun _ _ => rfl)) (pa_cons pe_int (pa_cons (pe_glob (v := .int 999) rfl hM ⟨_, rfl⟩) pa_nil))))
      (pe_one (pe_cl (cl_from T) hr (by decide) (pa_cons (pe_ix ix_tup (pv 0) pe_int (fun _ _ => rfl)) (pa_cons pe_int (pa_cons pe_int pa_nil)))))))), ?_⟩
    refine ⟨_, rfl, v, d, 2, rfl, hd, fun H1 S1 => ⟨_, rfl, ?_⟩⟩
    cases e : tupD 2 d with
    | false =>
      have k' := k H1 S1
      rw [(not_stamp e).1] at k'
      exact iteF k'
    | true =>
      obtain ⟨a, b, rfl⟩ := tup2 e
      have hd1 := hd.to S1
      obtain ⟨p, xs, u0, rfl, ht, i0, q0⟩ := hd1.item (i := 0) rfl
      refine iteT ⟨_, rfl, p, xs, _, u0, rfl, rfl, ht, i0, u0, a, _, _, rfl, q0, fun H2 S2 => ⟨_, rfl, ?_⟩⟩
      have k' := k _ (S1.trans S2)
      rw [stamp_of] at k'
      cases e1 : fromD 1 999 a with
      | false =>
        rw [e1, Bool.false_and] at k'
        exact iteF k'
      | true =>

        obtain ⟨p', xs', u1, e', ht', i1, q1⟩ := (hd1.to S2).item (i := 1) rfl
        cases e'
        refine iteT ⟨_, rfl, p, xs', _, u1, rfl, rfl, ht', i1, u1, b, _, _, rfl, q1, fun H3 S3 => ?_⟩
        have k' := k _ ((S1.trans S2).trans S3)
        rw [stamp_of, e1, Bool.true_and] at k'
        exact k'
end
end K1
namespace K1
open PySem L2
section
variable {P : Program} {w : World} {K : PySem.W.Frag} {mg : Str → Option Value} {base : Heap}
theorem root_of {a b : PyData} : rootD (.tuple [a, b]) = (fromD 0 0 a && fromD 0 0 b) := rfl
theorem sc_thing : FnScope ["value"] ["value"] (defScope (top 24)) := ⟨rfl, rfl, rfl, by decide +kernel, rfl, by decide +kernel, by decide +kernel⟩
theorem cl_thing (T : All K mg) : Cl P w K mg base 4 "is_thing" ["value"] (spD K thingD) := by
  obtain ⟨g, fd, D⟩ := T.dn 24 _ _ rfl
  refine D.cl (D.fn.ok sc_thing (fun vs H Q E h => ?_) (fun cdv A outer s H vs Q E hr h => ?_))
  · obtain ⟨v, d, rfl, _⟩ := h
    rfl
  · obtain ⟨v, d, rfl, hd, k⟩ := h
    refine ⟨_, pss_one (ps_ret (pe_or (pe_cl (cl_stamp T) hr (by decide) (pa_cons (pv 0) pa_nil)) (pe_one (pe_and (pe_cl (cl_tupleof T) hr (by decide) (pa_cons (pv 0) (pa_cons pe_int pa_nil)))
      (pe_and (pe_cl (cl_from T) hr (by decide) (pa_cons (pe_ix ix_tup (pv 0) pe_int (fun _ _ => rfl)) (pa_cons pe_int (pa_cons pe_int pa_nil))))
        (pe_one (pe_cl (cl_from T) hr (by decide) (pa_cons (pe_ix ix_tup (pv 0) pe_int (fun _ _ => rfl)) (pa_cons pe_int (pa_cons pe_int pa_nil)))))))))), ?_⟩
    refine ⟨_, rfl, v, d, rfl, hd, fun H0 S0 => ⟨_, rfl, ?_⟩⟩
    cases es : stampD d with
    | true =>
      have k' := k H0 S0
      unfold thingD at k'
      rw [es] at k'
      exact iteT k'
    | false =>
      refine iteF ⟨_, rfl, v, d, 2, rfl, hd.to S0, fun H1 S1 => ⟨_, rfl, ?_⟩⟩
      cases e : tupD 2 d with
      | false =>
        have k' := k H1 (S0.trans S1)
        unfold thingD at k'
        rw [(not_stamp e).1, (not_stamp e).2] at k'
        exact iteF k'
      | true =>
        obtain ⟨a, b, rfl⟩ := tup2 e
        have hd1 := (hd.to S0).to S1
        obtain ⟨p, xs, u0, rfl, ht, i0, q0⟩ := hd1.item (i := 0) rfl
        refine iteT ⟨_, rfl, p, xs, _, u0, rfl, rfl, ht, i0, u0, a, _, _, rfl, q0, fun H2 S2 => ⟨_, rfl, ?_⟩⟩
        have k' := k _ ((S0.trans S1).trans S2)
        unfold thingD at k'
        rw [es, Bool.false_or, root_of] at k'
        cases e1 : fromD 0 0 a with
        | false =>
          rw [e1, Bool.false_and] at k'
          exact iteF k'
        | true =>
          obtain ⟨p', xs', u1, e', ht', i1, q1⟩ := (hd1.to S2).item (i := 1) rfl
          cases e'
          refine iteT ⟨_, rfl, p, xs', _, u1, rfl, rfl, ht', i1, u1, b, _, _, rfl, q1, fun H3 S3 => ?_⟩
          have k' := k _ (((S0.trans S1).trans S2).trans S3)
          unfold thingD at k'
          rw [es, Bool.false_or, root_of, e1, Bool.true_and] at k'
          exact k'
theorem DQ.dec_none {H : Hp} {v : V} {d : PyData} (h : DQ K H v d) : decide (v = V.non) = noneD d := by
  cases h with
  | non => rfl
  | _ => exact decide_eq_false fun z => nomatch z
theorem sc_binder : FnScope ["value"] ["value"] (defScope (top 35)) := ⟨rfl, rfl, rfl, by decide +kernel, rfl, by decide +kernel, by decide +kernel⟩
theorem binder_none {d : PyData} (h : noneD d = true) : binderD d = true := by
  cases d with
  | none => rfl
  | _ => cases h
theorem binder_some {d : PyData} (h : noneD d = false) : binderD d = thingD d := by
  cases d with
  | none => cases h
  | _ => rfl
theorem cl_binder (T : All K mg) : Cl P w K mg base 5 "_is_binder" ["value"] (spD K binderD) := by
  obtain ⟨g, fd, D⟩ := T.dn 35 _ _ rfl
  refine D.cl (D.fn.ok sc_binder (fun vs H Q E h => ?_) (fun cdv A outer s H vs Q E hr h => ?_))
  · obtain ⟨v, d, rfl, _⟩ := h
    rfl
  · obtain ⟨v, d, rfl, hd, k⟩ := h
    refine ⟨_, pss_one (ps_ret (pe_or (pe_cmpR op_isN (pv 0) pe_non (nomark _)) (pe_one (pe_cl (cl_thing T) hr (by decide) (pa_cons (pv 0) pa_nil))))), ?_⟩
    refine ⟨_, rfl, rfl, _, rfl, ?_⟩
    rw [hd.dec_none]
    cases e : noneD d with
    | true =>
      have k' := k H (Same.refl H)
      rw [binder_none e] at k'
      exact iteT k'
    | false =>
      rw [binder_some e] at k
      exact iteF ⟨_, rfl, v, d, rfl, hd, k⟩
theorem in_holders (x : Str) : inV (.str x) [.str "block", .str "let", .str "sum", .str "product"] = (x == "block" || x == "let" || x == "sum" || x == "product") := by
  have c : ∀ y : Str, eqV (.str y) (.str x) = (x == y) := fun y => by
    show (y == x) = (x == y)
    rw [Bool.eq_iff_iff, beq_iff_eq, beq_iff_eq]
    exact ⟨Eq.symm, Eq.symm⟩
  unfold inV
  rw [List.any_cons, List.any_cons, List.any_cons, List.any_cons, List.any_nil, c, c, c, c, Bool.or_false, Bool.or_assoc, Bool.or_assoc]
theorem dec_str {x y : Str} : decide (V.str x = V.str y) = decide (x = y) := by
  by_cases h : x = y
  · rw [h, decide_eq_true rfl, decide_eq_true rfl]
  · rw [decide_eq_false h, decide_eq_false fun z => h (V.str.inj z)]
def spD2 (K : PySem.W.Frag) (f : PyData → PyData → Bool) : Sp := fun vs H Q _ => ∃ v u d e, vs = [v, u] ∧ DQ K H v d ∧ DQ K H u e ∧ ∀ H', Same H H' → Q (.bl (f d e)) H'
theorem sc_canhold : FnScope ["kind", "content"] ["kind", "content"] (defScope (top 31)) := ⟨rfl, rfl, rfl, by decide +kernel, rfl, by decide +kernel, by decide +kernel⟩
theorem cl_canhold (T : All K mg) : Cl P w K mg base 6 "_can_hold" ["kind", "content"] (spD2 K contentD) := by
  obtain ⟨g, fd, D⟩ := T.dn 31 _ _ rfl
  refine D.cl (D.fn.ok sc_canhold (fun vs H Q E h => ?_) (fun cdv A outer s H vs Q E hr h => ?_))
  · obtain ⟨v, u, d, e, rfl, _⟩ := h
    rfl
  · obtain ⟨v, u, d, e, rfl, hd, he, k⟩ := h
    obtain ⟨aH, mH, tH⟩ := T.cn.hol
    refine ⟨_, pss_cons (ps_if (pt_not (pt_val (pe_callB call_isiD (by rfl) T.bi.isi (by decide +kernel) (pa_cons (pv 0) (pa_cons (pe_bltn (v := .ty "str") (by rfl) T.bi.str (by decide +kernel) rfl) pa_nil))))) (pss_one (ps_ret pe_bl)) pss_nil)
      (pss_cons (ps_if (pt_cmpR op_eq (pv 0) pe_str (nomark _)) (pss_one (ps_ret (pe_cl (cl_name T) hr (by decide) (pa_cons (pv 1) pa_nil)))) pss_nil)
      (pss_cons (ps_if (pt_cmpR op_eq (pv 0) pe_str (nomark _)) (pss_one (ps_ret (pe_cl (cl_binder T) hr (by decide) (pa_cons (pv 1) pa_nil)))) pss_nil)
      (pss_cons (ps_if (pt_cmpR op_eq (pv 0) pe_str (nomark _)) (pss_one (ps_ret (pe_cl (cl_value T) hr (by decide) (pa_cons (pv 1) pa_nil)))) pss_nil)
      (pss_one (ps_ret (pe_and (pe_cmpR op_in_seq (pv 0) (pe_glob (v := .ref aH) rfl mH rfl) rfl) (pe_one (pe_cmpR op_isN (pv 1) pe_non (nomark _))))))))), ?_⟩
    refine ⟨_, rfl, v, d, _, _, rfl, hd, kit_str d, _, rfl, ?_⟩
    cases hd with
    | str x hx =>
      have ec : contentD (.str x) e = if x = "let" then nameD e else if x = "use" then binderD e else if x = "number" then fromD 0 99 e else holdsD (.str x) && noneD e := rfl
      rw [ec] at k
      refine iteF ⟨_, rfl, rfl, _, rfl, ?_⟩
      rw [dec_str]
      by_cases c1 : x = "let"
      · rw [if_pos c1] at k
        rw [decide_eq_true c1]
        exact iteT ⟨_, rfl, u, e, rfl, he, k⟩
      · rw [if_neg c1] at k
        rw [decide_eq_false c1]
        refine iteF ⟨_, rfl, rfl, _, rfl, ?_⟩
        rw [dec_str]
        by_cases c2 : x = "use"
        · rw [if_pos c2] at k
          rw [decide_eq_true c2]
          exact iteT ⟨_, rfl, u, e, rfl, he, k⟩
        · rw [if_neg c2] at k
          rw [decide_eq_false c2]
          refine iteF ⟨_, rfl, rfl, _, rfl, ?_⟩
          rw [dec_str]
          by_cases c3 : x = "number"
          · rw [if_pos c3] at k
            rw [decide_eq_true c3]
            exact iteT ⟨_, rfl, u, e, rfl, he, k⟩
          · rw [if_neg c3] at k
            rw [decide_eq_false c3]
            refine iteF ⟨_, rfl, aH, _, rfl, .inr (tH H), rfl, rfl, _, rfl, ?_⟩
            have k' := k H (Same.refl H)
            show if inV (.str x) _ = true then _ else _
            rw [in_holders]
            have eh : holdsD (.str x) = (x == "block" || x == "let" || x == "sum" || x == "product") := rfl
            rw [← eh]
            cases hb : holdsD (.str x) with
            | true =>
              rw [hb, Bool.true_and] at k'
              refine iteT ⟨_, rfl, rfl, ?_⟩
              rw [he.dec_none]
              exact k'
            | false =>
              rw [hb, Bool.false_and] at k'
              exact iteF k'
    | _ => exact iteT (k H (Same.refl H))
end
end K1
namespace K1
open PySem L2
section
variable {P : Program} {w : World} {K : PySem.W.Frag} {mg : Str → Option Value} {base : Heap}
def spW (K : PySem.W.Frag) : Sp := fun vs H Q _ => ∃ x u e, vs = [.str x, u] ∧ DQ K H u e ∧ ∀ H', Same H H' → Q (.bl (writeD (.str x) e)) H'
theorem sc_canwrite : FnScope ["word", "content"] ["word", "content"] (defScope (top 32)) := ⟨rfl, rfl, rfl, by decide +kernel, rfl, by decide +kernel, by decide +kernel⟩
theorem cl_canwrite (T : All K mg) : Cl P w K mg base 6 "_can_write" ["word", "content"] (spW K) := by
  obtain ⟨g, fd, D⟩ := T.dn 32 _ _ rfl
  refine D.cl (D.fn.ok sc_canwrite (fun vs H Q E h => ?_) (fun cdv A outer s H vs Q E hr h => ?_))
  · obtain ⟨x, u, e, rfl, _⟩ := h
    rfl
  · obtain ⟨x, u, e, rfl, he, k⟩ := h
    refine ⟨_, pss_cons (ps_if (pt_cmpR op_eq (pv 0) pe_str (nomark _)) (pss_one (ps_ret (pe_cl (cl_name T) hr (by decide) (pa_cons (pv 1) pa_nil)))) pss_nil)
      (pss_cons (ps_if (pt_cmpR op_eq (pv 0) pe_str (nomark _)) (pss_one (ps_ret (pe_cl (cl_binder T) hr (by decide) (pa_cons (pv 1) pa_nil)))) pss_nil)
      (pss_one (ps_ret (pe_and (pe_cmpR op_eq (pv 0) pe_str (nomark _)) (pe_one (pe_cl (cl_value T) hr (by decide) (pa_cons (pv 1) pa_nil))))))), ?_⟩
    have ec : writeD (.str x) e = if x = "wish" then nameD e else if x = "point" then binderD e else decide (x = "set") && fromD 0 99 e := rfl
    rw [ec] at k
    refine ⟨_, rfl, rfl, _, rfl, ?_⟩
    rw [dec_str]
    by_cases c1 : x = "wish"
    · rw [if_pos c1] at k
      rw [decide_eq_true c1]
      exact iteT ⟨_, rfl, u, e, rfl, he, k⟩
    · rw [if_neg c1] at k
      rw [decide_eq_false c1]
      refine iteF ⟨_, rfl, rfl, _, rfl, ?_⟩
      rw [dec_str]
      by_cases c2 : x = "point"
      · rw [if_pos c2] at k
        rw [decide_eq_true c2]
        exact iteT ⟨_, rfl, u, e, rfl, he, k⟩
      · rw [if_neg c2] at k
        rw [decide_eq_false c2]
        refine iteF ⟨_, rfl, rfl, _, rfl, ?_⟩
        rw [dec_str]
        by_cases c3 : x = "set"
        · rw [decide_eq_true c3] at k ⊢
          rw [Bool.true_and] at k
          exact iteT ⟨_, rfl, u, e, rfl, he, k⟩
        · rw [decide_eq_false c3] at k ⊢
          rw [Bool.false_and] at k
          exact iteF (k H (Same.refl H))
/-- an index of a tuple of data -/
theorem ix_ask {H : Hp} {v : V} {ds : List PyData} {i : Nat} {d : PyData} {Q : VK} (h : DQ K H v (.tuple ds)) (hi : ds[i]? = some d) (k : ∀ u, DQ K H u d → Q u H) : ∃ a xs, ∃ m : Int, ∃ u, v = .ref a ∧ V.int (i : Int) = .int m ∧ SqT K H a xs ∧ atI xs m = some u ∧ Q u H := by
  obtain ⟨a, xs, u, e, ht, ha, q⟩ := h.item hi
  exact ⟨a, xs, _, u, e, rfl, ht, ha, k u q⟩
def spMake (K : PySem.W.Frag) : Sp := fun vs H Q _ => ∃ v r, vs = [v] ∧ DQ K H v (.tuple (.str "make" :: r)) ∧ r.length = 4 ∧ ∀ H', Same H H' → Q (.bl (makeR r)) H'
theorem list4 {α : Type} {r : List α} (h : r.length = 4) : ∃ a b c d, r = [a, b, c, d] := by
  match r, h with
  | [a, b, c, d], _ => exact ⟨a, b, c, d, rfl⟩
theorem sc_canmake : FnScope ["body"] ["body"] (defScope (top 30)) := ⟨rfl, rfl, rfl, by decide +kernel, rfl, by decide +kernel, by decide +kernel⟩
theorem cl_canmake (T : All K mg) : Cl P w K mg base 7 "_can_make" ["body"] (spMake K) := by
  obtain ⟨g, fd, D⟩ := T.dn 30 _ _ rfl
  refine D.cl (D.fn.ok sc_canmake (fun vs H Q E h => ?_) (fun cdv A outer s H vs Q E hr h => ?_))
  · obtain ⟨v, r, rfl, _⟩ := h
    rfl
  · obtain ⟨v, r, rfl, hd, hl, k⟩ := h
    obtain ⟨kd, u, y, c, rfl⟩ := list4 hl
    refine ⟨_, pss_one (ps_ret (pe_and (pe_cl (cl_thing T) hr (by decide) (pa_cons (pe_ix ix_tup (pv 0) pe_int (fun _ _ => rfl)) pa_nil)) (pe_and (pe_cl (cl_key T) hr (by decide) (pa_cons (pe_ix ix_tup (pv 0) pe_int (fun _ _ => rfl)) pa_nil))
      (pe_one (pe_cl (cl_canhold T) hr (by decide) (pa_cons (pe_ix ix_tup (pv 0) pe_int (fun _ _ => rfl)) (pa_cons (pe_ix ix_tup (pv 0) pe_int (fun _ _ => rfl)) pa_nil))))))), ?_⟩
    have ek : makeR [kd, u, y, c] = (thingD u && (fromD 0 999 y && contentD kd c)) := rfl
    rw [ek] at k
    refine ⟨_, rfl, ix_ask (i := 2) hd rfl fun u' hu => ⟨u', u, rfl, hu, fun H1 S1 => ⟨_, rfl, ?_⟩⟩⟩
    refine ite2 (fun e1 => ?_) (fun e1 => ?_)
    · rw [e1, Bool.true_and] at k
      refine ⟨_, rfl, ix_ask (i := 3) (hd.to S1) rfl fun y' hy => ⟨y', y, rfl, hy, fun H2 S2 => ⟨_, rfl, ?_⟩⟩⟩
      have S := S1.trans S2
      refine ite2 (fun e2 => ?_) (fun e2 => ?_)
      · rw [e2, Bool.true_and] at k
        obtain ⟨p, xs, k', rfl, ht, i1, hk⟩ := (hd.to S).item (i := 1) rfl
        obtain ⟨p', xs', c', e', ht', i4, hc⟩ := (hd.to S).item (i := 4) rfl
        cases e'
        exact ⟨_, rfl, p, xs, _, k', rfl, rfl, ht, i1, _, rfl, p, xs', _, c', rfl, rfl, ht', i4, k', c', kd, c, rfl, hk, hc, fun H3 S3 => k H3 (S.trans S3)⟩
      · have k' := k H2 S
        rw [Bool.eq_false_iff.mpr e2, Bool.false_and] at k'
        exact k'
    · have k' := k H1 S1
      rw [Bool.eq_false_iff.mpr e1, Bool.false_and] at k'
      exact k'
end
end K1
namespace K1
open PySem L2
/-- a comprehension over a tuple that stands still -/
theorem lc_funT {K : PySem.W.Frag} {a : Addr} {xs : List V} {te : TE} {j : Nat} {σ : St} {H1 : Hp} {D : Addr} {Qd : Hp → Prop} (f : Nat → V) (nD : H1 D = none) (ha : SqT K H1 a xs) (hz : xs.length ≤ 1000) (hw : ∀ x, wipe ((wipe σ [j]).set j (some x)) [j] = wipe σ [j])
    (he : ∀ i x H' Q, xs[i]? = some x → Same H1 H' → (∀ H'', Same H' H'' → Q (f i) H'') → te ((wipe σ [j]).set j (some x)) H' Q) (hd : ∀ H', Same H1 H' → H' D = some (.lst ((List.range xs.length).map f)) → Qd H') :
    ∃ W : Nat → Nat → Hp → Prop, (∃ m, W 0 m (upd H1 D (.lst []))) ∧ ∀ i m H, W i m H →
      ((Itt K a).stop i H ∧ Qd H) ∨ ((Itt K a).go i H ∧ ∃ Nx : Hp → Prop, (∀ H', Nx H' → ∃ m', m' < m ∧ W (i + 1) m' H') ∧ ∀ x H', (Itt K a).yld i H x H' → (gName j) x (wipe σ [j]) H' fun σ2 H2 => wipe σ2 [j] = wipe σ [j] ∧ tYes σ2 H2 fun b H3 =>
        if b = true then te σ2 H3 fun y H4 => ∃ acc, H4 D = some (.lst acc) ∧ acc.length < sizeLine ∧ Nx (upd H4 D (.lst (acc ++ [y]))) else Nx H3) := by
  refine lc_tup (K := K) (a := a) (xs := xs) (fun i H' => i ≤ xs.length ∧ Same H1 H' ∧ H' D = some (.lst ((List.range i).map f))) ⟨Nat.zero_le _, K0.same_upd nD, upd_same⟩ (fun i H' _ ⟨_, s, _⟩ => K0.seqT_same s ha) ?_ (fun H' ⟨_, s, h⟩ => hd H' s h)
  intro i x H' hi ⟨hle, s, h⟩
  have hlt := (List.getElem?_eq_some_iff.mp hi).1
  refine ⟨hw x, ?_⟩
  unfold tYes
  dsimp only
  rw [if_pos rfl]
  refine he i x H' _ hi s fun H'' s2 => ⟨_, s2 _ _ h, ?_, hlt, K0.same_over (s.trans s2) nD, ?_⟩
  · rw [List.length_map, List.length_range, sizeLine_eq]
    omega
  · rw [upd_same, List.range_succ, List.map_append]
    rfl
theorem DQs.at {K : PySem.W.Frag} {H : Hp} : ∀ {vs : List V} {ds : List PyData} {i : Nat} {v : V}, DQs K H vs ds → vs[i]? = some v → ∃ d, ds[i]? = some d ∧ DQ K H v d
  | _, _, i, d, .nil, h => by simp at h
  | _, _, 0, d, .cons r t, h => by
    simp at h
    subst h
    exact ⟨_, rfl, r⟩
  | _, _, i + 1, d, .cons r t, h => by
    obtain ⟨v, h1, h2⟩ := t.at (i := i) (by simpa using h)
    exact ⟨v, by simpa using h1, h2⟩
section
variable {P : Program} {w : World} {K : PySem.W.Frag} {mg : Str → Option Value} {base : Heap}
def spSeen (K : PySem.W.Frag) : Sp := fun vs H Q _ => ∃ v d, ∃ t : Int, vs = [v, .int t] ∧ DQ K H v d ∧ ∀ H', Same H H' → Q (.bl (seenD t d)) H'
theorem tupN {n : Nat} {d : PyData} (h : tupD n d = true) : ∃ ds, d = .tuple ds ∧ ds.length = n := by
  cases d with
  | tuple ds => exact ⟨ds, rfl, of_decide_eq_true h⟩
  | _ => cases h
theorem seen_not {t : Int} {d : PyData} (h : tupD 4 d = false) : seenD t d = false := by
  cases d with
  | tuple ds =>
    show (decide (ds.length = 4) && _) = false
    rw [show decide (ds.length = 4) = false from h, Bool.false_and]
  | _ => rfl
theorem sc_seen : FnScope ["value", "time", "entry"] ["value", "time"] (defScope (top 36)) := ⟨rfl, rfl, rfl, by decide +kernel, rfl, by decide +kernel, by decide +kernel⟩
theorem cl_seen (T : All K mg) : Cl P w K mg base 3 "_is_seen" ["value", "time"] (spSeen K) := by
  obtain ⟨g, fd, D⟩ := T.dn 36 _ _ rfl
  refine D.cl (D.fn.ok sc_seen (fun vs H Q E h => ?_) (fun cdv A outer s H vs Q E hr h => ?_))
  · obtain ⟨v, d, t, rfl, _⟩ := h
    rfl
  · obtain ⟨v, d, t, rfl, hd, k⟩ := h
    refine ⟨_, pss_one (ps_ret (pe_and (pe_cl (cl_tupleof T) hr (by decide) (pa_cons (pv 0) (pa_cons pe_int pa_nil)))
      (pe_one (pe_callB (cr_all rfl) (by rfl) T.bi.all (by decide +kernel) (pa_cons (pe_lc (own := [("entry", 2)]) (g := gName 2) (tt := tYes) rfl sc_seen.nd (pi_tup (pv 0)) (blkOk_by (own := [("entry", 2)]) (N := ["value", "time", "entry"]) (sc := defScope (top 36)) (by decide +kernel))
        (fun _ _ _ _ _ => pg_name (i := 2) sc_seen.nd rfl (Or.inl rfl)) (fun _ _ _ _ _ => pts_nil) (fun _ _ _ _ _ => pe_cl (cl_from T) hr (by decide) (pa_cons (pv 2) (pa_cons pe_int (pa_cons (pe_op op_sub (pv 1) pe_int) pa_nil))))) pa_nil))))), ?_⟩
    refine ⟨_, rfl, v, d, 4, rfl, hd, fun H1 S1 => ⟨_, rfl, ?_⟩⟩
    refine ite2 (fun e1 => ?_) (fun e1 => ?_)
    · obtain ⟨ds, rfl, hl⟩ := tupN e1
      cases hd.to S1 with
      | @tup a xs _ h1 h2 =>
        have ek : seenD t (.tuple ds) = (decide (ds.length = 4) && ds.all (fromD 0 (t - 1))) := rfl
        rw [ek, decide_eq_true hl, Bool.true_and] at k
        refine ⟨_, rfl, a, rfl, ⟨xs, h1⟩, fun Dd nD => ?_⟩
        refine lc_funT (j := 2) (fun i => .bl (ask (fromD 0 (t - 1)) ds[i]?)) nD h1 (by have := h2.len; omega) (fun _ => rfl) (fun i x H' Q' hx s' q => ?_) (fun H' s' hD => ?_)
        · obtain ⟨d', e, hd'⟩ := h2.at hx
          rw [e] at q
          exact ⟨_, rfl, _, rfl, t, 1, rfl, rfl, x, d', 0, t - 1, rfl, hd'.to s', q⟩
        · refine ⟨Dd, (List.range xs.length).map fun i => ask (fromD 0 (t - 1)) ds[i]?, rfl, SqL.of (hD.trans (by rw [List.map_map]; rfl)), ?_⟩
          have z := k H' (S1.trans s')
          rw [← all_range, ← h2.len] at z
          exact z
    · have k' := k H1 S1
      rw [seen_not (Bool.eq_false_iff.mpr e1)] at k'
      exact k'
end
end K1
namespace K1
open PySem L2
section
variable {P : Program} {w : World} {K : PySem.W.Frag} {mg : Str → Option Value} {base : Heap}
theorem list1 {α : Type} {r : List α} (h : r.length = 1) : ∃ a, r = [a] := by
  match r, h with
  | [a], _ => exact ⟨a, rfl⟩
theorem list2 {α : Type} {r : List α} (h : r.length = 2) : ∃ a b, r = [a, b] := by
  match r, h with
  | [a, b], _ => exact ⟨a, b, rfl⟩
theorem list3 {α : Type} {r : List α} (h : r.length = 3) : ∃ a b c, r = [a, b, c] := by
  match r, h with
  | [a, b, c], _ => exact ⟨a, b, c, rfl⟩
theorem makeR_ne {r : List PyData} (h : ¬ r.length = 4) : makeR r = false := by
  match r, h with
  | [_, _, _, _], h => exact absurd rfl h
  | [], _ => rfl
  | [_], _ => rfl
  | [_, _], _ => rfl
  | [_, _, _], _ => rfl
  | _ :: _ :: _ :: _ :: _ :: _, _ => rfl
theorem moveR_ne {r : List PyData} (h : ¬ r.length = 3) : moveR r = false := by
  match r, h with
  | [_, _, _], h => exact absurd rfl h
  | [], _ => rfl
  | [_], _ => rfl
  | [_, _], _ => rfl
  | _ :: _ :: _ :: _ :: _, _ => rfl
theorem dropR_ne {r : List PyData} (h : ¬ r.length = 1) : dropR r = false := by
  match r, h with
  | [_], h => exact absurd rfl h
  | [], _ => rfl
  | _ :: _ :: _, _ => rfl
theorem markR_ne {r : List PyData} (h : ¬ r.length = 1) : markR r = false := by
  match r, h with
  | [_], h => exact absurd rfl h
  | [], _ => rfl
  | _ :: _ :: _, _ => rfl
theorem writeR_ne {w : Str} {r : List PyData} (h : ¬ r.length = 2) : writeR w r = false := by
  match r, h with
  | [_, _], h => exact absurd rfl h
  | [], _ => rfl
  | [_], _ => rfl
  | _ :: _ :: _ :: _, _ => rfl
theorem len_is {n m : Nat} {i : Int} (hi : i = ((m + 1 : Nat) : Int)) : decide (V.int ((n + 1 : Nat) : Int) = V.int i) = decide (n = m) := by
  subst hi
  rw [dec_len]
  by_cases h : n = m
  · subst h
    rw [decide_eq_true rfl, decide_eq_true rfl]
  · rw [decide_eq_false h, decide_eq_false (by omega)]
theorem in_marks (x : Str) : inV (.str x) [.str "undo", .str "redo"] = decide (x = "undo" ∨ x = "redo") := by
  have c : ∀ y : Str, eqV (.str y) (.str x) = decide (x = y) := fun y => by
    show (y == x) = _
    rw [Bool.eq_iff_iff, beq_iff_eq, decide_eq_true_eq]
    exact ⟨Eq.symm, Eq.symm⟩
  unfold inV
  rw [List.any_cons, List.any_cons, List.any_nil, c, c, Bool.or_false, Bool.decide_or]
theorem sc_body : FnScope ["value", "word"] ["value"] (defScope (top 25)) := ⟨rfl, rfl, rfl, by decide +kernel, rfl, by decide +kernel, by decide +kernel⟩
theorem cl_body (T : All K mg) : Cl P w K mg base 8 "is_body" ["value"] (spD K bodyD) := by
  obtain ⟨g, fd, D⟩ := T.dn 25 _ _ rfl
  refine D.cl (D.fn.ok sc_body (fun vs H Q E h => ?_) (fun cdv A outer s H vs Q E hr h => ?_))
  · obtain ⟨v, d, rfl, _⟩ := h
    rfl
  · obtain ⟨v, d, rfl, hd, k⟩ := h
    obtain ⟨aM, mM, tM⟩ := T.cn.mar
    refine ⟨_, (pss_cons (ps_if (PW.pt (pw_or (pt_not (pt_val (pe_callB call_isiD (by rfl) T.bi.isi (by decide +kernel) (pa_cons (pv 0) (pa_cons (pe_bltn (v := .ty "tuple") (by rfl) T.bi.tuple (by decide +kernel) rfl) pa_nil))))) (pw_or (pt_not (pt_truth (pv 0) (by intro _; rfl))) (pw_or1 (pt_not (pt_val (pe_callB call_isiD (by rfl) T.bi.isi (by decide +kernel) (pa_cons (pe_ix ix_tup (pv 0) pe_int (fun _ _ => rfl)) (pa_cons (pe_bltn (v := .ty "str") (by rfl) T.bi.str (by decide +kernel) rfl) pa_nil))))))))) (pss_one (ps_ret pe_bl)) pss_nil)
      (pss_cons (ps_set (i := 1) sc_body.nd rfl (Or.inl rfl) (pe_ix ix_tup (pv 0) pe_int (fun _ _ => rfl)))
      (pss_cons (ps_if (pt_cmpR op_eq (pv 1) pe_str (nomark _)) (pss_one (ps_ret (pe_and (pe_cmpR op_eq (pe_callB call_len_seq (by rfl) T.bi.len PySem.boot_len (pa_cons (pv 0) pa_nil)) pe_int (nomark _)) (pe_one (pe_cl (cl_canmake T) hr (by decide) (pa_cons (pv 0) pa_nil)))))) pss_nil)
      (pss_cons (ps_if (pt_cmpR op_eq (pv 1) pe_str (nomark _)) (pss_one (ps_ret (pe_and (pe_cmpR op_eq (pe_callB call_len_seq (by rfl) T.bi.len PySem.boot_len (pa_cons (pv 0) pa_nil)) pe_int (nomark _)) (pe_and (pe_cl (cl_thing T) hr (by decide) (pa_cons (pe_ix ix_tup (pv 0) pe_int (fun _ _ => rfl)) pa_nil)) (pe_and (pe_cl (cl_thing T) hr (by decide) (pa_cons (pe_ix ix_tup (pv 0) pe_int (fun _ _ => rfl)) pa_nil)) (pe_one (pe_cl (cl_key T) hr (by decide) (pa_cons (pe_ix ix_tup (pv 0) pe_int (fun _ _ => rfl)) pa_nil)))))))) pss_nil)
      (pss_cons (ps_if (pt_cmpR op_eq (pv 1) pe_str (nomark _)) (pss_one (ps_ret (pe_and (pe_cmpR op_eq (pe_callB call_len_seq (by rfl) T.bi.len PySem.boot_len (pa_cons (pv 0) pa_nil)) pe_int (nomark _)) (pe_one (pe_cl (cl_thing T) hr (by decide) (pa_cons (pe_ix ix_tup (pv 0) pe_int (fun _ _ => rfl)) pa_nil)))))) pss_nil)
      (pss_cons (ps_if (pt_cmpR op_in_seq (pv 1) (pe_glob (v := .ref aM) rfl mM rfl) rfl) (pss_one (ps_ret (pe_and (pe_cmpR op_eq (pe_callB call_len_seq (by rfl) T.bi.len PySem.boot_len (pa_cons (pv 0) pa_nil)) pe_int (nomark _)) (pe_one (pe_cl (cl_stamp T) hr (by decide) (pa_cons (pe_ix ix_tup (pv 0) pe_int (fun _ _ => rfl)) pa_nil)))))) pss_nil)
      (pss_one (ps_ret (pe_and (pe_cmpR op_eq (pe_callB call_len_seq (by rfl) T.bi.len PySem.boot_len (pa_cons (pv 0) pa_nil)) pe_int (nomark _)) (pe_and (pe_cl (cl_thing T) hr (by decide) (pa_cons (pe_ix ix_tup (pv 0) pe_int (fun _ _ => rfl)) pa_nil)) (pe_one (pe_cl (cl_canwrite T) hr (by decide) (pa_cons (pv 1) (pa_cons (pe_ix ix_tup (pv 0) pe_int (fun _ _ => rfl)) pa_nil)))))))))))))), ?_⟩
    refine ⟨_, rfl, v, d, _, _, rfl, hd, kit_tup d, _, rfl, ?_⟩
    have k' := k H (Same.refl H)
    have hD := hd
    cases hd with
    | @tup a xs ds h1 h2 =>
      refine iteF ⟨_, rfl, !xs.isEmpty, .inr (.inl ⟨xs, h1, rfl⟩), ?_⟩
      cases h2 with
      | nil => exact iteT (iteT k')
      | @cons u0 us d0 r q0 qs =>
        have a0 : atI (u0 :: us) 0 = some u0 := atI_nat (j := 0) rfl
        have hl := qs.len
        refine iteF ⟨_, rfl, a, _, _, u0, rfl, rfl, h1, a0, u0, d0, _, _, rfl, q0, kit_str d0, _, rfl, ?_⟩
        cases q0 with
        | str x hx =>
          refine iteF ⟨_, rfl, a, _, _, V.str x, rfl, rfl, h1, a0, ?_⟩
          have ek : bodyD (.tuple (.str x :: r)) = bodyR x r := rfl
          rw [ek] at k
          unfold bodyR at k
          refine ⟨_, rfl, rfl, _, rfl, ?_⟩
          rw [dec_str]
          by_cases c1 : x = "make"
          · rw [if_pos c1] at k
            rw [decide_eq_true c1]
            refine iteT ⟨_, rfl, a, _, rfl, .inr h1, rfl, _, rfl, ?_⟩
            rw [List.length_cons, len_is (m := 4) (i := 5) rfl, hl]
            by_cases z : r.length = 4
            · rw [decide_eq_true z]
              subst c1
              exact iteT ⟨_, rfl, _, r, rfl, hD, z, k⟩
            · rw [makeR_ne z] at k
              rw [decide_eq_false z]
              exact iteF (k H (Same.refl H))
          · rw [if_neg c1] at k
            rw [decide_eq_false c1]
            refine iteF ⟨_, rfl, rfl, _, rfl, ?_⟩
            rw [dec_str]
            by_cases c2 : x = "move"
            · rw [if_pos c2] at k
              rw [decide_eq_true c2]
              refine iteT ⟨_, rfl, a, _, rfl, .inr h1, rfl, _, rfl, ?_⟩
              rw [List.length_cons, len_is (m := 3) (i := 4) rfl, hl]
              by_cases z : r.length = 3
              · rw [decide_eq_true z]
                obtain ⟨d1, d2, d3, rfl⟩ := list3 z
                have em : moveR [d1, d2, d3] = (thingD d1 && (thingD d2 && fromD 0 999 d3)) := rfl
                rw [em] at k
                obtain ⟨p, ys, u1, e, ht, i1, q1⟩ := hD.item (i := 1) rfl
                cases e
                refine iteT ⟨_, rfl, a, ys, _, u1, rfl, rfl, ht, i1, u1, d1, rfl, q1, fun H1 S1 => ⟨_, rfl, ?_⟩⟩
                refine ite2 (fun e1 => ?_) (fun e1 => ?_)
                · rw [e1, Bool.true_and] at k
                  obtain ⟨p, ys, u2, e, ht, i2, q2⟩ := (hD.to S1).item (i := 2) rfl
                  cases e
                  refine ⟨_, rfl, a, ys, _, u2, rfl, rfl, ht, i2, u2, d2, rfl, q2, fun H2 S2 => ⟨_, rfl, ?_⟩⟩
                  have S := S1.trans S2
                  refine ite2 (fun e2 => ?_) (fun e2 => ?_)
                  · rw [e2, Bool.true_and] at k
                    obtain ⟨p, ys, u3, e, ht, i3, q3⟩ := (hD.to S).item (i := 3) rfl
                    cases e
                    exact ⟨_, rfl, a, ys, _, u3, rfl, rfl, ht, i3, u3, d3, rfl, q3, fun H3 S3 => k H3 (S.trans S3)⟩
                  · have k' := k H2 S
                    rw [Bool.eq_false_iff.mpr e2, Bool.false_and] at k'
                    exact k'
                · have k' := k H1 S1
                  rw [Bool.eq_false_iff.mpr e1, Bool.false_and] at k'
                  exact k'
              · rw [moveR_ne z] at k
                rw [decide_eq_false z]
                exact iteF (k H (Same.refl H))
            · rw [if_neg c2] at k
              rw [decide_eq_false c2]
              refine iteF ⟨_, rfl, rfl, _, rfl, ?_⟩
              rw [dec_str]
              by_cases c3 : x = "drop"
              · rw [if_pos c3] at k
                rw [decide_eq_true c3]
                refine iteT ⟨_, rfl, a, _, rfl, .inr h1, rfl, _, rfl, ?_⟩
                rw [List.length_cons, len_is (m := 1) (i := 2) rfl, hl]
                by_cases z : r.length = 1
                · rw [decide_eq_true z]
                  obtain ⟨d1, rfl⟩ := list1 z
                  have em : dropR [d1] = thingD d1 := rfl
                  rw [em] at k
                  obtain ⟨p, ys, u1, e, ht, i1, q1⟩ := hD.item (i := 1) rfl
                  cases e
                  exact iteT ⟨_, rfl, a, ys, _, u1, rfl, rfl, ht, i1, u1, d1, rfl, q1, k⟩
                · rw [dropR_ne z] at k
                  rw [decide_eq_false z]
                  exact iteF (k H (Same.refl H))
              · rw [if_neg c3] at k
                rw [decide_eq_false c3]
                refine iteF ⟨_, rfl, aM, _, rfl, .inr (tM H), rfl, rfl, _, rfl, ?_⟩
                show if inV (.str x) _ = true then _ else _
                rw [in_marks]
                by_cases c4 : x = "undo" ∨ x = "redo"
                · rw [if_pos c4] at k
                  rw [decide_eq_true c4]
                  refine iteT ⟨_, rfl, a, _, rfl, .inr h1, rfl, _, rfl, ?_⟩
                  rw [List.length_cons, len_is (m := 1) (i := 2) rfl, hl]
                  by_cases z : r.length = 1
                  · rw [decide_eq_true z]
                    obtain ⟨d1, rfl⟩ := list1 z
                    have em : markR [d1] = stampD d1 := rfl
                    rw [em] at k
                    obtain ⟨p, ys, u1, e, ht, i1, q1⟩ := hD.item (i := 1) rfl
                    cases e
                    exact iteT ⟨_, rfl, a, ys, _, u1, rfl, rfl, ht, i1, u1, d1, rfl, q1, k⟩
                  · rw [markR_ne z] at k
                    rw [decide_eq_false z]
                    exact iteF (k H (Same.refl H))
                · rw [if_neg c4] at k
                  rw [decide_eq_false c4]
                  refine iteF ⟨_, rfl, a, _, rfl, .inr h1, rfl, _, rfl, ?_⟩
                  rw [List.length_cons, len_is (m := 2) (i := 3) rfl, hl]
                  by_cases z : r.length = 2
                  · rw [decide_eq_true z]
                    obtain ⟨d1, d2, rfl⟩ := list2 z
                    have em : writeR x [d1, d2] = (thingD d1 && writeD (.str x) d2) := rfl
                    rw [em] at k
                    obtain ⟨p, ys, u1, e, ht, i1, q1⟩ := hD.item (i := 1) rfl
                    cases e
                    refine iteT ⟨_, rfl, a, ys, _, u1, rfl, rfl, ht, i1, u1, d1, rfl, q1, fun H1 S1 => ⟨_, rfl, ?_⟩⟩
                    refine ite2 (fun e1 => ?_) (fun e1 => ?_)
                    · rw [e1, Bool.true_and] at k
                      obtain ⟨p, ys, u2, e, ht, i2, q2⟩ := (hD.to S1).item (i := 2) rfl
                      cases e
                      exact ⟨_, rfl, _, rfl, a, ys, _, u2, rfl, rfl, ht, i2, x, u2, d2, rfl, q2, fun H2 S2 => k H2 (S1.trans S2)⟩
                    · have k' := k H1 S1
                      rw [Bool.eq_false_iff.mpr e1, Bool.false_and] at k'
                      exact k'
                  · rw [writeR_ne z] at k
                    rw [decide_eq_false z]
                    exact iteF (k H (Same.refl H))
        | _ => exact iteT k'
    | _ =>
      refine iteT ?_
      refine iteT ?_
      exact k'
end
end K1
namespace K1
open PySem L2
theorem from_int {lo hi : Int} {d : PyData} (h : fromD lo hi d = true) : ∃ i, d = .int i ∧ lo ≤ i ∧ i ≤ hi := by
  cases d with
  | int i =>
    have z : (decide (lo ≤ i) && decide (i ≤ hi)) = true := h
    rw [Bool.and_eq_true, decide_eq_true_eq, decide_eq_true_eq] at z
    exact ⟨i, rfl, z.1, z.2⟩
  | _ => cases h
theorem stamp_int {d : PyData} (h : stampD d = true) : ∃ t j, d = .tuple [.int t, .int j] ∧ (1 ≤ t ∧ t ≤ 999) ∧ 0 ≤ j ∧ j ≤ 3 := by
  cases e : tupD 2 d with
  | false =>
    rw [(not_stamp e).1] at h
    cases h
  | true =>
    obtain ⟨a, b, rfl⟩ := tup2 e
    rw [stamp_of, Bool.and_eq_true] at h
    obtain ⟨t, rfl, h1⟩ := from_int h.1
    obtain ⟨j, rfl, h2⟩ := from_int h.2
    exact ⟨t, j, rfl, h1, h2⟩
theorem deed_not {d : PyData} (h : tupD 3 d = false) : deedD d = false := by
  cases d with
  | tuple ds =>
    match ds with
    | [_, _, _] => cases h
    | [] => rfl
    | [_] => rfl
    | [_, _] => rfl
    | _ :: _ :: _ :: _ :: _ => rfl
  | _ => rfl
theorem deed_of {a b c : PyData} : deedD (.tuple [a, b, c]) = (stampD a && (seenD (timeD a) b && bodyD c)) := rfl
section
variable {P : Program} {w : World} {K : PySem.W.Frag} {mg : Str → Option Value} {base : Heap}
theorem sc_deed : FnScope ["value"] ["value"] (defScope (top 26)) := ⟨rfl, rfl, rfl, by decide +kernel, rfl, by decide +kernel, by decide +kernel⟩
theorem cl_deed (T : All K mg) : Cl P w K mg base 9 "is_deed" ["value"] (spD K deedD) := by
  obtain ⟨g, fd, D⟩ := T.dn 26 _ _ rfl
  refine D.cl (D.fn.ok sc_deed (fun vs H Q E h => ?_) (fun cdv A outer s H vs Q E hr h => ?_))
  · obtain ⟨v, d, rfl, _⟩ := h
    rfl
  · obtain ⟨v, d, rfl, hd, k⟩ := h
    refine ⟨_, (pss_one (ps_ret (pe_and (pe_cl (cl_tupleof T) hr (by decide) (pa_cons (pv 0) (pa_cons pe_int pa_nil))) (pe_and (pe_cl (cl_stamp T) hr (by decide) (pa_cons (pe_ix ix_tup (pv 0) pe_int (fun _ _ => rfl)) pa_nil)) (pe_and (pe_cl (cl_seen T) hr (by decide) (pa_cons (pe_ix ix_tup (pv 0) pe_int (fun _ _ => rfl)) (pa_cons (pe_ix ix_tup (pe_ix ix_tup (pv 0) pe_int (fun _ _ => rfl)) pe_int (fun _ _ => rfl)) pa_nil))) (pe_one (pe_cl (cl_body T) hr (by decide) (pa_cons (pe_ix ix_tup (pv 0) pe_int (fun _ _ => rfl)) pa_nil)))))))), ?_⟩
    refine ⟨_, rfl, v, d, 3, rfl, hd, fun H1 S1 => ⟨_, rfl, ?_⟩⟩
    refine ite2 (fun e0 => ?_) (fun e0 => ?_)
    · obtain ⟨ds, rfl, hl⟩ := tupN e0
      obtain ⟨x, y, z, rfl⟩ := list3 hl
      rw [deed_of] at k
      have hD := hd.to S1
      obtain ⟨p, ys, u0, rfl, ht, i0, q0⟩ := hD.item (i := 0) rfl
      refine ⟨_, rfl, p, ys, _, u0, rfl, rfl, ht, i0, u0, x, rfl, q0, fun H2 S2 => ⟨_, rfl, ?_⟩⟩
      refine ite2 (fun e1 => ?_) (fun e1 => ?_)
      · obtain ⟨t, j, rfl, _⟩ := stamp_int e1
        rw [e1, Bool.true_and] at k
        have hD2 := hD.to S2
        have S := S1.trans S2
        obtain ⟨p', ys1, u1, e', ht1, i1, q1⟩ := hD2.item (i := 1) rfl
        cases e'
        obtain ⟨p', ys2, u2, e', ht2, i2, q2⟩ := hD2.item (i := 0) rfl
        cases e'
        obtain ⟨p3, ys3, u3, e', ht3, i3, q3⟩ := q2.item (i := 0) rfl
        cases q3
        refine ⟨_, rfl, p, ys1, _, u1, rfl, rfl, ht1, i1, _, rfl, p, ys2, _, u2, rfl, rfl, ht2, i2, p3, ys3, _, _, e', rfl, ht3, i3, u1, y, t, rfl, q1, fun H3 S3 => ⟨_, rfl, ?_⟩⟩
        have et : timeD (.tuple [.int t, .int j]) = t := rfl
        rw [et] at k
        refine ite2 (fun e2 => ?_) (fun e2 => ?_)
        · rw [e2, Bool.true_and] at k
          obtain ⟨p', ys4, u4, e', ht4, i4, q4⟩ := (hD2.to S3).item (i := 2) rfl
          cases e'
          exact ⟨_, rfl, p, ys4, _, u4, rfl, rfl, ht4, i4, u4, z, rfl, q4, fun H4 S4 => k H4 ((S.trans S3).trans S4)⟩
        · have k' := k H3 (S.trans S3)
          rw [Bool.eq_false_iff.mpr e2, Bool.false_and] at k'
          exact k'
      · have k' := k H2 (S1.trans S2)
        rw [Bool.eq_false_iff.mpr e1, Bool.false_and] at k'
        exact k'
    · have k' := k H1 S1
      rw [deed_not (Bool.eq_false_iff.mpr e0)] at k'
      exact k'
end
end K1
namespace K1
open PySem L2
def s_init : Stmt := match top 8 with
  | .ClassDef (body := b) .. => b.getD 0 (.Pass ⟨0, 0, 0, 0⟩)
  | s => s
/-- an error class of the program that tells: told -/
structure Er (K : PySem.W.Frag) (mg : Str → Option Value) (x : Str) (C fI : Addr) : Prop where
  mg : mg x = some (.ref C)
  ox : OexC K C
  xf : XfC K C
  noN : PySem.W.findIn K (.ref C) "told" = some none
  iC : PySem.W.findIn K (.ref C) "__init__" = some (some (.ref fI))
  tI : PySem.W.typeIn K (.ref fI) = some (.type "function")
  te : PySem.W.exmOne K (.ref C) (.ref C) = some true
  ini : ∃ fd, Fun K "__init__" "ScopeError.__init__" s_init fI fd ∧ Binds K fd ["self", "told"] []
def spIni (K : PySem.W.Frag) : Sp := fun vs H Q _ => ∃ (a C : Addr) (v : V), vs = [.ref a, v] ∧ OexC K C ∧ PySem.W.findIn K (.ref C) "told" = some none ∧ H a = some (exo a C none) ∧ ∀ dx, H dx = none → dx ≠ a → Q .non (upd (upd H dx (exd dx [("told", v)])) a (exo a C (some dx)))
section
variable {P : Program} {w : World} {K : PySem.W.Frag} {mg : Str → Option Value} {base : Heap}
theorem sc_init : FnScope ["self", "told"] ["self", "told"] (defScope s_init) := ⟨rfl, rfl, rfl, by decide +kernel, rfl, by decide +kernel, by decide +kernel⟩
theorem ok_init {f : Addr} {fd : FuncData} (F : Fun K "__init__" "ScopeError.__init__" s_init f fd) : FnOk P w K mg base CX0 1 f fd ["self", "told"] (spIni K) := by
  refine F.ok sc_init (fun vs H Q E h => ?_) (fun cdv A outer s H vs Q E hr h => ?_)
  · obtain ⟨a, C, v, rfl, _⟩ := h
    rfl
  · obtain ⟨a, C, v, rfl, T, hno, ha, k⟩ := h
    exact ⟨_, pss_one (ps_ost (pv 0) (pv 1)), _, rfl, _, rfl, a, C, rfl, T, hno, .inl ⟨ha, k⟩⟩
def up (t : TA) : TA := fun σ H Q => ∃ Q0 : List V → Hp → Prop, t σ H Q0 ∧ ∀ vs H1, Q0 vs H1 → Q vs H1
theorem pa_up {X : Cx} {es : List Expr} {t : TA} (h : PA X es t) : PA X es (up t) := ⟨fun pos pins s σ H Q I ⟨Q0, q, k⟩ => wpAny_mono (h.run pos pins s σ H Q0 I q) (fun us s1 ⟨vs, H1, I1, r, z⟩ => ⟨vs, H1, I1, r, k _ _ z⟩) fun _ _ z => z⟩
/-- X(e), to be raised -/
def tErr (C : Addr) (ta : TA) : St → Hp → XK → Prop := fun σ H Q => ta σ H fun vs H1 => ∃ v, vs = [v] ∧ ∀ H2 d, Same H1 H2 → H2 d = some (.xd [("told", v)]) → Q (.ref C) (some d) H2
theorem pmk_err {X : Cx} {x : Str} {C fI : Addr} {e : Expr} {ta : TA} {p pos : Pos} {k : Nat} (R : Er X.K X.mg x C fI) (hr : Room k X.A) (hk : 2 ≤ k) (ha : PA X [e] ta) (hg : Gl X x := by rfl) (hdb : (x == ("__debug__" : Str)) = false := by decide)
    (he : starEach (e :: []) X.env = (false, eval e X.env) :: starEach [] X.env := by rfl) (hpl : (backTo pos (starEach [] X.env)).any (·.1) = false := by rfl) : PMk X (.Call (.Name x p) [e] [] pos) (tErr C ta) := by
  obtain ⟨fd, F, hb⟩ := R.ini
  have G : FnOk X.prog X.w X.K X.mg X.base CX0 1 fI fd ["self", "told"] (spIni X.K) := ok_init F
  have M := pmk_oex (p := p) (dvs := []) R.ox R.iC R.tI G (hr.mono hk) hb .nil (fun _ _ _ _ _ _ _ h => h.elim) hg R.mg (pa_up ha) hdb he hpl
  intro pins s σ H Q I h
  refine M pins s σ H Q I ⟨_, h, fun vs H1 ⟨v, ev, q⟩ => ?_⟩
  subst ev
  refine ⟨(by show 1 ≤ 1000; decide), fun a na => ⟨a, C, v, rfl, R.ox, R.noN, upd_same, fun dx nd ne => ⟨rfl, dx, [("told", v)], upd_same, ?_, ?_, ?_⟩⟩⟩
  · rw [upd_ne ne, upd_same]
  · rw [upd_ne ne] at nd
    exact nd
  · have nd' : H1 dx = none := by
      rw [upd_ne ne] at nd
      exact nd
    refine q _ dx (fun b u hb => ?_) upd_same
    have h1 : b ≠ a := ne_of_none hb na
    have h2 : b ≠ dx := ne_of_none hb nd'
    rw [upd_ne h2, del_ne h1, upd_ne h1, upd_ne h2, upd_ne h1]
    exact hb

/-! ### what refuses -/
/-- nothing, or the error of the class at C that tells v -/
def okOr (C : Addr) (c : Bool) (v : V) (H : Hp) (E : XK) (k : Prop) : Prop := (c = true → k) ∧ (c = false → ∀ H' d, Same H H' → H' d = some (.xd [("told", v)]) → E (.ref C) (some d) H')
def spChk (K : PySem.W.Frag) (C : Addr) (f : PyData → Bool) : Sp := fun vs H Q E => ∃ v d, vs = [v] ∧ DQ K H v d ∧ okOr C (f d) v H E (∀ H', Same H H' → Q .non H')
/-- a def that may raise, called by its name -/
def ClX (P : Program) (w : World) (K : PySem.W.Frag) (mg : Str → Option Value) (base : Heap) (k : Nat) (x : Str) (ps : List Str) (sp : Sp) : Prop :=
  ∃ g fd, FnOk P w K mg base (L2.CX P w) k g fd ps sp ∧ mg x = some (.ref g) ∧ PySem.W.keepIn K (.ref g) = true ∧ Binds K fd ps []
theorem Dn.clX {k : Nat} {x : Str} {ps : List Str} {st : Stmt} {g : Addr} {fd : FuncData} {sp : Sp} (D : Dn K mg x ps st g fd) (F : FnOk P w K mg base (L2.CX P w) k g fd ps sp) : ClX P w K mg base k x ps sp :=
  ⟨g, fd, F, D.mg, D.fn.kp, D.bn⟩
theorem pe_clX {X : Cx} {k m : Nat} {W : WX} {x : Str} {ps : List Str} {sp : Sp} {e : Expr} {es : List Expr} {t : TA} {p pos : Pos} (C : ClX X.prog X.w X.K X.mg X.base k x ps sp) (hr : Room m X.A) (tk : Takes X W) (hk : k ≤ m) (ha : PA X (e :: es) t) (hg : Gl X x := by rfl) (hdb : (x == ("__debug__" : Str)) = false := by decide)
    (he : starEach (e :: es) X.env = (false, eval e X.env) :: starEach es X.env := by rfl) (hpl : (backTo pos (starEach es X.env)).any (·.1) = false := by rfl) : PE X (.Call (.Name x p) (e :: es) [] pos) (tCallS sp (WE W) t) := by
  obtain ⟨g, fd, F, hm, hk', hb⟩ := C
  exact pe_callS F (hr.mono hk) hg hm hk' hb (fun σ => passAt tk σ) ha hdb he hpl
theorem sc_chkhand : FnScope ["hand"] ["hand"] (defScope (top 27)) := ⟨rfl, rfl, rfl, by decide +kernel, rfl, by decide +kernel, by decide +kernel⟩
theorem cl_chkhand {C fI : Addr} (T : All K mg) (R : Er K mg "NoHand" C fI) : ClX P w K mg base 10 "check_hand" ["hand"] (spChk K C (fromD 0 3)) := by
  obtain ⟨g, fd, D⟩ := T.dn 27 _ _ rfl
  refine D.clX (D.fn.okX sc_chkhand (fun vs H Q E h => ?_) (fun cdv A outer s H vs Q E hr h => ?_))
  · obtain ⟨v, d, rfl, _⟩ := h
    rfl
  · obtain ⟨v, d, rfl, hd, k⟩ := h
    refine ⟨_, pss_one (ps_if (pt_not (pt_val (pe_cl (cl_from T) hr (by decide) (pa_cons (pv 0) (pa_cons pe_int (pa_cons pe_int pa_nil)))))) (pss_one (ps_raise rfl (takes_of rfl rfl rfl rfl) (pmk_err R hr (by decide) (pa_cons (pv 0) pa_nil)))) pss_nil), ?_⟩
    refine ⟨_, rfl, v, d, 0, 3, rfl, hd, fun H1 S1 => ⟨_, rfl, ?_⟩⟩
    cases e : fromD 0 3 d with
    | true =>
      rw [e] at k
      exact iteF (k.1 rfl H1 S1)
    | false =>
      rw [e] at k
      exact iteT ⟨_, rfl, v, rfl, fun H2 d2 S2 h2 => k.2 rfl H2 d2 (S1.trans S2) h2⟩
end
end K1
namespace K1
open PySem L2
def marked (x : Str) : Bool := decide (x = "undo" ∨ x = "redo")
def markD : PyData → Bool
  | .tuple [_, _, .tuple (.str x :: _)] => marked x
  | _ => false
theorem body_shape {d : PyData} (h : bodyD d = true) : ∃ x r, d = .tuple (.str x :: r) ∧ bodyR x r = true := by
  cases d with
  | tuple ds =>
    cases ds with
    | nil => cases h
    | cons a r =>
      cases a with
      | str x => exact ⟨x, r, rfl, h⟩
      | _ => cases h
  | _ => cases h
theorem seen_shape {t : Int} {d : PyData} (h : seenD t d = true) : ∃ a b c e, d = .tuple [a, b, c, e] ∧ [a, b, c, e].all (fromD 0 (t - 1)) = true := by
  cases d with
  | tuple ds =>
    have z : (decide (ds.length = 4) && ds.all (fromD 0 (t - 1))) = true := h
    rw [Bool.and_eq_true, decide_eq_true_eq] at z
    obtain ⟨a, b, c, e, rfl⟩ := list4 z.1
    exact ⟨a, b, c, e, rfl, z.2⟩
  | _ => cases h
/-- a right deed, part by part -/
theorem deed_shape {d : PyData} (h : deedD d = true) : ∃ (t j : Int) (a b c e : PyData) (x : Str) (r : List PyData), d = .tuple [.tuple [.int t, .int j], .tuple [a, b, c, e], .tuple (.str x :: r)] ∧ (1 ≤ t ∧ t ≤ 999) ∧ (0 ≤ j ∧ j ≤ 3) ∧ [a, b, c, e].all (fromD 0 (t - 1)) = true ∧ bodyR x r = true := by
  cases e : tupD 3 d with
  | false =>
    rw [deed_not e] at h
    cases h
  | true =>
    obtain ⟨ds, rfl, hl⟩ := tupN e
    obtain ⟨s, k, b, rfl⟩ := list3 hl
    rw [deed_of, Bool.and_eq_true, Bool.and_eq_true] at h
    obtain ⟨t, j, rfl, ht, hj⟩ := stamp_int h.1
    obtain ⟨a, b', c, e', rfl, hk⟩ := seen_shape h.2.1
    obtain ⟨x, r, rfl, hb⟩ := body_shape h.2.2
    exact ⟨t, j, a, b', c, e', x, r, rfl, ht, hj, hk, hb⟩
def spDoes (K : PySem.W.Frag) : Sp := fun vs H Q _ => ∃ v x r, vs = [v] ∧ DQ K H v (.tuple (.str x :: r)) ∧ Q (.bl (marked x)) H
def spMark (K : PySem.W.Frag) (C : Addr) : Sp := fun vs H Q E => ∃ v d, vs = [v] ∧ DQ K H v d ∧ okOr C (deedD d) v H E (∀ H', Same H H' → Q (.bl (markD d)) H')
/-- the entry of a deed's seen -/
def entryD : PyData → Int → PyData
  | .tuple [_, .tuple [a, b, c, e], _], j => if j = 0 then a else if j = 1 then b else if j = 2 then c else e
  | _, _ => .none
def spTime (K : PySem.W.Frag) (C Ch : Addr) : Sp := fun vs H Q E => ∃ v u d e, vs = [v, u] ∧ DQ K H v d ∧ DQ K H u e ∧
  okOr C (deedD d) v H E (okOr Ch (fromD 0 3 e) u H E (∀ H' x, Same H H' → ∀ j, e = .int j → DQ K H' x (entryD d j) → Q x H'))
section
variable {P : Program} {w : World} {K : PySem.W.Frag} {mg : Str → Option Value} {base : Heap}
end
end K1
namespace K1
open PySem L2
/-- held against an empty one -/
def rEqE (K : PySem.W.Frag) : R2 := fun x y H Q => ∃ a b xs, x = .ref a ∧ y = .ref b ∧ ((SqL K H a xs ∧ SqL K H b []) ∨ (SqT K H a xs ∧ SqT K H b [])) ∧ Q (.bl xs.isEmpty) H
theorem op_eqE {X : Cx} (hu : X.A.units + 64 < cLine) : OpR X (compareOp .Eq) (rEqE X.K) := by
  intro pins s σ H x y v u Q I rx ry h
  obtain ⟨a, b, xs, rfl, rfl, h, q⟩ := h
  cases rx
  cases ry
  rcases h with ⟨h1, h2⟩ | ⟨h1, h2⟩
  · obtain ⟨us, r1, p1, _⟩ := I.list h1
    obtain ⟨ws, r2, p2, _⟩ := I.list h2
    cases r2
    cases r1 with
    | nil => exact SeqAt.eq_listAt (e := fun _ => true) p1.isList p2.isList rfl (by omega) (fun j h1 h2 => absurd h2 (Nat.not_lt_zero j)) ⟨.bl true, H, I, rfl, q⟩
    | cons r1 rs => exact SeqAt.eq_list_lengthsAt p1.isList p2.isList (by simp) (by omega) ⟨.bl false, H, I, rfl, q⟩
  · obtain ⟨us, r1, p1, _⟩ := I.tuple h1
    obtain ⟨ws, r2, p2, _⟩ := I.tuple h2
    cases r2
    refine SeqAt.eq_tupleAt (e := fun _ => true) p1 p2 (by omega) (fun j h1 h2 => absurd h2 (Nat.not_lt_zero j)) ⟨.bl xs.isEmpty, H, I, ?_, q⟩
    cases r1 with
    | nil => rfl
    | cons r1 rs => show Value.bool _ = Value.bool false; simp
def rNeE (K : PySem.W.Frag) : R2 := fun x y H Q => ∃ a b xs, x = .ref a ∧ y = .ref b ∧ SqL K H a xs ∧ SqL K H b [] ∧ Q (.bl !xs.isEmpty) H
theorem op_neE {X : Cx} (hu : X.A.units + 64 < cLine) : OpR X (compareOp .NotEq) (rNeE X.K) := by
  intro pins s σ H x y v u Q I rx ry h
  obtain ⟨a, b, xs, rfl, rfl, h1, h2, q⟩ := h
  cases rx
  cases ry
  obtain ⟨us, r1, p1, _⟩ := I.list h1
  obtain ⟨ws, r2, p2, _⟩ := I.list h2
  cases r2
  cases r1 with
  | nil => exact SeqAt.RcNeAt.lists (e := fun _ => true) p1.isList p2.isList rfl (by omega) (fun j h1 h2 => absurd h2 (Nat.not_lt_zero j)) _ _ _ _ ⟨.bl false, H, I, rfl, q⟩
  | cons r1 rs => exact SeqAt.RcNeAt.lists_lengths p1.isList p2.isList (by simp) (by omega) _ _ _ _ ⟨.bl true, H, I, rfl, q⟩
def sgn (c : Nat) : V := .str ⟨#[c]⟩
/-- a comprehension over a text's signs, with a test -/
theorem lc_filtS {z : Str} {te : TE} {tt : TT} {j : Nat} {σ : St} {H1 : Hp} {D : Addr} {Qd : Hp → Prop} (p : Nat → Bool) (nD : H1 D = none) (hz : z.cps.size ≤ 1000) (hw : ∀ x, wipe ((wipe σ [j]).set j (some x)) [j] = wipe σ [j])
    (ht : ∀ c H' Q, Same H1 H' → Q (p c) H' → tt ((wipe σ [j]).set j (some (sgn c))) H' Q)
    (he : ∀ c H' Q, Same H1 H' → Q (sgn c) H' → te ((wipe σ [j]).set j (some (sgn c))) H' Q) (hd : ∀ H', Same H1 H' → H' D = some (.lst ((z.cps.toList.filter p).map sgn)) → Qd H') :
    ∃ W : Nat → Nat → Hp → Prop, (∃ m, W 0 m (upd H1 D (.lst []))) ∧ ∀ i m H, W i m H →
      ((Its z).stop i H ∧ Qd H) ∨ ((Its z).go i H ∧ ∃ Nx : Hp → Prop, (∀ H', Nx H' → ∃ m', m' < m ∧ W (i + 1) m' H') ∧ ∀ x H', (Its z).yld i H x H' → (gName j) x (wipe σ [j]) H' fun σ2 H2 => wipe σ2 [j] = wipe σ [j] ∧ tt σ2 H2 fun b H3 =>
        if b = true then te σ2 H3 fun y H4 => ∃ acc, H4 D = some (.lst acc) ∧ acc.length < sizeLine ∧ Nx (upd H4 D (.lst (acc ++ [y]))) else Nx H3) := by
  have sz : z.cps.size = z.cps.toList.length := (Array.length_toList).symm
  refine lc_it (walk_str (z := z)) (fun i H' => i ≤ z.cps.size ∧ Same H1 H' ∧ H' D = some (.lst (((z.cps.toList.take i).filter p).map sgn))) ⟨Nat.zero_le _, K0.same_upd nD, upd_same⟩ (fun _ _ _ _ => trivial) ?_ (fun H' ⟨_, s, h⟩ => ?_)
  · rintro i x H2 H' hlt ⟨hle, s, h⟩ ⟨rfl, c, hc, rfl⟩
    refine ⟨hw _, ?_⟩
    have hc' : z.cps.toList[i]? = some c := by
      rw [Array.getElem?_toList]
      exact hc
    have tk : z.cps.toList.take (i + 1) = z.cps.toList.take i ++ [c] := by
      rw [List.take_succ, hc']
      rfl
    have hl : ((z.cps.toList.take i).filter p).length ≤ i := Nat.le_trans (List.length_filter_le _ _) (by rw [List.length_take]; omega)
    refine ht c _ _ s ?_
    cases e : p c with
    | true =>
      refine iteT (he c _ _ s ⟨_, h, ?_, hlt, K0.same_over s nD, ?_⟩)
      · rw [List.length_map, sizeLine_eq]
        omega
      · rw [upd_same, tk, List.filter_append, List.map_append, List.filter_cons_of_pos e]
        rfl
    | false =>
      refine iteF ⟨hlt, s, ?_⟩
      rw [tk, List.filter_append, List.filter_cons_of_neg (by rw [e]; exact Bool.false_ne_true), List.filter_nil, List.append_nil]
      exact h
  · refine hd H' s ?_
    rw [sz, List.take_length] at h
    exact h
end K1
namespace K1
open PySem L2
section
variable {P : Program} {w : World} {K : PySem.W.Frag} {mg : Str → Option Value} {base : Heap}
theorem ne_is {n m : Nat} {i : Int} (hi : i = (m : Int)) : (!decide (V.int (n : Int) = V.int i)) = !decide (n = m) := by
  subst hi
  rw [dec_len]
theorem filt_nil (x : Str) : (((x.cps.toList.filter fun c => !letter c).map sgn).isEmpty) = x.cps.toList.all letter := by
  rw [List.isEmpty_map, Bool.eq_iff_iff, List.isEmpty_iff, List.filter_eq_nil_iff, List.all_eq_true]
  exact forall_congr' fun c => imp_congr Iff.rfl (by cases letter c <;> simp)
end
end K1
namespace K1
open PySem L2
/-- a comprehension over a tuple that stands still, with a test -/
theorem lc_filtT {K : PySem.W.Frag} {a : Addr} {xs : List V} {te : TE} {tt : TT} {j : Nat} {σ : St} {H1 : Hp} {D : Addr} {Qd : Hp → Prop} (kp : Nat → Bool) (nD : H1 D = none) (ha : SqT K H1 a xs) (hz : xs.length ≤ 1000) (hw : ∀ x, wipe ((wipe σ [j]).set j (some x)) [j] = wipe σ [j])
    (ht : ∀ (i : Nat) (x : V) (H' : Hp) (Q : Bool → Hp → Prop), xs[i]? = some x → Same H1 H' → (∀ H'', Same H' H'' → Q (kp i) H'') → tt ((wipe σ [j]).set j (some x)) H' Q)
    (he : ∀ (i : Nat) (x : V) (H' : Hp) (Q : VK), xs[i]? = some x → Same H1 H' → Q x H' → te ((wipe σ [j]).set j (some x)) H' Q)
    (hd : ∀ H' acc, Same H1 H' → H' D = some (.lst acc) → acc.isEmpty = ((List.range xs.length).all fun i => !kp i) → Qd H') :
    ∃ W : Nat → Nat → Hp → Prop, (∃ m, W 0 m (upd H1 D (.lst []))) ∧ ∀ i m H, W i m H →
      ((Itt K a).stop i H ∧ Qd H) ∨ ((Itt K a).go i H ∧ ∃ Nx : Hp → Prop, (∀ H', Nx H' → ∃ m', m' < m ∧ W (i + 1) m' H') ∧ ∀ x H', (Itt K a).yld i H x H' → (gName j) x (wipe σ [j]) H' fun σ2 H2 => wipe σ2 [j] = wipe σ [j] ∧ tt σ2 H2 fun b H3 =>
        if b = true then te σ2 H3 fun y H4 => ∃ acc, H4 D = some (.lst acc) ∧ acc.length < sizeLine ∧ Nx (upd H4 D (.lst (acc ++ [y]))) else Nx H3) := by
  refine lc_tup (K := K) (a := a) (xs := xs) (fun i H' => i ≤ xs.length ∧ Same H1 H' ∧ ∃ acc, H' D = some (.lst acc) ∧ acc.length ≤ i ∧ acc.isEmpty = ((List.range i).all fun i => !kp i)) ⟨Nat.zero_le _, K0.same_upd nD, [], upd_same, Nat.le_refl _, rfl⟩
    (fun i H' _ ⟨_, s, _⟩ => K0.seqT_same s ha) ?_ (fun H' ⟨_, s, acc, h, _, e⟩ => hd H' acc s h e)
  intro i x H' hi ⟨hle, s, acc, h, hl, he'⟩
  have hlt := (List.getElem?_eq_some_iff.mp hi).1
  refine ⟨hw x, ht i x _ _ hi s fun H'' s2 => ?_⟩
  cases e : kp i with
  | true =>
    refine iteT (he i x _ _ hi (s.trans s2) ⟨acc, s2 _ _ h, by rw [sizeLine_eq]; omega, hlt, K0.same_over (s.trans s2) nD, acc ++ [x], upd_same, by rw [List.length_append]; exact Nat.succ_le_succ hl, ?_⟩)
    rw [List.range_succ, List.all_append, List.all_cons, e]
    simp
  | false =>
    refine iteF ⟨hlt, s.trans s2, acc, s2 _ _ h, Nat.le_succ_of_le hl, ?_⟩
    rw [List.range_succ, List.all_append, List.all_cons, e, he']
    simp
section
variable {P : Program} {w : World} {K : PySem.W.Frag} {mg : Str → Option Value} {base : Heap}
end
end K1
namespace K1
open PySem L2 PySem.Spec PyProof.Rows
/-! ### a def that is called where nothing is being shown: repr of lists and tuples is told in it -/
structure FnG (P : Program) (w : World) (K : PySem.W.Frag) (mg : Str → Option Value) (base : Heap) (k : Nat) (f : Addr) (fd : FuncData) (ps : List Str) (sp : Sp) : Prop where
  len : ∀ vs H Q E, sp vs H Q E → vs.length = ps.length
  run : ∀ (A : Around) (outer : List Env) (s : Shared) (H : Hp) (args : Args) (us : List Value) (vs : List V) (Q : VK) (E : XK), A.guards = some [] → Room k A → Env0 P w K mg base A outer s H → BindsTo s fd args (ps.zip us) → Vals vs us → sp vs H Q E →
    codeAny (model P w) A (.call (.ref f) args) (CR CX0 outer P w H s Q E) s
section
variable {P : Program} {w : World} {K : PySem.W.Frag} {mg : Str → Option Value} {base : Heap}
theorem okG {x qual : Str} {st : Stmt} {f : Addr} {fd : FuncData} {N ps : List Str} {k : Nat} {sp : Sp} (F : Fun K x qual st f fd) (S : FnScope N ps (defScope st)) (len : ∀ vs H Q E, sp vs H Q E → vs.length = ps.length)
    (hbody : ∀ (cdv : Value) (A : Around) (outer : List Env) (s : Shared) (H : Hp) (vs : List V) (Q : VK) (E : XK), A.guards = some [] → Room k (A.deeper (envOfC qual (defScope st) s.heap.objs.size f cdv)) → sp vs H Q E →
      ∃ t, PSs (cxOf CX0 P w K mg base N qual (defScope st) f cdv A outer s H E).nox (defBody st) t ∧ t { nx := fun _ H' => Q .non H', rt := Q } (start N vs) H) : FnG P w K mg base (k + 1) f fd ps sp := by
  obtain ⟨oc, od, kV, doc, pm, an, cdv, ct, osl, rfl, lk, hcd⟩ := F.ex
  refine ⟨len, fun A outer s H args us vs Q E hg hr e0 hb r h => ?_⟩
  obtain ⟨t, ht, q⟩ := hbody cdv A outer s H vs Q E hg (hr.deeper _) h
  exact run_at lk hcd S (len _ _ _ _ h) hr e0 hb r ⟨t, ht.nox, q⟩
end
def ClG (P : Program) (w : World) (K : PySem.W.Frag) (mg : Str → Option Value) (base : Heap) (k : Nat) (x : Str) (ps : List Str) (sp : Sp) : Prop :=
  ∃ g fd, FnG P w K mg base k g fd ps sp ∧ mg x = some (.ref g) ∧ PySem.W.keepIn K (.ref g) = true ∧ Binds K fd ps []
theorem pe_clG {X : Cx} {k m : Nat} {x : Str} {ps : List Str} {sp : Sp} {e : Expr} {es : List Expr} {t : TA} {p pos : Pos} (C : ClG X.prog X.w X.K X.mg X.base k x ps sp) (hgd : X.A.guards = some []) (hr : Room m X.A) (hk : k ≤ m) (ha : PA X (e :: es) t) (hg : Gl X x := by rfl) (hdb : (x == ("__debug__" : Str)) = false := by decide)
    (he : starEach (e :: es) X.env = (false, eval e X.env) :: starEach es X.env := by rfl) (hpl : (backTo pos (starEach es X.env)).any (·.1) = false := by rfl) : PE X (.Call (.Name x p) (e :: es) [] pos) (tCall sp [] E0 t) := by
  obtain ⟨g, fd, F, hm, hk', hb⟩ := C
  refine ⟨fun pins s σ H Q I h => wpAny_Call_Name_kw (ld_glob I hg hm ?_ hdb)⟩
  refine PySem.W.callWith_K (h₀ := X.base) I.ok.mod.kin hk' (thn (ha.run pos pins s σ H _ I h) fun us s1 hh => ?_) he hpl
  obtain ⟨vs, H1, I1, r, q⟩ := hh
  rw [List.append_nil] at q
  have hl : us.length = ps.length := r.length.symm.trans (F.len _ _ _ _ q)
  have hb' := hb s1 us I1.kIn (by rw [List.append_nil]; exact hl)
  rw [List.append_nil] at hb'
  refine ⟨I1.kIn, wpAny_call (codeAny_mono (F.run X.A X.stack s1 H1 ⟨us, []⟩ us vs Q E0 hgd (hr.mono hk) I1.env0 hb' r q) fun o s' z => ?_)⟩
  cases o with
  | error e => exact (show False from z).elim
  | ok fl =>
    cases fl with
    | ret u => exact I1.after z
    | next => exact z.elim
    | brk => exact z.elim
    | cont => exact z.elim
end K1
namespace K1
open PySem L2 PySem.Spec PyProof.Rows
abbrev SuiteT := Addr → Value → Option Addr → TS
/-- the ends of a suite whose name, in slot i, is taken away behind it -/
def gone (i : Nat) (D : Ends) : Ends := { nx := fun σ H => D.nx (σ.set i none) H, rt := D.rt, bk := fun σ H => D.bk (σ.set i none) H, ct := fun σ H => D.ct (σ.set i none) H }
/-- what the clauses 'except x as n' wish, one behind the other: slot i is n's -/
def wEach (K : PySem.W.Frag) (i : Nat) (Wo : WX) (D : Ends) : List (Value × SuiteT) → WX
  | [] => Wo
  | (c, ts) :: r => fun cls d σ H => ∃ b, PySem.W.exmOne K cls c = some b ∧ (b = true → ∀ a, H a = none → ts a cls d (gone i D) (σ.set i (some (.ref a))) H) ∧ (b = false → wEach K i Wo D r cls d σ H)
inductive Clauses (X : Cx) (n : Str) : List ExceptHandler → List (Value × SuiteT) → Prop
  | nil : Clauses X n [] []
  | cons {x : Str} {c : Value} {ts : SuiteT} {st : Stmt} {sts : List Stmt} {np hp : Pos} {hds : List ExceptHandler} {l : List (Value × SuiteT)} (nm : Names X x c)
      (su : ∀ (a : Addr) (oe : Obj) (cls : Value) (d : Option Addr) (pn : List (Addr × Obj)), Zc cls d oe → (∃ vs, oe.data = .fields vs) → PSs (X.suite a ((a, oe) :: pn)) (st :: sts) (ts a cls d)) (r : Clauses X n hds l) :
      Clauses X n (.ExceptHandler (some (.Name x np)) (some n) (st :: sts) hp :: hds) ((c, ts) :: l)
section
variable {X : Cx} {n : Str} {i : Nat} {Wo : WX}
/-- an exception that has come to the clauses -/
theorem clauses_run {pins : List (Addr × Obj)} {σ : L2.St} {H : Hp} {D : Ends} {a : Addr} {B : Heap} {sI : Shared} {cls : Value} {d : Option Addr} (ok : X.Ok) (hs : X.stack = X.env :: X.outer) (hf : X.env.frame = some X.env.locals) (hN : X.N.Nodup) (hi : X.N[i]? = some n) (hln : X.env.kindOf n = some .local) (tk : Takes X Wo)
    (J : Inv X pins σ H sI) (nb : ∀ b o, sI.heap.get? b = some o → b ∉ frs X.stack → B.get? b = some o) (na : H a = none) :
    ∀ {hds : List ExceptHandler} {l : List (Value × SuiteT)}, Clauses X n hds l → ∀ {s : Shared}, HandSPX.FlyingZ B (X.env :: X.outer) a (Zc cls d) s.heap → sI.heap.UpToSlots s.heap → s.os = sI.os → AllBare s.gens → wEach X.K i Wo D l cls d σ H →
      wpAny (model X.prog X.w) X.A (handleBy (.ref a) X.env hds) (SP X pins D) X.xe s := by
  intro hds l C
  induction C with
  | nil =>
    intro s fl up os ag w
    refine wpAny_handleBy_nil ?_
    obtain ⟨_, _, _, oe, vs, T, oT, ts', he, hz, hd, h1, hr⟩ := id fl
    unfold PySem.passOn
    refine wpAny_bind (wpAny_field he hd h1 ?_)
    rw [if_neg (show ¬ ((Value.ref T == Value.none) = true) from by simp)]
    have away : wpAny (model X.prog X.w) X.A (setFlight (.ref a) X.env.frame) (fun _ s4 => wpAny (model X.prog X.w) X.A (throw (.ref a) : Sem Flow) (SP X pins D) X.xe s4) X.xe s := by
      rw [hf]
      exact HandSPX.setFlight_upZ fl fun h4 fl4 up4 => wpAny_throw (tk _ _ ⟨a, B, sI, pins, σ, H, cls, d, rfl, J, nb, up.trans up4, .inr (.inr (by rw [hs]; exact fl4)), na, os, ag, w⟩)
    first
      | exact wpAny_bind (wpAny_pure (wpAny_bind away))
      | exact wpAny_bind away
  | @cons x c ts st sts np hp hds2 l2 nm su _ ih =>
    intro s fl up os ag w
    obtain ⟨b, hb1, yes, no⟩ := w
    obtain ⟨oe, vs, he, hz, hd⟩ := fl.there
    have Jl : Inv X pins σ H s := J.landed nb fl.1 up os ag
    have notIn : ∀ {h : Heap} {o : Obj} {us : Array Value}, h.FunFrames B (X.env :: X.outer) → h.get? a = some o → o.data = .fields us → a ∉ frs (X.env :: X.outer) := fun ff e dd hm => by
      obtain ⟨_, o', e', z⟩ := ff.mem hm
      rw [e] at e'
      cases e'
      exact z _ dd
    have nfr := notIn fl.2.2.1 he hd
    have nL : a ≠ X.env.locals := fun z => nfr (List.mem_filterMap.mpr ⟨X.env, List.mem_cons_self, by rw [hf, z]⟩)
    have nF : a ∉ X.fs := fun hm => by
      obtain ⟨e, he', q⟩ := List.mem_filterMap.mp hm
      exact nfr (List.mem_filterMap.mpr ⟨e, List.mem_cons_of_mem _ he', q⟩)
    have S3 := Jl.suite he hd na nL nF
    have LT : PySem.W.Looks (model X.prog X.w) s.heap (typeOf (.ref a)) cls := fun A Q E s' k q => wpAny_typeOf_ref (k _ _ he) (by rw [hz.1]; exact q)
    have LM := PySem.W.exm_one (M := model X.prog X.w) Jl.kIn LT hb1
    refine wpAny_handleBy_cons (codeAny_handlers_test ?_) (by intro q; cases q)
    have look : ∀ {Q : Value → Shared → Prop} {E : Value → Shared → Prop}, Q c s → wpAny (model X.prog X.w) (X.A.mark (some (.ref a))) (eval (.Name x np) X.env) Q E s := fun q => by
      obtain ⟨hg, hdbg, hm | ⟨hm, hv, hnn⟩⟩ := nm
      · exact ld_glob (X := X.suite a ((a, oe) :: (X.pn ++ pins))) S3 hg hm q hdbg
      · exact ld_blt (X := X.suite a ((a, oe) :: (X.pn ++ pins))) S3 hg hm hv q hnn hdbg
    refine look (LM.here ?_)
    cases b with
    | false => exact ih fl up os ag (no rfl)
    | true =>
      refine codeAny_handlers_suite_as ?_
      refine HandSPX.lands_againZ fl fun h4 fl4 up4 => ?_
      have J4 : Inv X pins σ H { s with heap := h4 } := J.landed nb fl4.1 (up.trans up4) os ag
      obtain ⟨oe4, vs4, he4, hz4, hd4⟩ := fl4.there
      have S4 := J4.suite he4 hd4 na nL nF
      refine store_ok (X := X.suite a ((a, oe4) :: (X.pn ++ pins))) (v := .ref a) S4 hN hi (.inl hln) rfl (fun s5 S5 => ?_) (.inr hln)
      refine wpAny_mono ((su a oe4 cls d (X.pn ++ pins) hz4 ⟨_, hd4⟩).run [] s5 _ H _ S5 (yes rfl a na)) (fun f s6 z => ?_) fun _ _ z => False.elim z
      have last : ∀ {σ6 : L2.St} {H6 : Hp} {Q : Shared → Prop}, Inv (X.suite a ((a, oe4) :: (X.pn ++ pins))) [] σ6 H6 s6 → (∀ s7, Inv X pins (σ6.set i none) H6 s7 → Q s7) →
          wpAny (model X.prog X.w) X.A (do bindName X.env n .none; unbindBehindTheSuite X.env n hp) (fun _ s7 => Q s7) X.xe s6 := fun S6 q => gone_ok (S6.unsuite ok) hN hi hln q
      cases f with
      | next =>
        obtain ⟨σ6, H6, S6, q⟩ := z
        exact last S6 fun s7 J7 => ⟨_, _, J7, q⟩
      | brk =>
        obtain ⟨σ6, H6, S6, q⟩ := z
        exact last S6 fun s7 J7 => ⟨_, _, J7, q⟩
      | cont =>
        obtain ⟨σ6, H6, S6, q⟩ := z
        exact last S6 fun s7 J7 => ⟨_, _, J7, q⟩
      | ret u =>
        obtain ⟨v6, σ6, H6, S6, r6, q⟩ := z
        exact last S6 fun s7 J7 => ⟨_, _, _, J7, r6, q⟩
/-- try: body, then clauses that name the exception -/
theorem ps_try_each {body : List Stmt} {h₀ : ExceptHandler} {hds : List ExceptHandler} {l : List (Value × SuiteT)} {pos : Pos} {tb : WX → TS} (hs : X.stack = X.env :: X.outer) (hf : X.env.frame = some X.env.locals) (hN : X.N.Nodup) (hi : X.N[i]? = some n) (hln : X.env.kindOf n = some .local) (tk : Takes X Wo)
    (hb : ∀ (W : WX) (pn : List (Addr × Obj)) (xe : Value → Shared → Prop), Takes (X.tr pn xe) W → PassesOwn (model X.prog X.w) X.A X.env xe → PSs (X.tr pn xe) body (tb W)) (C : Clauses X n (h₀ :: hds) l) :
    PS X (.Try body (h₀ :: hds) [] [] pos) (fun D σ H => tb (wEach X.K i Wo D l) D σ H) := by
  refine ⟨fun pins s σ H D I h => ?_⟩
  have ok := I.ok
  refine wpAny_Try_except (wpAny_mono ((hb (wEach X.K i Wo D l) (X.pn ++ pins) (fun e s₁ => wpAny (model X.prog X.w) X.A (noteFrame e X.env) (fun _ s₂ => wpAny (model X.prog X.w) X.A (setFlight e none) (fun _ s₃ =>
    wpAny (model X.prog X.w) X.A (handleBy e X.env (h₀ :: hds)) (SP X pins D) X.xe s₃) X.xe s₂) X.xe s₁) (fun u s' xx => ?_) PassesOwn.looking).run [] s σ H D (I.toTry _) h) (fun f s1 z => ?_) (fun e s1 z => z))
  · obtain ⟨a, B, sI, pins', σ', H', cls, d, rfl, J', nb, up, sky, na, os, ag, w⟩ := xx
    refine Sky.land Zc.steady (by rw [ok.frames, hs]) hf (by rw [← hs]; exact sky) fun h3 fl3 up3 => ?_
    exact clauses_run ok hs hf hN hi hln tk (J'.ofTry ok) nb na C fl3 (up.trans up3) os ag w
  · cases f with
    | next =>
      obtain ⟨σ', H', J', q⟩ := z
      exact wpAny_execs_nil ⟨σ', H', J'.ofTry ok, q⟩
    | brk =>
      obtain ⟨σ', H', J', q⟩ := z
      exact ⟨σ', H', J'.ofTry ok, q⟩
    | cont =>
      obtain ⟨σ', H', J', q⟩ := z
      exact ⟨σ', H', J'.ofTry ok, q⟩
    | ret u =>
      obtain ⟨v, σ', H', J', r, q⟩ := z
      exact ⟨v, σ', H', J'.ofTry ok, r, q⟩
end
end K1
namespace K1
open PySem L2
mutual
def noList : PyData → Bool
  | .list _ => false
  | .tuple ds => noListAll ds
  | .dict ps => ps.isEmpty
  | _ => true
def noListAll : List PyData → Bool
  | [] => true
  | d :: ds => noList d && noListAll ds
end
section
variable {X : Cx} {pins : List (Addr × Obj)} {σ : St} {H : Hp} {s : Shared}
theorem dct_reads {a : Addr} (I : Inv X pins σ H s) (h : H a = some (.dK [])) : ∃ as, PySem.Reads s.heap (.ref a) (.dict []) as ∧ sysModules ∉ as := by
  have z : ObjOk X.prog X.w H s.heap a (.dK []) := I.hok a _ h
  obtain ⟨_, hs, vs, hkv, o, es, ep, ho, hx, hd, hk, hp, _⟩ := z
  cases hkv
  generalize hl : es.toList = el at hp
  cases hp
  have hr := PySem.Reads.dict (kvs := []) (as := []) (bs := []) ho hx.1 hd (by rw [hl]; exact .nil) (by rw [hl]; exact .nil)
  refine ⟨_, hr, fun hm => ?_⟩
  have hm2 : sysModules = a := by simpa using hm
  rw [hm2] at hs
  exact absurd hs (by simp)
mutual
theorem DQ.reads (I : Inv X pins σ H s) : ∀ (d : PyData) (v : V) (u : Value), DQ X.K H v d → RelV v u → ∃ as, PySem.Reads s.heap u d as ∧ (noList d = true → sysModules ∉ as)
  | .none, _, _, h, r => by
    cases h
    cases r
    exact ⟨_, .none, fun _ => List.not_mem_nil⟩
  | .bool b, _, _, h, r => by
    cases h
    cases r
    exact ⟨_, .bool b, fun _ => List.not_mem_nil⟩
  | .int i, _, _, h, r => by
    cases h
    obtain ⟨t, rfl⟩ := r
    exact ⟨_, .int i t, fun _ => List.not_mem_nil⟩
  | .str x, _, _, h, r => by
    cases h
    obtain ⟨t, rfl⟩ := r
    exact ⟨_, .str x t, fun _ => List.not_mem_nil⟩
  | .list ds, _, _, h, r => by
    cases h with
    | lst hs ha =>
      cases r
      obtain ⟨its, rv, ⟨o, n, ho, hc, _, hd⟩, _⟩ := I.list hs
      obtain ⟨as, hr, _⟩ := DQs.reads I ds _ its ha rv
      exact ⟨_, .list ho hc hd hr, fun z => Bool.noConfusion z⟩
  | .tuple ds, _, _, h, r => by
    cases h with
    | tup hs ha =>
      cases r
      obtain ⟨its, rv, ⟨o, ho, hc, n, hd⟩, _⟩ := I.tuple hs
      obtain ⟨as, hr, hn⟩ := DQs.reads I ds _ its ha rv
      exact ⟨_, .tuple ho hc hd hr, hn⟩
  | .dict [], _, _, h, r => by
    cases h with
    | dct h =>
      cases r
      obtain ⟨as, q, n⟩ := dct_reads I h
      exact ⟨as, q, fun _ => n⟩
  | .dict (_ :: _), _, _, h, _ => by cases h
theorem DQs.reads (I : Inv X pins σ H s) : ∀ (ds : List PyData) (vs : List V) (us : List Value), DQs X.K H vs ds → L2.Vals vs us → ∃ as, PySem.ReadsAll s.heap us ds as ∧ (noListAll ds = true → sysModules ∉ as)
  | [], _, _, h, r => by
    cases h
    cases r
    exact ⟨_, .nil, fun _ => List.not_mem_nil⟩
  | d :: ds, _, _, h, r => by
    cases h with
    | cons h1 h2 =>
      cases r with
      | cons r1 r2 =>
        obtain ⟨as, q1, n1⟩ := DQ.reads I d _ _ h1 r1
        obtain ⟨bs, q2, n2⟩ := DQs.reads I ds _ _ h2 r2
        refine ⟨_, .cons q1 q2, fun z => ?_⟩
        have z' : (noList d && noListAll ds) = true := z
        rw [Bool.and_eq_true] at z'
        rw [List.mem_append]
        exact fun hm => hm.elim (n1 z'.1) (n2 z'.2)
end
end
/-- repr of data -/
def rReprQ (K : PySem.W.Frag) : List V → Hp → VK → Prop := fun xs H Q => ∃ (v : V) (d : PyData), xs = [v] ∧ DQ K H v d ∧ (d.hasDict = true → noList d = true) ∧ d.showable = true ∧ d.depth ≤ 8 ∧ d.shown.length ≤ sizeLine ∧ Q (.str d.shown) H
theorem call_reprQ {X : Cx} (hg : X.A.guards = some []) (hu : X.A.units + 64 < cLine) : CallR X (.builtin "repr") (rReprQ X.K) := by
  intro pins s σ H xs us Q I r h
  obtain ⟨v, d, rfl, hD, hn, hsh, hdp, hsz, q⟩ := h
  obtain ⟨u, rfl, ru⟩ := vals1 r
  obtain ⟨as, hr, hsm⟩ := DQ.reads I d v u hD ru
  have hsm' : d.hasDict = true → sysModules ∉ as := fun z => hsm (hn z)
  cases hr with
  | none => exact PySem.P.repr_of_none ⟨.str _, H, I.tok _, ⟨_, rfl⟩, q⟩
  | bool b => exact PySem.P.repr_of_bool ⟨.str _, H, I.tok _, ⟨_, rfl⟩, q⟩
  | int i t => exact PySem.P.repr_of_int (of_decide_eq_true hsh) ⟨.str _, H, I.tok _, ⟨_, rfl⟩, q⟩
  | str x t => exact PySem.P.repr_of_str ⟨.str _, H, I.tok _, ⟨_, rfl⟩, q⟩ hsz
  | list a1 a2 a3 a4 => exact repr_of_reads' (PySem.Reads.list a1 a2 a3 a4) hsh hsm' hg (by omega) (fun _ _ e => e) (fun h' u tk hk => ⟨.str _, H, I.kept hk, ⟨_, rfl⟩, q⟩) hsz
  | tuple a1 a2 a3 a4 => exact repr_of_reads' (PySem.Reads.tuple a1 a2 a3 a4) hsh hsm' hg (by omega) (fun _ _ e => e) (fun h' u tk hk => ⟨.str _, H, I.kept hk, ⟨_, rfl⟩, q⟩) hsz
  | dict a1 a2 a3 a4 a5 => exact repr_of_reads' (PySem.Reads.dict a1 a2 a3 a4 a5) hsh hsm' hg (by omega) (fun _ _ e => e) (fun h' u tk hk => ⟨.str _, H, I.kept hk, ⟨_, rfl⟩, q⟩) hsz
end K1
namespace K1
open PySem L2
def lenT (n : Nat) (t : TS) : TS := fun D σ H => σ.length = n → t D σ H
theorem pss_len {X : Cx} {sts : List Stmt} {t : TS} {n : Nat} (h : PSs X sts t) (hn : X.N.length = n) : PSs X sts (lenT n t) := ⟨fun pins s σ H D I q => h.run pins s σ H D I (q (I.len.trans hn))⟩
def tsNo : SuiteT := fun _ _ _ => tNever
/-- data that repr tells -/
structure Shows (K : PySem.W.Frag) (H : Hp) (v : V) (d : PyData) : Prop where
  dq : DQ K H v d
  nl : d.hasDict = true → noList d = true
  sh : d.showable = true
  dp : d.depth ≤ 8
  sz : d.shown.length ≤ sizeLine
theorem Shows.to {K : PySem.W.Frag} {H H' : Hp} {v : V} {d : PyData} (h : Shows K H v d) (s : Same H H') : Shows K H' v d := ⟨h.dq.to s, h.nl, h.sh, h.dp, h.sz⟩
end K1
namespace K1
open PySem L2 PySem.Spec PyProof.Rows
section
variable {X : Cx} {pins : List (Addr × Obj)} {σ : L2.St} {H : Hp} {s : Shared}
/-- what a set of tuples is when one more has come -/
def More (L L' : List (Addr × List Int)) (x : Addr) (k : List Int) : Prop := (k ∈ L.map (·.2) → L' = L) ∧ (k ∉ L.map (·.2) → L'.Perm ((x, k) :: L))
/-- D.add(a tuple of ints) -/
theorem addT_ok {E : Value → Shared → Prop} {Q : Value → Shared → Prop} {D x : Addr} {k : List Int} {L : List (Addr × List Int)} (I : Inv X pins σ H s) (hD : H D = some (SetTO X.prog X.w D L)) (hL : ∀ p ∈ L, SqT X.K H p.1 (p.2.map V.int)) (hx : SqT X.K H x (k.map V.int))
    (hu : X.A.units + 64 < cLine) (few : L.length + 1 < 64) (h : ∀ s' L', Inv X pins σ (upd H D (SetTO X.prog X.w D L')) s' → More L L' x k → Q .none s') : wpAny (model X.prog X.w) X.A (call (.builtin "set.add") [.ref D, .ref x]) Q E s := by
  have R0 : SetT0 X.prog X.w s.heap D L := (I.hok D _ hD).1
  obtain ⟨es, ep, t, R⟩ := R0.full fun p hp => I.isT (hL p hp)
  obtain ⟨o, ho, hex, hd⟩ := R.ob
  refine wpAny_call_entry F.slot_set_add ⟨o, ho, hex.1⟩ F.entry_set_add ?_ (F.args_set_add_2 _ _)
  unfold Builtin.«set.add» Builtin.Frozenset.oneOther
  simp only [List.isEmpty_nil, bind_assoc]
  unfold Builtin.Frozenset.addrOf setAdd
  refine wpAny_bind (wpAny_pure ?_)
  try dsimp only
  refine wpAny_bind (wpAny_pure ?_)
  try dsimp only
  refine wpAny_bind ?_
  refine wpAny_holding ?_
  refine wpAny_bind (wpAny_pyHash_tuple (by show X.A.units + 1 < cLine; omega) (I.isT hx) ?_)
  refine add_at (s := { s with toks := s.toks + (k.length + 1) }) R (I.isT hx) (by show X.A.units + 1 < cLine; omega) few fun b h' L' es' ep' t' sb R' c1 c2 => ?_
  show wpAny _ _ (ret Value.none) _ _ _
  have he : ∃ u, h'.get? D = some u := by
    obtain ⟨o', ho', _⟩ := R'.ob
    exact ⟨o', ho'⟩
  exact wpAny_pure ⟨_, rfl, h _ L' (I.write (e := D) (t' := s.toks + (k.length + 1)) (by rw [hD]; trivial) (.inl rfl) (fun b u hb hu => (sb.2 b hb).trans hu) he (setTO_new R'.t0)) ⟨c1, c2⟩⟩
end
end K1
namespace K1
open PySem L2 PySem.Spec PyProof.Rows
abbrev newSetO (w : World) : Obj := { cls := .type "set", dict := none, data := .set #[] 0 (.fresh 0 0 (!w.params.followText "set-order")) }
/-- what one turn of the comprehension asks: the item is a tuple of ints -/
def tAdd (K : PySem.W.Frag) (P : Program) (w : World) (D : Addr) (te : TE) (Nx : Hp → Prop) : L2.St → Hp → Prop := fun σ H => te σ H fun y H4 =>
  ∃ (x : Addr) (k : List Int) (L : List (Addr × List Int)), y = .ref x ∧ H4 D = some (SetTO P w D L) ∧ (∀ p ∈ L, SqT K H4 p.1 (p.2.map V.int)) ∧ SqT K H4 x (k.map V.int) ∧ L.length + 1 < 64 ∧ ∀ L', More L L' x k → Nx (upd H4 D (SetTO P w D L'))
/-- {e for t in xs if ..}, e a tuple of ints -/
def tScT (K : PySem.W.Frag) (P : Program) (w : World) (wi : TI) (g : TG) (tt : TT) (te : TE) (vs : List Nat) : TE := fun σ H Q => wi σ H fun J H1 => ∀ D, H1 D = none → ∃ W : Nat → Nat → Hp → Prop, (∃ m, W 0 m (upd H1 D (SetTO P w D []))) ∧ ∀ i m H, W i m H →
  (J.stop i H ∧ Q (.ref D) H) ∨ (J.go i H ∧ ∃ Nx : Hp → Prop, (∀ H', Nx H' → ∃ m', m' < m ∧ W (i + 1) m' H') ∧ ∀ x H', J.yld i H x H' → g x (wipe σ vs) H' fun σ2 H2 => wipe σ2 vs = wipe σ vs ∧ tt σ2 H2 fun b H3 => if b = true then tAdd K P w D te Nx σ2 H3 else Nx H3)
section
variable {X : Cx}
theorem pe_scT {elt tg iter : Expr} {ifs : List Expr} {scope : Scope} {own : List (PySem.Str × Nat)} {pos : Pos} {wi : TI} {g : TG} {tt : TT} {te : TE} (hc : X.calm = true) (hu : X.A.units + 64 < cLine) (hN : X.N.Nodup) (hi : PI X tg iter wi) (ok : BlkOk X.N X.env.scope scope own)
    (hg : ∀ (s : Shared) (H : Hp) (C : Addr) (cl : List (PySem.Str × Addr)) (fp : List Addr), PG (X.blk s H scope (compEnvC scope cl C X.env) fp) tg g) (ht : ∀ (s : Shared) (H : Hp) (C : Addr) (cl : List (PySem.Str × Addr)) (fp : List Addr), PTs (X.blk s H scope (compEnvC scope cl C X.env) fp) ifs tt)
    (he : ∀ (s : Shared) (H : Hp) (C : Addr) (cl : List (PySem.Str × Addr)) (fp : List Addr), PE (X.blk s H scope (compEnvC scope cl C X.env) fp) elt te) (hs : ∀ x, foldedSetIterable iter X.env x = pure x := by intro _; rfl) :
    PE X (.SetComp elt [⟨tg, iter, ifs, 0⟩] scope pos) (tScT X.K X.prog X.w wi g tt te (own.map (·.2))) := by
  refine ⟨fun pins s σ H Q I h => ?_⟩
  rw [PpSet.eval_SetComp]
  have cells : ∀ y ∈ scope.names, y.2 = .free → ∃ c, X.env.cells.lookup y.1 = some c := fun y hy e => (ok.free y hy e).elim (fun k => I.ok.has _ (.inl k)) fun k => I.ok.has _ (.inr k)
  refine wpAny_comprehension_free rfl hs (closure_ok cells) ok.kind (fun y hy e => by rw [ok.uniq y hy, e]) (thn (hi.run pins s σ H _ I h) fun xv s1 hx => thn hx fun itv s2 h2 => ?_)
  obtain ⟨it, fp, tn, J, H2, e, I2, T, st2, f2, q⟩ := h2
  subst e
  refine PpSet.newSet_ok (newEnv_comp ?_)
  -- D: the new set
  generalize hD : s2.heap.objs.size = D
  obtain ⟨W, ⟨m0, w0⟩, turn⟩ := q D (I2.hok.fresh (Nat.le_of_eq hD))
  obtain ⟨s3, hs3, h3⟩ : ∃ s3 : Shared, ({ s2 with heap := s2.heap.push (newSetO X.w) } : Shared) = s3 ∧ s3.heap = s2.heap.push (newSetO X.w) := ⟨_, rfl, rfl⟩
  have push : ∀ b o, s2.heap.get? b = some o → s3.heap.get? b = some o := fun b o e => by
    rw [h3]
    exact Heap.get?_push_of_some _ e
  have I3 : Inv X pins σ (upd H2 D (SetTO X.prog X.w D [])) s3 := by
    rw [← hs3]
    refine I2.laid (t' := s2.toks) (fun b o e => Heap.get?_push_of_some _ e) (Nat.le_of_eq hD) ?_
    rw [← hD]
    exact setTO_new (setTR_fresh (P := X.prog) (w := X.w) (Heap.get?_push_size _ rfl)).t0
  have small : ∀ b ∈ fp, b < s2.heap.objs.size := fun b hb => by
    obtain ⟨o, e, _⟩ := T.obj _ _ st2 b hb
    exact Heap.lt_size e
  have f3 : ∀ b ∈ fp, FpOk X pins (upd H2 D (SetTO X.prog X.w D [])) b ∧ b < s3.heap.objs.size := fun b hb => by
    have lt := small b hb
    have nD : b ≠ D := by
      rw [← hD]
      exact Nat.ne_of_lt lt
    exact ⟨⟨by rw [upd_ne nD]; exact (f2 b hb).1, (f2 b hb).2⟩, by rw [h3, Heap.size_push]; exact Nat.lt_succ_of_lt lt⟩
  have st3 : tn 0 s3.heap := T.keep _ _ _ st2 fun b _ o e => push b o e
  have I4 := block_start I3 ok hN f3
  generalize hcl : cellsFrom (s3.heap.objs.size + 1) scope.names (cloFrom X.env.cells scope.names []) = cl at I4
  have pg := hg s3 (upd H2 D (SetTO X.prog X.w D [])) s3.heap.objs.size cl fp
  have pt := ht s3 (upd H2 D (SetTO X.prog X.w D [])) s3.heap.objs.size cl fp
  have pe := he s3 (upd H2 D (SetTO X.prog X.w D [])) s3.heap.objs.size cl fp
  rw [hs3, hcl]
  have nfp : ∀ b ∈ fp, (upd H2 D (SetTO X.prog X.w D [])) b = none := fun b hb => (f3 b hb).1.1
  obtain ⟨ce, hce, cL⟩ : ∃ ce : Env, compEnvC scope cl s3.heap.objs.size X.env = ce ∧ ce.locals = s3.heap.objs.size := ⟨_, rfl, rfl⟩
  show codeAny _ _ (.compStart (.SetComp elt [⟨tg, iter, ifs, 0⟩] scope pos) 0 (.ref it) (.ref D) (compEnvC scope cl s3.heap.objs.size X.env)) (compPost (model X.prog X.w) X.A X.xe none (EP X pins σ Q) (.ref D) s3.heap.objs.size) { s3 with heap := pushCells (s3.heap.push { cls := .type "dict", data := .dict #[] }) scope.names }
  rw [hce] at I4 pg pt pe ⊢
  generalize upd H2 D (SetTO X.prog X.w D []) = H3 at I3 I4 pg pt pe w0 nfp f3
  obtain ⟨s4, hs4, h4⟩ : ∃ s4 : Shared, ({ s3 with heap := pushCells (s3.heap.push { cls := .type "dict", data := .dict #[] }) scope.names } : Shared) = s4 ∧ s4.heap = pushCells (s3.heap.push { cls := .type "dict", data := .dict #[] }) scope.names := ⟨_, rfl, rfl⟩
  rw [hs4] at I4 ⊢
  have st4 : tn 0 s4.heap := T.keep _ _ _ st3 fun b _ o e => by
    rw [h4]
    exact pushCells_keeps _ _ _ _ (Heap.get?_push_of_some _ e)
  have rest : ∀ {σ' : L2.St} {H' : Hp} {s' : Shared}, Inv (X.blk s3 H3 scope ce fp) [] σ' H' s' → (∀ b ∈ fp, H' b = none) → ∀ b ∈ fp, FpOk (X.blk s3 H3 scope ce fp) [] H' b := fun I' hn b hb =>
    ⟨hn b hb, (I'.ok.exf b hb).1, I'.ok.exfs b hb, .inl hb, fun x c e => (I'.ok.exf b hb).2 x c e, fun p hp => absurd (show p ∈ ([] : List (Addr × Obj)) ++ [] from hp) (by simp)⟩
  -- the block's turns
  have loop : codeAny (model X.prog X.w) X.A (.compLoop (.SetComp elt [⟨tg, iter, ifs, 0⟩] scope pos) 0 (.ref it) (.ref D) ce) (compPost (model X.prog X.w) X.A X.xe none (EP X pins σ Q) (.ref D) s3.heap.objs.size) s4 := by
    refine PpSet.compLoopS_any (fun n s' => ∃ i H', Inv (X.blk s3 H3 scope ce fp) [] (wipe σ (own.map (·.2))) H' s' ∧ tn i s'.heap ∧ (∀ b ∈ fp, H' b = none) ∧ W i n H') ?_ m0 ⟨0, H3, I4, st4, nfp, w0⟩
    rintro n s5 ⟨i, H5, I5, st5, n5, w5⟩
    rcases turn i n H5 w5 with ⟨stop, qq⟩ | ⟨go, Nx, next, step⟩
    · refine thnF (T.done (X.blk s3 H3 scope ce fp) rfl rfl rfl hc i [] s5 _ H5 (fun _ _ => False) I5 (rest I5 n5) st5 stop) fun r s6 ⟨hr, I6⟩ => ?_
      subst hr
      have I7 : Inv X pins σ H5 s6 := I3.call' (ch := fp) I6.os I6.base I6.hok I6.bare fun b hb => ⟨(f3 b hb).1.2.2.2.1, (f3 b hb).1.2.1, (f3 b hb).1.2.2.2.2.1, (f3 b hb).1.2.2.2.2.2⟩
      have nC : H5 s3.heap.objs.size = none := by
        rw [← cL]
        exact I6.free
      obtain ⟨m, hn, _⟩ := I6.loc
      have hn' : s6.heap.Ns s3.heap.objs.size m := by
        rw [← cL]
        exact hn
      obtain ⟨g0, g1, g2, g3, g4, g5⟩ := I3.fpOk (Nat.le_refl _) nC
      exact ⟨m, hn', fun h'' sb => ⟨.ref D, H5, I7.turned (t' := s6.toks) (fun b o hb e => (sb.2 b hb).trans e) g0 g1 g3 g4 g5, rfl, qq⟩⟩
    · refine thnF (T.item (X.blk s3 H3 scope ce fp) rfl rfl rfl hc i [] s5 _ H5 (fun _ _ => False) I5 (rest I5 n5) st5 go) fun r s6 ⟨u, hr, h6⟩ => ?_
      subst hr
      refine thnF h6 fun _ s7 ⟨x, H7, I7, r7, y7, st7, n7⟩ => ?_
      refine thnF (pg.run _ s7 _ H7 x u _ (I7.pinned (rest I7 n7) (T.obj _ _ st7)) r7 (step x H7 y7)) fun _ s8 ⟨σ8, H8, I8, hw8, q8⟩ => ?_
      refine thnF (pt.run _ s8 σ8 H8 _ I8 q8) fun b s9 ⟨H9, I9, q9⟩ => ?_
      have fin : ∀ {s' : Shared} {H' : Hp}, Inv (X.blk s3 H3 scope ce fp) ([] ++ pinsAt fp s7.heap) σ8 H' s' → Nx H' → ∃ m, m < n ∧ ∃ i H', Inv (X.blk s3 H3 scope ce fp) [] (wipe σ (own.map (·.2))) H' s' ∧ tn i s'.heap ∧ (∀ b ∈ fp, H' b = none) ∧ W i m H' := fun {s' H'} I' nx => by
        obtain ⟨m', hm, w'⟩ := next H' nx
        have pin : ∀ b ∈ fp, ∀ o, s7.heap.get? b = some o → s'.heap.get? b = some o ∧ H' b = none := fun b hb o e =>
          have z := I'.pin (b, o) (List.mem_append_right _ (List.mem_append_right _ (mem_pinsAt hb e)))
          ⟨z.1, z.2.1⟩
        refine ⟨m', hm, i + 1, H', (I'.unpinned (pins := [])).weak (by rw [← hw8, wipe_length]) (fun j v e => ?_), T.keep _ _ _ st7 fun b hb o e => (pin b hb o e).1, fun b hb => ?_, w'⟩
        · rw [← hw8] at e
          exact (wipe_some e).1
        · obtain ⟨o, e, _⟩ := T.obj _ _ st7 b hb
          exact (pin b hb o e).2
      cases b with
      | false =>
        simp only [Bool.false_eq_true, if_false] at q9 ⊢
        exact fin I9 q9
      | true =>
        simp only [if_true] at q9 ⊢
        refine thnF (pe.run _ s9 σ8 H9 _ I9 q9) fun z s10 ⟨yv, H10, I10, r10, x', k', L', ey, hD10, hL10, hx10, few, nx⟩ => ?_
        subst ey
        cases (show z = Value.ref x' from r10)
        exact addT_ok (X := X.blk s3 H3 scope ce fp) I10 hD10 hL10 hx10 hu few fun s11 L2' I11 mr => fin I11 (nx L2' mr)
  exact PpSet.codeAny_compStart_set loop (T.self X.A 0 _ _ _ st4 loop)
end
end K1
namespace K1
open PySem L2
def isUse : PyData → Bool
  | .str x => decide (x = "use")
  | _ => false
def namedM : List PyData → List PyData
  | [k, u, _, c] => if isUse k = true then [u, c] else [u]
  | _ => []
def namedO (x : Str) : List PyData → List PyData
  | a :: b :: _ => if x = "move" ∨ x = "point" then [a, b] else [a]
  | r => r
/-- the things that a right body names, None among them -/
def namedD (x : Str) (r : List PyData) : List PyData := if x = "make" then namedM r else namedO x r
def spNamed (K : PySem.W.Frag) : Sp := fun vs H Q _ => ∃ v x r, vs = [v] ∧ DQ K H v (.tuple (.str x :: r)) ∧ bodyR x r = true ∧ ∀ p us H', Same H H' → H p = none → H' p = some (.lst us) → DQs K H' us (namedD x r) → Q (.ref p) H'
theorem bodyR_ne {x : Str} {r : List PyData} (h : bodyR x r = true) (c1 : ¬ x = "make") : (r.length = 1 ∧ ¬ (x = "move" ∨ x = "point")) ∨ (r.length = 3 ∧ x = "move") ∨ r.length = 2 := by
  unfold bodyR at h
  rw [if_neg c1] at h
  by_cases c2 : x = "move"
  · rw [if_pos c2] at h
    by_cases z : r.length = 3
    · exact .inr (.inl ⟨z, c2⟩)
    · rw [moveR_ne z] at h
      cases h
  · rw [if_neg c2] at h
    by_cases c3 : x = "drop"
    · rw [if_pos c3] at h
      by_cases z : r.length = 1
      · refine .inl ⟨z, fun q => ?_⟩
        rcases q with q | q
        · exact c2 q
        · rw [c3] at q
          revert q
          decide +kernel
      · rw [dropR_ne z] at h
        cases h
    · rw [if_neg c3] at h
      by_cases c4 : x = "undo" ∨ x = "redo"
      · rw [if_pos c4] at h
        by_cases z : r.length = 1
        · refine .inl ⟨z, fun q => ?_⟩
          rcases q with q | q
          · exact c2 q
          · rw [q] at c4
            revert c4
            decide +kernel
        · rw [markR_ne z] at h
          cases h
      · rw [if_neg c4] at h
        by_cases z : r.length = 2
        · exact .inr (.inr z)
        · rw [writeR_ne z] at h
          cases h
section
variable {P : Program} {w : World} {K : PySem.W.Frag} {mg : Str → Option Value} {base : Heap}
theorem in_two (x : Str) : inV (.str x) [.str "move", .str "point"] = decide (x = "move" ∨ x = "point") := by
  have c : ∀ y : Str, eqV (.str y) (.str x) = decide (x = y) := fun y => by
    show (y == x) = _
    rw [Bool.eq_iff_iff, beq_iff_eq, decide_eq_true_eq]
    exact ⟨Eq.symm, Eq.symm⟩
  unfold inV
  rw [List.any_cons, List.any_cons, List.any_nil, c, c, Bool.or_false, Bool.decide_or]
theorem sc_named : FnScope ["body"] ["body"] (defScope (top 37)) := ⟨rfl, rfl, rfl, by decide +kernel, rfl, by decide +kernel, by decide +kernel⟩
theorem cl_named (T : All K mg) : Cl P w K mg base 1 "_named_things" ["body"] (spNamed K) := by
  obtain ⟨g, fd, D⟩ := T.dn 37 _ _ rfl
  refine D.cl (D.fn.ok sc_named (fun vs H Q E h => ?_) (fun cdv A outer s H vs Q E hr h => ?_))
  · obtain ⟨v, x, r, rfl, _⟩ := h
    rfl
  · obtain ⟨v, x, r, rfl, hd, hb, k⟩ := h
    refine ⟨_, (pss_cons (ps_if (pt_cmpR op_eq (pe_ix ix_tup (pv 0) pe_int (fun _ _ => rfl)) pe_str (nomark _)) (pss_one (ps_ret (pe_ifExp (pt_cmpR op_eq (pe_ix ix_tup (pv 0) pe_int (fun _ _ => rfl)) pe_str (nomark _)) (pe_lst (pa_cons (pe_ix ix_tup (pv 0) pe_int (fun _ _ => rfl)) (pa_cons (pe_ix ix_tup (pv 0) pe_int (fun _ _ => rfl)) pa_nil))) (pe_lst (pa_cons (pe_ix ix_tup (pv 0) pe_int (fun _ _ => rfl)) pa_nil))))) pss_nil)
      (pss_one (ps_ret (pe_ifExp (pt_cmpR op_in_seq (pe_ix ix_tup (pv 0) pe_int (fun _ _ => rfl)) (pe_tup (pa_cons pe_str (pa_cons pe_str pa_nil))) rfl) (pe_lst (pa_cons (pe_ix ix_tup (pv 0) pe_int (fun _ _ => rfl)) (pa_cons (pe_ix ix_tup (pv 0) pe_int (fun _ _ => rfl)) pa_nil))) (pe_lst (pa_cons (pe_ix ix_tup (pv 0) pe_int (fun _ _ => rfl)) pa_nil)))))), ?_⟩
    obtain ⟨a, ys0, u0, rfl, ht0, i0, q0⟩ := hd.item (i := 0) rfl
    cases q0
    refine ⟨_, rfl, a, ys0, _, _, rfl, rfl, ht0, i0, rfl, _, rfl, ?_⟩
    rw [dec_str]
    by_cases c1 : x = "make"
    · have kn : namedD x r = namedM r := by
        unfold namedD
        rw [if_pos c1]
      rw [kn] at k
      have hm : makeR r = true := by
        unfold bodyR at hb
        rw [if_pos c1] at hb
        exact hb
      have z : r.length = 4 := Classical.byContradiction fun z => by
        rw [makeR_ne z] at hm
        cases hm
      obtain ⟨d1, d2, d3, d4, rfl⟩ := list4 z
      rw [decide_eq_true c1]
      obtain ⟨p1, ys1, u1, e, ht1, i1, q1⟩ := hd.item (i := 1) rfl
      cases e
      obtain ⟨p2, ys2, u2, e, ht2, i2, q2⟩ := hd.item (i := 2) rfl
      cases e
      obtain ⟨p4, ys4, u4, e, ht4, i4, q4⟩ := hd.item (i := 4) rfl
      cases e
      have hk : ∃ y, d1 = .str y := by
        have em : makeR [d1, d2, d3, d4] = (thingD d2 && (fromD 0 999 d3 && contentD d1 d4)) := rfl
        rw [em, Bool.and_eq_true, Bool.and_eq_true] at hm
        have hc := hm.2.2
        cases d1 with
        | str y => exact ⟨y, rfl⟩
        | _ => cases hc
      obtain ⟨y, rfl⟩ := hk
      cases q1
      refine iteT ⟨_, rfl, a, ys1, _, _, rfl, rfl, ht1, i1, rfl, _, rfl, ?_⟩
      rw [dec_str]
      have kn2 : namedM [.str y, d2, d3, d4] = if decide (y = "use") = true then [d2, d4] else [d2] := rfl
      rw [kn2] at k
      by_cases c2 : y = "use"
      · rw [decide_eq_true c2] at k ⊢
        rw [if_pos rfl] at k
        refine iteT ⟨_, rfl, a, ys2, _, u2, rfl, rfl, ht2, i2, _, rfl, a, ys4, _, u4, rfl, rfl, ht4, i4, (by show 2 ≤ sizeLine; rw [sizeLine_eq]; decide), fun p new => ?_⟩
        have S := K0.same_upd (o := .lst [u2, u4]) new
        exact k p _ _ S new upd_same (.cons (q2.to S) (.cons (q4.to S) .nil))
      · rw [decide_eq_false c2] at k ⊢
        rw [if_neg Bool.false_ne_true] at k
        refine iteF ⟨_, rfl, a, ys2, _, u2, rfl, rfl, ht2, i2, (by show 1 ≤ sizeLine; rw [sizeLine_eq]; decide), fun p new => ?_⟩
        have S := K0.same_upd (o := .lst [u2]) new
        exact k p _ _ S new upd_same (.cons (q2.to S) .nil)
    · have kn : namedD x r = namedO x r := by
        unfold namedD
        rw [if_neg c1]
      rw [kn] at k
      rw [decide_eq_false c1]
      refine iteF ⟨_, rfl, a, ys0, _, _, rfl, rfl, ht0, i0, (by show 2 ≤ sizeLine; rw [sizeLine_eq]; decide), fun p new => ⟨p, _, rfl, .inr (.inl (.inl upd_same)), rfl, rfl, _, rfl, ?_⟩⟩
      have S1 := K0.same_upd (o := .tup [.str "move", .str "point"]) new
      show if inV (.str x) _ = true then _ else _
      rw [in_two]
      generalize upd H p (.tup [.str "move", .str "point"]) = H1 at S1 ⊢
      have hd1 := hd.to S1
      have nH : ∀ q, H1 q = none → H q = none := fun q hq => by
        cases e : H q with
        | none => rfl
        | some u =>
          rw [S1 q u e] at hq
          cases hq
      rcases bodyR_ne hb c1 with ⟨z, nm⟩ | ⟨z, mv⟩ | z
      · obtain ⟨d1, rfl⟩ := list1 z
        rw [decide_eq_false nm]
        obtain ⟨p1, ys1, u1, e, ht1, i1, q1⟩ := hd1.item (i := 1) rfl
        cases e
        refine iteF ⟨_, rfl, a, ys1, _, u1, rfl, rfl, ht1, i1, (by show 1 ≤ sizeLine; rw [sizeLine_eq]; decide), fun q new' => ?_⟩
        have S := K0.same_upd (o := .lst [u1]) new'
        exact k q _ _ (S1.trans S) (nH q new') upd_same (.cons (q1.to S) .nil)
      all_goals
        obtain ⟨d1, d2, r2, rfl⟩ : ∃ d1 d2 r2, r = d1 :: d2 :: r2 := by
          match r, z with
          | d1 :: d2 :: r2, _ => exact ⟨d1, d2, r2, rfl⟩
        have kn3 : namedO x (d1 :: d2 :: r2) = if x = "move" ∨ x = "point" then [d1, d2] else [d1] := rfl
        rw [kn3] at k
        obtain ⟨p1, ys1, u1, e, ht1, i1, q1⟩ := hd1.item (i := 1) rfl
        cases e
        obtain ⟨p2, ys2, u2, e, ht2, i2, q2⟩ := hd1.item (i := 2) rfl
        cases e
        by_cases c2 : x = "move" ∨ x = "point"
        · rw [if_pos c2] at k
          rw [decide_eq_true c2]
          refine iteT ⟨_, rfl, a, ys1, _, u1, rfl, rfl, ht1, i1, _, rfl, a, ys2, _, u2, rfl, rfl, ht2, i2, (by show 2 ≤ sizeLine; rw [sizeLine_eq]; decide), fun q new' => ?_⟩
          have S := K0.same_upd (o := .lst [u1, u2]) new'
          exact k q _ _ (S1.trans S) (nH q new') upd_same (.cons (q1.to S) (.cons (q2.to S) .nil))
        · rw [if_neg c2] at k
          rw [decide_eq_false c2]
          refine iteF ⟨_, rfl, a, ys1, _, u1, rfl, rfl, ht1, i1, (by show 1 ≤ sizeLine; rw [sizeLine_eq]; decide), fun q new' => ?_⟩
          have S := K0.same_upd (o := .lst [u1]) new'
          exact k q _ _ (S1.trans S) (nH q new') upd_same (.cons (q1.to S) .nil)
end
end K1
namespace K1
open PySem L2
theorem rising_unique {α : Type} (f : α → Int) : ∀ {l m : List α}, l.Pairwise (fun a b => f a < f b) → m.Pairwise (fun a b => f a < f b) → (∀ x, x ∈ l ↔ x ∈ m) → l = m
  | [], [], _, _, _ => rfl
  | [], b :: m, _, _, h => absurd ((h b).mpr List.mem_cons_self) List.not_mem_nil
  | a :: l, [], _, _, h => absurd ((h a).mp List.mem_cons_self) List.not_mem_nil
  | a :: l, b :: m, hl, hm, h => by
    rw [List.pairwise_cons] at hl hm
    have e : a = b := by
      rcases List.mem_cons.mp ((h a).mp List.mem_cons_self) with z | z
      · exact z
      · rcases List.mem_cons.mp ((h b).mpr List.mem_cons_self) with y | y
        · exact y.symm
        · have h1 := hm.1 a z
          have h2 := hl.1 b y
          omega
    subst e
    rw [rising_unique f hl.2 hm.2 fun x => ?_]
    constructor
    · intro hx
      rcases List.mem_cons.mp ((h x).mp (List.mem_cons_of_mem _ hx)) with z | z
      · have := hl.1 x hx
        rw [z] at this
        omega
      · exact z
    · intro hx
      rcases List.mem_cons.mp ((h x).mpr (List.mem_cons_of_mem _ hx)) with z | z
      · have := hm.1 x hx
        rw [z] at this
        omega
      · exact z
/-- the numbers of a thing that is no root -/
def keyOf : PyData → Option (List Int)
  | .tuple [.int a, .int b] => if a = 0 ∧ b = 0 then none else some [a, b]
  | _ => none
def keysOf (nm : List PyData) : List (List Int) := nm.filterMap keyOf
def pairD (k : List Int) : PyData := .tuple (k.map .int)
def lt1000 (j k : List Int) : Prop := TS.code 1000 j < TS.code 1000 k
theorem code2 (x y : Int) : TS.code 1000 [x, y] = x * 1000 + y := by
  have e1 : (1000 : Int) ^ 1 = 1000 := by decide
  have e0 : (1000 : Int) ^ 0 = 1 := by decide
  show x * 1000 ^ 1 + (y * 1000 ^ 0 + 0) = x * 1000 + y
  rw [e1, e0, Int.mul_one, Int.add_zero]
/-- a thing, None, or the root -/
theorem thing_int {d : PyData} (h : thingD d = true) : ∃ a b : Int, d = .tuple [.int a, .int b] ∧ (0 ≤ a ∧ a < 1000) ∧ 0 ≤ b ∧ b < 1000 := by
  unfold thingD at h
  rw [Bool.or_eq_true] at h
  rcases h with h | h
  · obtain ⟨t, j, rfl, h1, h2⟩ := stamp_int h
    exact ⟨t, j, rfl, by omega, by omega⟩
  · cases e : tupD 2 d with
    | false =>
      rw [(not_stamp e).2] at h
      cases h
    | true =>
      obtain ⟨a, b, rfl⟩ := tup2 e
      rw [root_of, Bool.and_eq_true] at h
      obtain ⟨t, rfl, h1⟩ := from_int h.1
      obtain ⟨j, rfl, h2⟩ := from_int h.2
      exact ⟨t, j, rfl, by omega, by omega⟩
def noneOrPair (d : PyData) : Prop := d = .none ∨ ∃ a b : Int, d = .tuple [.int a, .int b] ∧ (0 ≤ a ∧ a < 1000) ∧ 0 ≤ b ∧ b < 1000
theorem binder_pair {d : PyData} (h : binderD d = true) : noneOrPair d := by
  cases e : noneD d with
  | true =>
    cases d with
    | none => exact .inl rfl
    | _ => cases e
  | false =>
    rw [binder_some e] at h
    exact .inr (thing_int h)
theorem thing_pair {d : PyData} (h : thingD d = true) : noneOrPair d := .inr (thing_int h)
theorem named_pairs {x : Str} {r : List PyData} (h : bodyR x r = true) : ∀ d ∈ namedD x r, noneOrPair d := by
  intro d hd
  unfold namedD at hd
  by_cases c1 : x = "make"
  · rw [if_pos c1] at hd
    unfold bodyR at h
    rw [if_pos c1] at h
    have z : r.length = 4 := Classical.byContradiction fun z => by
      rw [makeR_ne z] at h
      cases h
    obtain ⟨d1, d2, d3, d4, rfl⟩ := list4 z
    have em : makeR [d1, d2, d3, d4] = (thingD d2 && (fromD 0 999 d3 && contentD d1 d4)) := rfl
    rw [em, Bool.and_eq_true, Bool.and_eq_true] at h
    have kn2 : namedM [d1, d2, d3, d4] = if isUse d1 = true then [d2, d4] else [d2] := rfl
    rw [kn2] at hd
    cases e : isUse d1 with
    | false =>
      rw [e, if_neg Bool.false_ne_true, List.mem_singleton] at hd
      rw [hd]
      exact thing_pair h.1
    | true =>
      rw [e, if_pos rfl] at hd
      rcases List.mem_cons.mp hd with z | z
      · rw [z]
        exact thing_pair h.1
      · rw [List.mem_singleton.mp z]
        cases d1 with
        | str y =>
          have ey : y = "use" := of_decide_eq_true e
          have hc := h.2.2
          subst ey
          exact binder_pair hc
        | _ => cases e
  · rw [if_neg c1] at hd
    unfold bodyR at h
    rw [if_neg c1] at h
    by_cases c2 : x = "move"
    · rw [if_pos c2] at h
      have z : r.length = 3 := Classical.byContradiction fun z => by
        rw [moveR_ne z] at h
        cases h
      obtain ⟨d1, d2, d3, rfl⟩ := list3 z
      have em : moveR [d1, d2, d3] = (thingD d1 && (thingD d2 && fromD 0 999 d3)) := rfl
      rw [em, Bool.and_eq_true, Bool.and_eq_true] at h
      have kn : namedO x [d1, d2, d3] = if x = "move" ∨ x = "point" then [d1, d2] else [d1] := rfl
      rw [kn, if_pos (.inl c2)] at hd
      rcases List.mem_cons.mp hd with z | z
      · rw [z]
        exact thing_pair h.1
      · rw [List.mem_singleton.mp z]
        exact thing_pair h.2.1
    · rw [if_neg c2] at h
      by_cases c3 : x = "drop"
      · rw [if_pos c3] at h
        have z : r.length = 1 := Classical.byContradiction fun z => by
          rw [dropR_ne z] at h
          cases h
        obtain ⟨d1, rfl⟩ := list1 z
        rw [List.mem_singleton.mp hd]
        exact thing_pair h
      · rw [if_neg c3] at h
        by_cases c4 : x = "undo" ∨ x = "redo"
        · rw [if_pos c4] at h
          have z : r.length = 1 := Classical.byContradiction fun z => by
            rw [markR_ne z] at h
            cases h
          obtain ⟨d1, rfl⟩ := list1 z
          rw [List.mem_singleton.mp hd]
          have hs : stampD d1 = true := h
          refine thing_pair ?_
          unfold thingD
          rw [hs, Bool.true_or]
        · rw [if_neg c4] at h
          have z : r.length = 2 := Classical.byContradiction fun z => by
            rw [writeR_ne z] at h
            cases h
          obtain ⟨d1, d2, rfl⟩ := list2 z
          have em : writeR x [d1, d2] = (thingD d1 && writeD (.str x) d2) := rfl
          rw [em, Bool.and_eq_true] at h
          have kn : namedO x [d1, d2] = if x = "move" ∨ x = "point" then [d1, d2] else [d1] := rfl
          rw [kn] at hd
          by_cases c5 : x = "move" ∨ x = "point"
          · rw [if_pos c5] at hd
            rcases List.mem_cons.mp hd with z | z
            · rw [z]
              exact thing_pair h.1
            · rw [List.mem_singleton.mp z]
              have hp : x = "point" := c5.resolve_left c2
              have hw := h.2
              rw [hp] at hw
              exact binder_pair hw
          · rw [if_neg c5, List.mem_singleton] at hd
            rw [hd]
            exact thing_pair h.1
end K1
namespace K1
open PySem L2
/-- over a list that stands still -/
theorem sc_listT {K : PySem.W.Frag} {P : Program} {w : World} {a : Addr} {xs : List V} {g : TG} {tt : TT} {te : TE} {vs : List Nat} {σ : St} {H1 : Hp} {D : Addr} {Qd : Hp → Prop} (Pv : Nat → Hp → Prop) (h0 : Pv 0 (upd H1 D (SetTO P w D []))) (hl : ∀ i H, i ≤ xs.length → Pv i H → SqL K H a xs)
    (hs : ∀ i x H, xs[i]? = some x → Pv i H → g x (wipe σ vs) H fun σ2 H2 => wipe σ2 vs = wipe σ vs ∧ tt σ2 H2 fun b H3 => if b = true then tAdd K P w D te (Pv (i + 1)) σ2 H3 else Pv (i + 1) H3) (hd : ∀ H, Pv xs.length H → Qd H) :
    ∃ W : Nat → Nat → Hp → Prop, (∃ m, W 0 m (upd H1 D (SetTO P w D []))) ∧ ∀ i m H, W i m H →
      ((Itl K a).stop i H ∧ Qd H) ∨ ((Itl K a).go i H ∧ ∃ Nx : Hp → Prop, (∀ H', Nx H' → ∃ m', m' < m ∧ W (i + 1) m' H') ∧ ∀ x H', (Itl K a).yld i H x H' → g x (wipe σ vs) H' fun σ2 H2 => wipe σ2 vs = wipe σ vs ∧ tt σ2 H2 fun b H3 => if b = true then tAdd K P w D te Nx σ2 H3 else Nx H3) := by
  refine ⟨fun i m H => m = xs.length - i ∧ i ≤ xs.length ∧ Pv i H, ⟨_, rfl, Nat.zero_le _, h0⟩, ?_⟩
  rintro i m H ⟨rfl, hi, p⟩
  have q := hl i H hi p
  by_cases lt : i < xs.length
  · refine .inr ⟨⟨xs, xs[i], q, by simp [lt]⟩, Pv (i + 1), fun H' p' => ⟨_, by omega, rfl, lt, p'⟩, fun x H' ⟨e, y⟩ => ?_⟩
    subst e
    exact hs i x _ (y xs q) p
  · obtain rfl : i = xs.length := by omega
    exact .inl ⟨⟨xs, q, Nat.le_refl _⟩, hd H p⟩
def spKeys (K : PySem.W.Frag) : Sp := fun vs H Q _ => ∃ v x r, vs = [v] ∧ DQ K H v (.tuple (.str x :: r)) ∧ bodyR x r = true ∧
  ∀ p us (ks : List (List Int)) H', Same H H' → H' p = some (.lst us) → DQs K H' us (ks.map pairD) → ks.Pairwise lt1000 → (∀ k, k ∈ ks ↔ k ∈ keysOf (namedD x r)) → Q (.ref p) H'
theorem key_pair {d : PyData} {k : List Int} (hd : noneOrPair d) (h : keyOf d = some k) : ∃ a b, d = .tuple [.int a, .int b] ∧ k = [a, b] ∧ (0 ≤ a ∧ a < 1000) ∧ (0 ≤ b ∧ b < 1000) ∧ ¬ (a = 0 ∧ b = 0) := by
  rcases hd with rfl | ⟨a, b, rfl, h1, h2⟩
  · cases h
  · have z : (if a = 0 ∧ b = 0 then none else some [a, b]) = some k := h
    by_cases c : a = 0 ∧ b = 0
    · rw [if_pos c] at z
      cases z
    · rw [if_neg c] at z
      exact ⟨a, b, rfl, (Option.some.inj z).symm, h1, h2, c⟩
theorem eqv_root (a b : Int) : PyData.eqv (.tuple [.int a, .int b]) (.tuple [.int 0, .int 0]) = decide (a = 0 ∧ b = 0) := by
  rw [Bool.eq_iff_iff]
  simp [PyData.eqv, PyData.eqvAll]
theorem shaped_pair (a b : Int) : SeqAt.shaped (.tuple [.int a, .int b]) = true := by
  simp [SeqAt.shaped, PyData.canLay0, PyData.canLayAll0, PyData.depth, PyData.depthAll]
section
variable {P : Program} {w : World} {K : PySem.W.Frag} {mg : Str → Option Value} {base : Heap}
theorem DQ.pair {H : Hp} {v : V} {a b : Int} (h : DQ K H v (.tuple [.int a, .int b])) : ∃ q, v = .ref q ∧ SqT K H q [.int a, .int b] := by
  cases h with
  | tup h1 h2 =>
    cases h2 with
    | cons q1 h2 =>
      cases q1
      cases h2 with
      | cons q2 h2 =>
        cases q2
        cases h2
        exact ⟨_, rfl, h1⟩
theorem sc_names : FnScope ["body", "thing"] ["body"] (defScope (top 28)) := ⟨rfl, rfl, rfl, by decide +kernel, rfl, by decide +kernel, by decide +kernel⟩
theorem cl_names (T : All K mg) {aR : Addr} (mR : mg "ROOT" = some (.ref aR)) (tR : ∀ H, SqT K H aR [.int 0, .int 0]) (hsort : mg "sorted" = none) : Cl P w K mg base 2 "names_in" ["body"] (spKeys K) := by
  obtain ⟨g, fd, D⟩ := T.dn 28 _ _ rfl
  refine D.cl (D.fn.ok sc_names (fun vs H Q E h => ?_) (fun cdv A outer s H vs Q E hr h => ?_))
  · obtain ⟨v, x, r, rfl, _⟩ := h
    rfl
  · obtain ⟨v, x, r, rfl, hd, hb, k⟩ := h
    refine ⟨_, (pss_one (ps_ret (pe_callB (cr_sortedT rfl) (by rfl) hsort (by decide +kernel) (pa_cons (pe_scT (own := [("thing", 1)]) (g := gName 1) (tt := tAnd (tTest (tOp rNotN (tVar 1) (tC .non))) (tTest (tOp (rNeD K) (tVar 1) (tC (.ref aR))))) rfl hr.units sc_names.nd (pi_list (pe_cl (cl_named T) hr (by decide) (pa_cons (pv 0) pa_nil))) (blkOk_by (own := [("thing", 1)]) (N := [("body" : Str), ("thing" : Str)]) (sc := defScope (top 28)) (by decide +kernel)) (fun _ _ _ _ _ => pg_name (i := 1) sc_names.nd rfl (Or.inl rfl)) (fun _ _ _ _ _ => pts_one (PW.pt (pw_and (pt_cmpR op_notN1 (pv 1) pe_non (nomark _)) (pw_and1 (pt_cmpR (op_neD hr.units) (pv 1) (pe_glob (v := .ref aR) rfl mR rfl) (nomark _)))))) (fun _ _ _ _ _ => pv 1)) pa_nil)))), ?_⟩
    refine ⟨_, rfl, v, x, r, rfl, hd, hb, fun p us H1 S1 np hp hq => ⟨p, rfl, ⟨us, SqL.of hp⟩, fun Dd nD => ?_⟩⟩
    have hpairs := named_pairs hb
    have lenu := hq.len
    have few : us.length ≤ 2 := by
      rw [lenu]
      unfold namedD
      by_cases c1 : x = "make"
      · rw [if_pos c1]
        unfold namedM
        split
        · split <;> simp
        · simp
      · rw [if_neg c1]
        rcases bodyR_ne hb c1 with ⟨z, _⟩ | ⟨z, mv⟩ | z
        · obtain ⟨d1, rfl⟩ := list1 z
          show 1 ≤ 2
          omega
        all_goals
          obtain ⟨d1, d2, r2, rfl⟩ : ∃ d1 d2 r2, r = d1 :: d2 :: r2 := by
            match r, z with
            | d1 :: d2 :: r2, _ => exact ⟨d1, d2, r2, rfl⟩
          show (if x = "move" ∨ x = "point" then [d1, d2] else [d1]).length ≤ 2
          split <;> simp
    generalize hnm : namedD x r = nm at hq hpairs lenu k
    refine sc_listT (K := K) (a := p) (xs := us) (fun i H' => Same H1 H' ∧ ∃ L, H' Dd = some (SetTO P w Dd L) ∧ L.length ≤ i ∧ (∀ q ∈ L, SqT K H1 q.1 (q.2.map V.int)) ∧ ∀ k, k ∈ L.map (·.2) ↔ k ∈ keysOf (nm.take i))
      ⟨K0.same_upd nD, [], upd_same, Nat.le_refl _, fun q hq => absurd hq List.not_mem_nil, fun k => by simp [keysOf]⟩ (fun i H' _ ⟨S, _⟩ => S.seq (SqL.of hp)) ?_ ?_
    · rintro i u H' hu ⟨S, L, hL, hlen, hsq, hmem⟩
      refine ⟨rfl, ?_⟩
      obtain ⟨d, hnd, hdq⟩ := hq.at hu
      have hi := (List.getElem?_eq_some_iff.mp hu).1
      have hdp := hpairs d (List.mem_of_getElem? hnd)
      have tk : nm.take (i + 1) = nm.take i ++ [d] := by
        rw [List.take_succ, hnd]
        rfl
      have same : keyOf d = none → Same H1 H' ∧ ∃ L, H' Dd = some (SetTO P w Dd L) ∧ L.length ≤ i + 1 ∧ (∀ q ∈ L, SqT K H1 q.1 (q.2.map V.int)) ∧ ∀ k, k ∈ L.map (·.2) ↔ k ∈ keysOf (nm.take (i + 1)) := fun hn => by
        refine ⟨S, L, hL, Nat.le_succ_of_le hlen, hsq, fun k => ?_⟩
        rw [hmem k, tk]
        unfold keysOf
        rw [List.filterMap_append, List.filterMap_cons_none hn, List.filterMap_nil, List.append_nil]
      rcases hdp with rfl | ⟨a, b, rfl, ha, hbb⟩
      · cases hdq
        exact ⟨_, rfl, rfl, _, rfl, iteF (iteF (same rfl))⟩
      · obtain ⟨q, rfl, hsqt⟩ := hdq.pair
        refine ⟨_, rfl, rfl, _, rfl, iteT ⟨_, rfl, .tuple [.int a, .int b], .tuple [.int 0, .int 0], .tup (K0.seqT_same S hsqt) (.cons (.int a) (.cons (.int b) .nil)), .tup (tR _) (.cons (.int 0) (.cons (.int 0) .nil)), shaped_pair a b, shaped_pair 0 0, _, rfl, ?_⟩⟩
        rw [eqv_root]
        by_cases c : a = 0 ∧ b = 0
        · rw [decide_eq_true c]
          exact iteF (same (by show (if a = 0 ∧ b = 0 then none else some [a, b]) = none; rw [if_pos c]))
        · rw [decide_eq_false c]
          have hk : keyOf (.tuple [.int a, .int b]) = some [a, b] := by
            show (if a = 0 ∧ b = 0 then none else some [a, b]) = some [a, b]
            rw [if_neg c]
          refine iteT ⟨_, rfl, q, [a, b], L, rfl, hL, fun q' hq' => K0.seqT_same S (hsq q' hq'), K0.seqT_same S hsqt, by omega, fun L' mr => ?_⟩
          refine ⟨K0.same_over S nD, L', upd_same, ?_, fun q' hq' => ?_, fun k => ?_⟩
          · by_cases hm : [a, b] ∈ L.map (·.2)
            · rw [mr.1 hm]
              exact Nat.le_succ_of_le hlen
            · rw [(mr.2 hm).length_eq]
              exact Nat.succ_le_succ hlen
          · by_cases hm : [a, b] ∈ L.map (·.2)
            · rw [mr.1 hm] at hq'
              exact hsq q' hq'
            · rcases List.mem_cons.mp ((mr.2 hm).mem_iff.mp hq') with z | z
              · rw [z]
                exact hsqt
              · exact hsq q' z
          · rw [tk]
            unfold keysOf
            rw [List.filterMap_append, List.filterMap_cons_some hk, List.filterMap_nil, List.mem_append, List.mem_singleton]
            by_cases hm : [a, b] ∈ L.map (·.2)
            · rw [mr.1 hm, hmem k]
              exact ⟨fun z => .inl z, fun z => z.elim id fun z => by rw [z]; exact (hmem _).mp hm⟩
            · rw [((mr.2 hm).map (·.2)).mem_iff, List.map_cons, List.mem_cons, hmem k]
              exact Or.comm
    · rintro H' ⟨S, L, hL, hlen, hsq, hmem⟩
      rw [lenu, List.take_length] at hmem
      have pr : ∀ q ∈ L, ∃ a b : Int, q.2 = [a, b] ∧ (0 ≤ a ∧ a < 1000) ∧ 0 ≤ b ∧ b < 1000 := fun q hq' => by
        obtain ⟨d, hd1, hd2⟩ := List.mem_filterMap.mp ((hmem q.2).mp (List.mem_map.mpr ⟨q, hq', rfl⟩))
        obtain ⟨a, b, _, e, h1, h2, _⟩ := key_pair (hpairs d hd1) hd2
        exact ⟨a, b, e, h1, h2⟩
      refine ⟨Dd, L, 2, 1000, rfl, hL, fun q hq' => K0.seqT_same S (hsq q hq'), by decide, fun q hq' => ?_, fun L' p' pm nd _ pw np' => ?_⟩
      · obtain ⟨a, b, e, h1, h2⟩ := pr q hq'
        rw [e]
        refine ⟨rfl, fun m hm => ?_⟩
        rcases List.mem_cons.mp hm with z | z
        · rw [z]
          exact h1
        · rw [List.mem_singleton.mp z]
          exact h2
      · have S' : Same H' (upd H' p' (.lst (L'.map fun q => V.ref q.1))) := K0.same_upd np'
        refine k p' _ (L'.map (·.2)) _ ((S1.trans S).trans S') upd_same ?_ ?_ fun z => ?_
        · have all : ∀ M : List (Addr × List Int), (∀ q ∈ M, q ∈ L) → DQs K (upd H' p' (.lst (L'.map fun q => V.ref q.1))) (M.map fun q => V.ref q.1) ((M.map (·.2)).map pairD) := by
            intro M
            induction M with
            | nil => exact fun _ => .nil
            | cons q M ih =>
              intro hM
              obtain ⟨a, b, e, _⟩ := pr q (hM q List.mem_cons_self)
              have hs := hsq q (hM q List.mem_cons_self)
              rw [e] at hs
              refine .cons ?_ (ih fun q' h' => hM q' (List.mem_cons_of_mem _ h'))
              show DQ K _ (V.ref q.1) (pairD q.2)
              rw [e]
              exact .tup (K0.seqT_same (S.trans S') hs) (.cons (.int a) (.cons (.int b) .nil))
          exact all L' fun q hq' => pm.mem_iff.mp hq'
        · rw [List.pairwise_map]
          have nd' := List.pairwise_map.mp nd
          refine (pw.and nd').imp_of_mem fun {q r} hq' hr' h => ?_
          obtain ⟨a, b, e, h1, h2⟩ := pr q (pm.mem_iff.mp hq')
          obtain ⟨a', b', e', h1', h2'⟩ := pr r (pm.mem_iff.mp hr')
          obtain ⟨le, ne⟩ := h
          show TS.code 1000 q.2 < TS.code 1000 r.2
          rw [e, e', code2, code2] at le ⊢
          rw [e, e'] at ne
          have h3 : a * 1000 + b ≠ a' * 1000 + b' := fun z => ne (by
            have ea : a = a' := by omega
            have eb : b = b' := by omega
            rw [ea, eb])
          omega
        · rw [(pm.map (·.2)).mem_iff, hmem z]
end
end K1
/-! the law's drawing -/
namespace K1
open PySem L2
/-- a drawing source at p: two ints, the second one in its range -/
def Src (H : Hp) (p : Addr) : Prop := ∃ a b : Int, H p = some (.lst [.int a, .int b]) ∧ 0 ≤ b ∧ b < 2147483647
def spPool (K : PySem.W.Frag) : Sp := fun vs H Q _ => ∃ (a : Addr) (ns : List Int) (j : Nat), vs = [.ref a, .int (j : Int)] ∧ j ≤ 2 ∧ SqL K H a (ns.map V.int) ∧ ∀ (p : Addr) (A B : Int), H p = none → 0 ≤ B → B < 2147483647 → Q (.ref p) (upd H p (.lst [.int A, .int B]))
def spTake : Sp := fun vs H Q _ => ∃ (p : Addr) (t a b : Int), vs = [.ref p, .int t] ∧ H p = some (.lst [.int a, .int b]) ∧ 0 ≤ b ∧ b < 2147483647 ∧ 0 < t ∧ t.natAbs < 2 ^ 100 ∧
  ∀ r a' b' : Int, 0 ≤ r → r < t → 0 ≤ b' → b' < 2147483647 → Q (.int r) (upd H p (.lst [.int a', .int b']))
structure Nms (mg : Str → Option Value) : Prop where
  len : mg "len" = none
  max : mg "max" = none
  int : mg "int" = none
section
variable {P : Program} {w : World} {K : PySem.W.Frag} {mg : Str → Option Value} {base : Heap}
theorem sc_pool : FnScope ["_law_script", "_law_k", "_law_cell", "_law_big", "_law_mixed"] ["_law_script", "_law_k"] (defScope (top 60)) := ⟨rfl, rfl, rfl, by decide +kernel, rfl, by decide +kernel, by decide +kernel⟩
theorem cl_pool (TT : All K mg) (T : Nms mg) : Cl P w K mg base 1 "_law_pool" ["_law_script", "_law_k"] (spPool K) := by
  obtain ⟨g, fd, D⟩ := TT.dn 60 _ _ rfl
  refine D.cl (D.fn.ok sc_pool (fun vs H Q E h => ?_) (fun cdv A outer s H vs Q E hr h => ?_))
  · obtain ⟨a, ns, j, rfl, _⟩ := h
    rfl
  · obtain ⟨a, ns, j, rfl, hj, hS, k⟩ := h
    refine ⟨_, pss_cons (ps_set (i := 2) sc_pool.nd rfl (Or.inl rfl) pe_int)
      (pss_cons (ps_if (pt_cmpR op_lt (pv 1) (pe_callB call_len_seq (by rfl) T.len PySem.boot_len (pa_cons (pv 0) pa_nil)) (nomark _)) (pss_one (ps_set (i := 2) sc_pool.nd rfl (Or.inl rfl) (pe_ix ix_list (pv 0) (pv 1) (fun _ _ => rfl)))) pss_nil)
      (pss_cons (ps_set (i := 3) sc_pool.nd rfl (Or.inl rfl) (pe_callB (call_max2 rfl) (by rfl) T.max (by decide +kernel) (pa_cons (pe_callTy call_int1 (by rfl) T.int (by decide +kernel) (pa_cons (pv 2) pa_nil)) (pa_cons (pe_callTy call_int1 (by rfl) T.int (by decide +kernel) (pa_cons (pe_op op_sub (pe_un un_neg pe_int) (pv 2)) pa_nil)) pa_nil))))
      (pss_cons (ps_set (i := 4) sc_pool.nd rfl (Or.inl rfl) (pe_op op_modN (pe_callTy call_int1 (by rfl) T.int (by decide +kernel) (pa_cons (pe_op op_mul (pe_op op_add (pe_op op_add (pe_op op_add (pe_op op_modN (pe_callTy call_int1 (by rfl) T.int (by decide +kernel) (pa_cons (pv 3) pa_nil)) pe_int) (pe_op op_mul (pe_op op_mul pe_int (pv 1)) (pv 1))) (pe_op op_mul pe_int (pv 1))) pe_int) pe_int) pa_nil)) pe_int))
      (pss_one (ps_ret (pe_lst (pa_cons (pe_op op_mul (pv 3) (pe_callTy call_int1 (by rfl) T.int (by decide +kernel) (pa_cons (pe_cmpR op_ge (pv 3) (pe_op op_pow pe_int pe_int) (nomark _)) pa_nil))) (pa_cons (pv 4) pa_nil)))))))), ?_⟩
    refine ⟨_, rfl, _, rfl, a, _, rfl, .inl hS, _, _, rfl, rfl, _, rfl, ?_⟩
    have low : ∀ n : Int, ∃ m : Int, ∀ j' : Nat, j' ≤ 2 → True := fun _ => ⟨0, fun _ _ => trivial⟩
    refine ite2 (fun hlt => ?_) (fun hge => ?_)
    · obtain ⟨n, hn⟩ : ∃ n, ns[j]? = some n := by
        have h1 : j < ns.length := by
          rw [List.length_map] at hlt
          have := of_decide_eq_true hlt
          omega
        exact ⟨ns[j], List.getElem?_eq_getElem h1⟩
      have hn' : (ns.map V.int)[j]? = some (V.int n) := by
        rw [List.getElem?_map, hn]
        rfl
      refine ⟨_, rfl, _, rfl, a, _, _, V.int n, rfl, rfl, hS, atI_nat hn', ?_⟩
      obtain rfl | rfl | rfl : j = 0 ∨ j = 1 ∨ j = 2 := by omega
      all_goals
        refine ⟨_, rfl, .inl ⟨_, rfl, _, rfl, _, rfl, _, _, rfl, rfl, .inl ⟨_, rfl, _, _, rfl, ?_⟩⟩⟩
        refine ⟨_, rfl, .inl ⟨_, rfl, _, _, rfl, rfl, (by show (2147483629 : Int) ≠ 0; decide), _, rfl, _, _, rfl, rfl, .inl ⟨by decide, by decide⟩, _, rfl, _, _, rfl, rfl, .inl ⟨by decide, by decide⟩, _, _, rfl, rfl, _, rfl, _, _, rfl, rfl, .inl ⟨by decide, by decide⟩, _, _, rfl, rfl, _, _, rfl, rfl, _, _, rfl, rfl, .inr ⟨by decide, by decide⟩, .inl ⟨_, rfl, _, _, rfl, rfl, (by show (2147483647 : Int) ≠ 0; decide), ?_⟩⟩⟩
        refine ⟨_, rfl, _, rfl, _, _, rfl, rfl, ⟨by decide, by decide, by decide⟩, _, _, rfl, rfl, .inr ⟨_, rfl, _, _, rfl, rfl, .inr (K0.b01 _), _, rfl, (by show 2 ≤ sizeLine; decide), fun l hl => k l _ _ hl (K0.fmod_nn _ (by decide)) (K0.fmod_lt _ (by decide))⟩⟩
    · obtain rfl | rfl | rfl : j = 0 ∨ j = 1 ∨ j = 2 := by omega
      all_goals
        refine ⟨_, rfl, .inl ⟨_, rfl, _, rfl, _, rfl, _, _, rfl, rfl, .inl ⟨_, rfl, _, _, rfl, ?_⟩⟩⟩
        refine ⟨_, rfl, .inl ⟨_, rfl, _, _, rfl, rfl, (by show (2147483629 : Int) ≠ 0; decide), _, rfl, _, _, rfl, rfl, .inl ⟨by decide, by decide⟩, _, rfl, _, _, rfl, rfl, .inl ⟨by decide, by decide⟩, _, _, rfl, rfl, _, rfl, _, _, rfl, rfl, .inl ⟨by decide, by decide⟩, _, _, rfl, rfl, _, _, rfl, rfl, _, _, rfl, rfl, .inr ⟨by decide, by decide⟩, .inl ⟨_, rfl, _, _, rfl, rfl, (by show (2147483647 : Int) ≠ 0; decide), ?_⟩⟩⟩
        refine ⟨_, rfl, _, rfl, _, _, rfl, rfl, ⟨by decide, by decide, by decide⟩, _, _, rfl, rfl, .inr ⟨_, rfl, _, _, rfl, rfl, .inr (K0.b01 _), _, rfl, (by show 2 ≤ sizeLine; decide), fun l hl => k l _ _ hl (K0.fmod_nn _ (by decide)) (K0.fmod_lt _ (by decide))⟩⟩
theorem sc_take : FnScope ["_law_source", "_law_top", "_law_told"] ["_law_source", "_law_top"] (defScope (top 61)) := ⟨rfl, rfl, rfl, by decide +kernel, rfl, by decide +kernel, by decide +kernel⟩
theorem cl_take (TT : All K mg) (T : Nms mg) : Cl P w K mg base 1 "_law_take" ["_law_source", "_law_top"] spTake := by
  obtain ⟨g, fd, D⟩ := TT.dn 61 _ _ rfl
  refine D.cl (D.fn.ok sc_take (fun vs H Q E h => ?_) (fun cdv A outer s H vs Q E hr h => ?_))
  · obtain ⟨p, t, a, b, rfl, _⟩ := h
    rfl
  · obtain ⟨p, t, a, b, rfl, hp, b0, b1, t0, t1, k⟩ := h
    refine ⟨_, pss_cons (ps_if (pt_cmpR op_gt (pe_ix ix_list (pv 0) pe_int (fun _ _ => rfl)) pe_int (nomark _))
        (pss_cons (ps_set (i := 2) sc_take.nd rfl (Or.inl rfl) (pe_op op_modN (pe_callTy call_int1 (by rfl) T.int (by decide +kernel) (pa_cons (pe_ix ix_list (pv 0) pe_int (fun _ _ => rfl)) pa_nil)) (pv 1)))
        (pss_cons (ps_asg (pe_op op_fdivW (pe_ix ix_list (pv 0) pe_int (fun _ _ => rfl)) (pv 1)) (pg_sub (pv 0) pe_int set_list))
        (pss_one (ps_ret (pv 2))))) pss_nil)
      (pss_cons (ps_asg (pe_op op_modN (pe_callTy call_int1 (by rfl) T.int (by decide +kernel) (pa_cons (pe_op op_add (pe_op op_mul (pe_ix ix_list (pv 0) pe_int (fun _ _ => rfl)) pe_int) pe_int) pa_nil)) pe_int) (pg_sub (pv 0) pe_int set_list))
      (pss_one (ps_ret (pe_op op_modN (pe_callTy call_int1 (by rfl) T.int (by decide +kernel) (pa_cons (pe_op op_fdiv (pe_op op_modN (pe_callTy call_int1 (by rfl) T.int (by decide +kernel) (pa_cons (pe_op op_mul (pe_ix ix_list (pv 0) pe_int (fun _ _ => rfl)) (pe_ix ix_list (pv 0) pe_int (fun _ _ => rfl))) pa_nil)) pe_int) pe_int) pa_nil)) (pv 1))))), ?_⟩
    refine ⟨_, rfl, p, _, _, .int a, rfl, rfl, SqL.of hp, atI_nat (j := 0) rfl, _, _, rfl, rfl, _, rfl, ?_⟩
    refine ite2 (fun hlt => ?_) (fun hge => ?_)
    · refine ⟨_, rfl, p, _, _, .int a, rfl, rfl, SqL.of hp, atI_nat (j := 0) rfl, .inl ⟨_, rfl, _, rfl, _, _, rfl, rfl, (by omega), ?_⟩⟩
      refine ⟨_, rfl, p, _, _, .int a, rfl, rfl, SqL.of hp, atI_nat (j := 0) rfl, _, rfl, _, _, rfl, rfl, wide_div t0 t1 (by decide) (by decide), _, rfl, p, _, _, 0, rfl, rfl, hp, rfl, ?_⟩
      exact ⟨_, rfl, k _ _ _ (K0.fmod_nn _ t0) (K0.fmod_lt _ t0) b0 b1⟩
    · refine ⟨_, rfl, p, _, _, .int b, rfl, rfl, SqL.of hp, atI_nat (j := 1) rfl, _, _, rfl, rfl, .inr ⟨by decide, by decide⟩, _, _, rfl, rfl, .inl ⟨_, rfl, _, _, rfl, rfl, (by show (2147483647 : Int) ≠ 0; decide), _, rfl, p, _, _, 1, rfl, rfl, hp, rfl, ?_⟩⟩
      have c0 := K0.fmod_nn (b * 39373 + 7) (b := 2147483647) (by decide)
      have c1 := K0.fmod_lt (b * 39373 + 7) (b := 2147483647) (by decide)
      refine ⟨_, rfl, p, _, _, _, rfl, rfl, SqL.of upd_same, atI_nat (j := 1) rfl, _, rfl, p, _, _, _, rfl, rfl, SqL.of upd_same, atI_nat (j := 1) rfl, _, _, rfl, rfl, .inl ⟨by omega, by omega⟩, .inl ⟨_, rfl, _, _, rfl, rfl, (by show (2147483629 : Int) ≠ 0; decide), _, _, rfl, rfl, ⟨by decide, by decide⟩, .inl ⟨_, rfl, _, rfl, _, _, rfl, rfl, (by omega), ?_⟩⟩⟩
      exact k _ _ _ (K0.fmod_nn _ t0) (K0.fmod_lt _ t0) c0 c1
end
end K1
namespace K1
open PySem L2
/-- all but the source -/
def hid (p : Addr) (H : Hp) : Hp := fun b => if b = p then none else H b
theorem hid_ne {p b : Addr} {H : Hp} (h : b ≠ p) : hid p H b = H b := if_neg h
theorem hid_at {p b : Addr} {H : Hp} {u : HO} (h : hid p H b = some u) : b ≠ p ∧ H b = some u := by
  unfold hid at h
  by_cases e : b = p
  · rw [if_pos e] at h
    cases h
  · rw [if_neg e] at h
    exact ⟨e, h⟩
theorem hid_same (p : Addr) (H : Hp) : Same (hid p H) H := fun b u e => (hid_at e).2
/-- drawn from the source at p; all else stands -/
structure Bt (p : Addr) (H H' : Hp) : Prop where
  same : Same (hid p H) (hid p H')
  src : Src H' p
theorem Bt.refl {p : Addr} {H : Hp} (h : Src H p) : Bt p H H := ⟨Same.refl _, h⟩
theorem Bt.trans {p : Addr} {H H1 H2 : Hp} (a : Bt p H H1) (b : Bt p H1 H2) : Bt p H H2 := ⟨a.same.trans b.same, b.src⟩
theorem Bt.at {p b : Addr} {H H' : Hp} {u : HO} (h : Bt p H H') (n : b ≠ p) (e : H b = some u) : H' b = some u := (hid_at (h.same b u (by rw [hid_ne n]; exact e))).2
/-- something new beside the source -/
theorem Bt.new {p q : Addr} {H H' : Hp} {o : HO} (h : Bt p H H') (n : H' q = none) : Bt p H (upd H' q o) := by
  obtain ⟨a, b, e, r⟩ := h.src
  have nq : p ≠ q := ne_of_none e n
  refine ⟨h.same.trans fun c u hc => ?_, a, b, by rw [upd_ne nq]; exact e, r⟩
  obtain ⟨c1, c2⟩ := hid_at hc
  rw [hid_ne c1, upd_ne (ne_of_none c2 n)]
  exact c2
theorem Bt.put {p : Addr} {H H' : Hp} (h : Bt p H H') {a b : Int} (b0 : 0 ≤ b) (b1 : b < 2147483647) : Bt p H (upd H' p (.lst [.int a, .int b])) := by
  refine ⟨h.same.trans fun c u hc => ?_, a, b, upd_same, b0, b1⟩
  obtain ⟨c1, c2⟩ := hid_at hc
  rw [hid_ne c1, upd_ne c1]
  exact c2
/-- what is grown, nothing else being changed -/
theorem Bt.grow {p : Addr} {H H1 H2 : Hp} (h : Bt p H H1) (s : Same H1 H2) : Bt p H H2 := by
  obtain ⟨a, b, e, r⟩ := h.src
  refine ⟨h.same.trans fun c u hc => ?_, a, b, s _ _ e, r⟩
  obtain ⟨c1, c2⟩ := hid_at hc
  rw [hid_ne c1]
  exact s _ _ c2
/-- .. of the draws -/
def spTakeB : Sp := fun vs H Q _ => ∃ (p : Addr) (t : Int), vs = [.ref p, .int t] ∧ Src H p ∧ 0 < t ∧ t.natAbs < 2 ^ 100 ∧ ∀ (r : Int) H', 0 ≤ r → r < t → Bt p H H' → Q (.int r) H'
def spOne (K : PySem.W.Frag) : Sp := fun vs H Q _ => ∃ (p l : Addr) (us : List V) (ds : List PyData), vs = [.ref p, .ref l] ∧ Src H p ∧ SqL K (hid p H) l us ∧ DQs K (hid p H) us ds ∧ 0 < ds.length ∧ ds.length < 2 ^ 60 ∧
  ∀ H' u d, d ∈ ds → Bt p H H' → DQ K (hid p H') u d → Q u H'
section
variable {P : Program} {w : World} {K : PySem.W.Frag} {mg : Str → Option Value} {base : Heap}
theorem cl_takeB (TT : All K mg) (T : Nms mg) : Cl P w K mg base 1 "_law_take" ["_law_source", "_law_top"] spTakeB := by
  obtain ⟨g, fd, F, h⟩ := cl_take (P := P) (w := w) (base := base) TT T
  refine ⟨g, fd, F.imp fun vs H Q E q => ?_, h⟩
  obtain ⟨p, t, e, ⟨a, b, hp, b0, b1⟩, t0, t1, k⟩ := q
  exact ⟨p, t, a, b, e, hp, b0, b1, t0, t1, fun r a' b' r0 r1 c0 c1 => k r _ r0 r1 ((Bt.refl ⟨a, b, hp, b0, b1⟩).put c0 c1)⟩
theorem sc_one : FnScope ["_law_source", "_law_things"] ["_law_source", "_law_things"] (defScope (top 62)) := ⟨rfl, rfl, rfl, by decide +kernel, rfl, by decide +kernel, by decide +kernel⟩
theorem cl_one (TT : All K mg) (T : Nms mg) : Cl P w K mg base 2 "_law_one" ["_law_source", "_law_things"] (spOne K) := by
  obtain ⟨g, fd, D⟩ := TT.dn 62 _ _ rfl
  refine D.cl (D.fn.ok sc_one (fun vs H Q E h => ?_) (fun cdv A outer s H vs Q E hr h => ?_))
  · obtain ⟨p, l, us, ds, rfl, _⟩ := h
    rfl
  · obtain ⟨p, l, us, ds, rfl, hsrc, hl, hd, h0, h1, k⟩ := h
    refine ⟨_, pss_one (ps_ret (pe_ix ix_list (pv 1) (pe_cl (cl_takeB TT T) hr (by decide) (pa_cons (pv 0) (pa_cons (pe_callB call_len_seq (by rfl) T.len PySem.boot_len (pa_cons (pv 1) pa_nil)) pa_nil))) (fun _ _ => rfl))), ?_⟩
    have hlen := hd.len
    refine ⟨_, rfl, _, rfl, _, rfl, l, us, rfl, .inl ((hid_same p H).seq hl), p, _, rfl, hsrc, by omega, by omega, fun r H' r0 r1 bt => ?_⟩
    obtain ⟨i, rfl⟩ : ∃ i : Nat, r = (i : Int) := ⟨r.toNat, by omega⟩
    have hi : i < ds.length := by omega
    obtain ⟨u, hu, hq⟩ := hd.get (i := i) (List.getElem?_eq_getElem hi)
    exact ⟨l, us, _, u, rfl, rfl, (hid_same p H').seq (bt.same.seq hl), atI_nat hu, k H' u _ (List.getElem_mem hi) bt (hq.to bt.same)⟩
end
end K1
namespace K1
open PySem L2
theorem Dn.clG {P : Program} {w : World} {K : PySem.W.Frag} {mg : Str → Option Value} {base : Heap} {k : Nat} {x : Str} {ps : List Str} {st : Stmt} {g : Addr} {fd : FuncData} {sp : Sp} (D : Dn K mg x ps st g fd) (F : FnG P w K mg base k g fd ps sp) : ClG P w K mg base k x ps sp :=
  ⟨g, fd, F, D.mg, D.fn.kp, D.bn⟩
theorem in_four (x : Str) : inV (.str x) [.str "block", .str "let", .str "sum", .str "product"] = holdsD (.str x) := in_holders x
def spRight (K : PySem.W.Frag) : Sp := fun vs H Q _ => ∃ v d, vs = [v] ∧ DQ K H v d ∧ ∀ H', Same H H' → Q (.bl true) H'
section
variable {P : Program} {w : World} {K : PySem.W.Frag} {mg : Str → Option Value} {base : Heap}
end
end K1
/-! written data -/
namespace K1
open PySem L2
/-- what has come since -/
def nw (H H' : Hp) : Hp := fun b => match H b with
  | none => H' b
  | some _ => none
theorem nw_at {H H' : Hp} {b : Addr} {u : HO} (h : nw H H' b = some u) : H b = none ∧ H' b = some u := by
  unfold nw at h
  cases e : H b with
  | none =>
    rw [e] at h
    exact ⟨rfl, h⟩
  | some x =>
    rw [e] at h
    cases h
theorem nw_of {H H' : Hp} {b : Addr} {u : HO} (n : H b = none) (h : H' b = some u) : nw H H' b = some u := by
  unfold nw
  rw [n]
  exact h
theorem nw_in (H H' : Hp) : Same (nw H H') H' := fun b u e => (nw_at e).2
theorem nw_more {H H1 H2 : Hp} (s : Same H1 H2) : Same (nw H H1) (nw H H2) := fun b u e => nw_of (nw_at e).1 (s _ _ (nw_at e).2)
theorem old_none {H H1 : Hp} {b : Addr} (s : Same H H1) (n : H1 b = none) : H b = none := by
  cases e : H b with
  | none => rfl
  | some u =>
    rw [s b u e] at n
    cases n
theorem nw_less {H H1 H2 : Hp} (s : Same H H1) : Same (nw H1 H2) (nw H H2) := fun b u e => nw_of (old_none s (nw_at e).1) (nw_at e).2
theorem nw_hid {p : Addr} {H H' : Hp} (h : Src H p) : Same (nw H H') (hid p H') := fun b u e => by
  obtain ⟨x, y, z, _⟩ := h
  rw [hid_ne (Ne.symm (ne_of_none z (nw_at e).1))]
  exact (nw_at e).2
def tLit (K : PySem.W.Frag) (d : PyData) : TE := fun _ H Q => ∀ H' v, Same H H' → DQ K (nw H H') v d → Q v H'
def tLits (K : PySem.W.Frag) (ds : List PyData) : TA := fun _ H Q => ∀ H' vs, Same H H' → DQs K (nw H H') vs ds → Q vs H'
theorem DQs.to {K : PySem.W.Frag} {H H' : Hp} {vs : List V} {ds : List PyData} (h : DQs K H vs ds) (s : Same H H') : DQs K H' vs ds := DQs.same s ds vs h
/-- a list that is tracked, of written data -/
def tLstL (K : PySem.W.Frag) (ds : List PyData) : TE := fun _ H Q => ∀ H' p vs, Same H H' → H p = none → H' p = some (.lst vs) → DQs K (nw H H') vs ds → Q (.ref p) H'
section
variable {X : Cx}
theorem li_non {j pos} : PE X (.Constant .none j pos) (tLit X.K .none) := K0.pe_imp pe_non fun σ H Q q => q H _ (Same.refl _) .non
theorem li_bl {b j pos} : PE X (.Constant (.bool b) j pos) (tLit X.K (.bool b)) := K0.pe_imp pe_bl fun σ H Q q => q H _ (Same.refl _) (.bl b)
theorem li_int {i j pos} : PE X (.Constant (.int i) j pos) (tLit X.K (.int i)) := K0.pe_imp pe_int fun σ H Q q => q H _ (Same.refl _) (.int i)
theorem li_neg {i j p1 pos} : PE X (.UnaryOp .USub (.Constant (.int i) j p1) pos) (tLit X.K (.int (-i))) := K0.pe_imp (pe_un un_neg pe_int) fun σ H Q q => ⟨i, rfl, q H _ (Same.refl _) (.int _)⟩
theorem li_str {x j pos} (h : x.length ≤ 1000) : PE X (.Constant (.str x) j pos) (tLit X.K (.str x)) := K0.pe_imp pe_str fun σ H Q q => q H _ (Same.refl _) (.str x h)
theorem li_dct {pos} : PE X (.Dict [] [] pos) (tLit X.K (.dict [])) := K0.pe_imp pe_dnewK fun σ H Q q p np => q _ _ (K0.same_upd np) (.dct (nw_of np upd_same))
theorem las_nil : PA X [] (tLits X.K []) := K0.pa_imp pa_nil fun σ H Q q => q H [] (Same.refl _) .nil
theorem las_cons {e : Expr} {es : List Expr} {d : PyData} {ds : List PyData} (h : PE X e (tLit X.K d)) (hs : PA X es (tLits X.K ds)) (he : starEach (e :: es) X.env = (false, eval e X.env) :: starEach es X.env := by rfl) : PA X (e :: es) (tLits X.K (d :: ds)) :=
  K0.pa_imp (pa_cons h hs he) fun σ H Q q H1 v S1 h1 H2 vs S2 h2 => q H2 (v :: vs) (S1.trans S2) (.cons (h1.to (nw_more S2)) (h2.to (nw_less S1)))
theorem li_tup {es : List Expr} {ds : List PyData} {x1 pos} (h : PA X es (tLits X.K ds)) (hl : ds.length ≤ 1000) : PE X (.Tuple es x1 pos) (tLit X.K (.tuple ds)) :=
  K0.pe_imp (pe_tup h) fun σ H Q q H1 vs S1 h1 => ⟨by rw [h1.len, sizeLine_eq]; omega, fun p np => q _ _ (S1.trans (K0.same_upd np)) (.tup (.inl (.inl (nw_of (old_none S1 np) upd_same))) (h1.to (nw_more (K0.same_upd np))))⟩
theorem li_lst {es : List Expr} {ds : List PyData} {pos} (h : PA X es (tLits X.K ds)) (hl : ds.length ≤ 1000) : PE X (.List es pos) (tLit X.K (.list ds)) :=
  K0.pe_imp (pe_lst h) fun σ H Q q H1 vs S1 h1 => ⟨by rw [h1.len, sizeLine_eq]; omega, fun p np => q _ _ (S1.trans (K0.same_upd np)) (.lst (SqL.of (nw_of (old_none S1 np) upd_same)) (h1.to (nw_more (K0.same_upd np))))⟩
theorem li_list {es : List Expr} {ds : List PyData} {pos} (h : PA X es (tLits X.K ds)) (hl : ds.length ≤ 1000) : PE X (.List es pos) (tLstL X.K ds) :=
  K0.pe_imp (pe_lst h) fun σ H Q q H1 vs S1 h1 => ⟨by rw [h1.len, sizeLine_eq]; omega, fun p np => q _ p vs (S1.trans (K0.same_upd np)) (old_none S1 np) upd_same (h1.to (nw_more (K0.same_upd np)))⟩
end
end K1
namespace K1
open PySem L2
def odd0 : List PyData := [.none, .bool true, .bool false, .int 0, .int 1, .int 4, .int 1000, .int (-1), .str "", .str "x", .str "X", .str "abcde", .str "a1", .str "let", .str "block", .str "make", .str "none"]
def odd1 : List PyData := [.tuple [], .tuple [.int 0, .int 0], .tuple [.int 1, .int 0], .tuple [.int 1, .int 4], .tuple [.int 0, .int 1], .tuple [.bool true, .int 0], .tuple [.int 0, .bool false], .tuple [.int 1000, .int 0], .list [.int 1, .int 0], .tuple [.int 1, .int 0, .int 0]]
def odd2 : List PyData := [.tuple [.str "1", .int 0], .dict []]
def odd3 : List PyData := [.tuple [.int 0, .int 0, .int 0, .int 0], .list [.int 0, .int 0, .int 0, .int 0], .tuple [.int 0, .int 0, .int 0], .tuple [.int 0, .int 0, .int 0, .bool true], .tuple [.str "drop", .tuple [.int 1, .int 0]], .tuple [.str "drop"]]
def oddL : List PyData := ((odd0 ++ odd1) ++ odd2) ++ odd3
def spOdd (K : PySem.W.Frag) : Sp := fun vs H Q _ => ∃ p, vs = [.ref p] ∧ Src H p ∧ ∀ H' u d, d ∈ oddL → Bt p H H' → DQ K (hid p H') u d → Q u H'
theorem DQs.app {K : PySem.W.Frag} {H : Hp} : ∀ {vs us : List V} {ds es : List PyData}, DQs K H vs ds → DQs K H us es → DQs K H (vs ++ us) (ds ++ es)
  | _, _, _, _, .nil, k => k
  | _, _, _, _, .cons r t, k => .cons r (t.app k)
section
variable {P : Program} {w : World} {K : PySem.W.Frag} {mg : Str → Option Value} {base : Heap}
end
end K1
namespace K1
open PySem L2
def cutD (ds : List PyData) (lo hi : Option Int) : List PyData := (ds.drop (HT.sIx ds.length 0 lo)).take (HT.sIx ds.length ds.length hi - HT.sIx ds.length 0 lo)
theorem DQs.drop {K : PySem.W.Frag} {H : Hp} : ∀ (n : Nat) {vs : List V} {ds : List PyData}, DQs K H vs ds → DQs K H (vs.drop n) (ds.drop n)
  | 0, _, _, h => h
  | n + 1, _, _, .nil => .nil
  | n + 1, _, _, .cons _ t => t.drop n
theorem DQs.take {K : PySem.W.Frag} {H : Hp} : ∀ (n : Nat) {vs : List V} {ds : List PyData}, DQs K H vs ds → DQs K H (vs.take n) (ds.take n)
  | 0, _, _, _ => .nil
  | n + 1, _, _, .nil => .nil
  | n + 1, _, _, .cons r t => .cons r (t.take n)
theorem hid_none {p q : Addr} {H : Hp} (n : H q = none) : hid p H q = none := by
  unfold hid
  by_cases e : q = p
  · rw [if_pos e]
  · rw [if_neg e]
    exact n
theorem slice_ask {K : PySem.W.Frag} {p : Addr} {H : Hp} {v : V} {ds : List PyData} {lo hi : Option Int} {Q : VK} (src : Src H p) (h : DQ K (hid p H) v (.tuple ds)) (k : ∀ H' u, Bt p H H' → DQ K (hid p H') u (.tuple (cutD ds lo hi)) → Q u H') : rSlA K v lo hi H Q := by
  have h0 := h
  cases h with
  | @tup a xs _ h1 h2 =>
    have hl := h2.len
    refine ⟨a, xs, rfl, K0.seqT_same (hid_same p H) h1, fun w => k H _ (Bt.refl src) ?_, fun w q nq => ?_⟩
    · have e : cutD ds lo hi = ds := by
        unfold cutD
        rw [← hl, w.1, w.2, List.drop_zero, Nat.sub_zero, hl, List.take_length]
      rw [e]
      exact h0
    · have bt := (Bt.refl src).new (o := .tup (cutV xs lo hi)) nq
      have nqp : q ≠ p := fun e => by
        obtain ⟨x, y, z, _⟩ := src
        rw [e, z] at nq
        cases nq
      have e : DQs K (hid p H) (cutV xs lo hi) (cutD ds lo hi) := by
        unfold cutV cutD
        rw [hl]
        exact (h2.drop _).take _
      exact k _ _ bt (.tup (.inl (.inl (by rw [hid_ne nqp, upd_same]))) (e.to bt.same))
theorem cat_ask {K : PySem.W.Frag} {p : Addr} {H : Hp} {v u : V} {ds es : List PyData} {Q : VK} (src : Src H p) (h : DQ K (hid p H) v (.tuple ds)) (g : DQ K (hid p H) u (.tuple es)) (hl : ds.length + es.length ≤ 1000) (k : ∀ H' z, Bt p H H' → DQ K (hid p H') z (.tuple (ds ++ es)) → Q z H') : rCatA K v u H Q := by
  have h0 := h
  have g0 := g
  cases h with
  | @tup a xs _ h1 h2 =>
    cases g with
    | @tup b ys _ g1 g2 =>
      have l1 := h2.len
      have l2 := g2.len
      refine ⟨a, b, xs, ys, rfl, rfl, K0.seqT_same (hid_same p H) h1, K0.seqT_same (hid_same p H) g1, by rw [sizeLine_eq]; omega, fun e => ?_, fun _ e => ?_, fun _ _ q nq => ?_⟩
      · subst e
        cases h2
        exact k H _ (Bt.refl src) g0
      · subst e
        cases g2
        refine k H _ (Bt.refl src) ?_
        rw [List.append_nil]
        exact h0
      · have bt := (Bt.refl src).new (o := .tup (xs ++ ys)) nq
        have nqp : q ≠ p := fun e => by
          obtain ⟨x, y, z, _⟩ := src
          rw [e, z] at nq
          cases nq
        exact k _ _ bt (.tup (.inl (.inl (by rw [hid_ne nqp, upd_same]))) ((h2.app g2).to bt.same))
/-- the thing with something odd in it, or a place less -/
def Bent (ds es : List PyData) : Prop := (∃ o ∈ oddL, ∀ e ∈ es, e ∈ ds ∨ e = o) ∧ es.length ≤ ds.length + 1
def spBent (K : PySem.W.Frag) : Sp := fun vs H Q _ => ∃ p v ds, vs = [.ref p, v] ∧ Src H p ∧ DQ K (hid p H) v (.tuple ds) ∧ 0 < ds.length ∧ ds.length ≤ 100 ∧ ∀ H' u es, Bent ds es → Bt p H H' → DQ K (hid p H') u (.tuple es) → Q u H'
section
variable {P : Program} {w : World} {K : PySem.W.Frag} {mg : Str → Option Value} {base : Heap}
theorem one_new {p q : Addr} {H H1 : Hp} {u : V} {d : PyData} (bt : Bt p H H1) (hq : DQ K (hid p H1) u d) (nq : H1 q = none) : Bt p H (upd H1 q (.tup [u])) ∧ DQ K (hid p (upd H1 q (.tup [u]))) (.ref q) (.tuple [d]) := by
  have nqp : q ≠ p := fun e => by
    obtain ⟨x, y, z, _⟩ := bt.src
    rw [e, z] at nq
    cases nq
  have b3 := (Bt.refl bt.src).new (o := .tup [u]) nq
  exact ⟨bt.new (o := .tup [u]) nq, .tup (.inl (.inl (by rw [hid_ne nqp, upd_same]))) (.cons (hq.to b3.same) .nil)⟩
end
end K1
/-! what repr tells of small data -/
namespace K1
open PySem L2
/-- small data: nested k deep at most, of weight W at most -/
structure Nice (k W : Nat) (d : PyData) : Prop where
  sh : d.showable = true
  dp : d.depth ≤ k
  lv : d.leavesShort 13 = true
  wt : d.weight ≤ W
theorem Nice.mono {k k' W W' : Nat} {d : PyData} (h : Nice k W d) (a : k ≤ k') (b : W ≤ W') : Nice k' W' d := ⟨h.sh, Nat.le_trans h.dp a, h.lv, Nat.le_trans h.wt b⟩
theorem nice_all {k W : Nat} : ∀ {ds : List PyData}, (∀ d ∈ ds, Nice k W d) → PyData.showableAll ds = true ∧ PyData.depthAll ds ≤ k ∧ PyData.leavesShortAll 13 ds = true ∧ PyData.weightAll ds ≤ ds.length * (W + 1)
  | [], _ => ⟨rfl, Nat.zero_le _, rfl, by simp [PyData.weightAll]⟩
  | d :: ds, h => by
    obtain ⟨h1, h2, h3, h4⟩ := nice_all fun e he => h e (List.mem_cons_of_mem _ he)
    have g := h d List.mem_cons_self
    refine ⟨?_, ?_, ?_, ?_⟩
    · show (d.showable && PyData.showableAll ds) = true
      rw [g.sh, h1]
      rfl
    · show max d.depth (PyData.depthAll ds) ≤ k
      exact Nat.max_le.mpr ⟨g.dp, h2⟩
    · show (d.leavesShort 13 && PyData.leavesShortAll 13 ds) = true
      rw [g.lv, h3]
      rfl
    · show d.weight + 1 + PyData.weightAll ds ≤ (ds.length + 1) * (W + 1)
      rw [Nat.succ_mul]
      have := g.wt
      omega
theorem Nice.tuple {k W : Nat} {ds : List PyData} (h : ∀ d ∈ ds, Nice k W d) : Nice (k + 1) (ds.length * (W + 1)) (.tuple ds) := by
  obtain ⟨h1, h2, h3, h4⟩ := nice_all h
  exact ⟨h1, Nat.succ_le_succ h2, h3, h4⟩
theorem Nice.list {k W : Nat} {ds : List PyData} (h : ∀ d ∈ ds, Nice k W d) : Nice (k + 1) (ds.length * (W + 1)) (.list ds) := by
  obtain ⟨h1, h2, h3, h4⟩ := nice_all h
  exact ⟨h1, Nat.succ_le_succ h2, h3, h4⟩
theorem nice_int {i : Int} (h : i.natAbs < 10000) : Nice 0 14 (.int i) := by
  have lg : i.natAbs.log2 < 14 := by
    by_cases z : i.natAbs = 0
    · rw [z]
      decide
    · exact (Nat.log2_lt z).mpr (by omega)
  refine ⟨?_, Nat.zero_le _, ?_, ?_⟩
  · show decide (i.natAbs.log2 < 1920) = true
    exact decide_eq_true (by omega)
  · show decide ((PyData.shown (.int i)).length ≤ 13) = true
    have e := int_text_length_le10 (a := i) (k := 4) (by decide) h
    refine decide_eq_true ?_
    show (Str.ofString (toString i)).length ≤ 13
    rw [PySem.ofString_length]
    omega
  · show (if i == 0 then 0 else i.natAbs.log2 + 1) ≤ 14
    split <;> omega
theorem nice_none : Nice 0 0 .none := ⟨rfl, Nat.le_refl _, rfl, Nat.le_refl _⟩
theorem nice_str {x : Str} {n : Nat} (h : x.length ≤ n) (hc : x.cps.toList.all (fun c => decide (c < 16 ^ 8)) = true) : Nice 0 n (.str x) := ⟨rfl, Nat.le_refl _, hc, h⟩
theorem nice_thing {d : PyData} (h : thingD d = true) : Nice 1 30 d := by
  obtain ⟨a, b, rfl, ha, hb⟩ := thing_int h
  refine (Nice.tuple (k := 0) (W := 14) fun d hd => ?_).mono (Nat.le_refl _) (by show 2 * (14 + 1) ≤ 30; decide)
  rcases List.mem_cons.mp hd with z | z
  · rw [z]
    exact nice_int (by omega)
  · rw [List.mem_singleton.mp z]
    exact nice_int (by omega)
theorem nice_name {d : PyData} (h : nameD d = true) : Nice 1 30 d := by
  cases d with
  | str x =>
    have e : (decide (1 ≤ x.length) && decide (x.length ≤ 4) && x.cps.toList.all letter) = true := h
    rw [Bool.and_eq_true, Bool.and_eq_true, decide_eq_true_eq, decide_eq_true_eq] at e
    refine (nice_str e.1.2 (List.all_eq_true.mpr fun c hc => ?_)).mono (by decide) (by decide)
    have q := List.all_eq_true.mp e.2 c hc
    unfold letter at q
    rw [Bool.and_eq_true, decide_eq_true_eq, decide_eq_true_eq] at q
    exact decide_eq_true (by omega)
  | _ => cases h
theorem nice_binder {d : PyData} (h : binderD d = true) : Nice 1 30 d := by
  cases e : noneD d with
  | true =>
    cases d with
    | none => exact nice_none.mono (by decide) (by decide)
    | _ => cases e
  | false =>
    rw [binder_some e] at h
    exact nice_thing h
theorem nice_from {lo hi : Int} {d : PyData} (h : fromD lo hi d = true) (h1 : 0 ≤ lo) (h2 : hi ≤ 999) : Nice 1 30 d := by
  obtain ⟨i, rfl, h3, h4⟩ := from_int h
  exact (nice_int (by omega)).mono (by decide) (by decide)
theorem nice_content {k c : PyData} (h : contentD k c = true) : Nice 1 30 k ∧ Nice 1 30 c := by
  cases k with
  | str x =>
    have e : (if x = "let" then nameD c else if x = "use" then binderD c else if x = "number" then fromD 0 99 c else holdsD (.str x) && noneD c) = true := h
    by_cases c1 : x = "let"
    · rw [if_pos c1] at e
      subst c1
      exact ⟨(nice_str (n := 7) (by decide +kernel) (by decide +kernel)).mono (by decide) (by decide), nice_name e⟩
    · rw [if_neg c1] at e
      by_cases c2 : x = "use"
      · rw [if_pos c2] at e
        subst c2
        exact ⟨(nice_str (n := 7) (by decide +kernel) (by decide +kernel)).mono (by decide) (by decide), nice_binder e⟩
      · rw [if_neg c2] at e
        by_cases c3 : x = "number"
        · rw [if_pos c3] at e
          subst c3
          exact ⟨(nice_str (n := 7) (by decide +kernel) (by decide +kernel)).mono (by decide) (by decide), nice_from e (by decide) (by decide)⟩
        · rw [if_neg c3, Bool.and_eq_true] at e
          have hn : Nice 1 30 c := by
            cases c with
            | none => exact nice_none.mono (by decide) (by decide)
            | _ => cases e.2
          have hh : (x == ("block" : Str) || x == ("let" : Str) || x == ("sum" : Str) || x == ("product" : Str)) = true := e.1
          simp only [Bool.or_eq_true, beq_iff_eq] at hh
          refine ⟨?_, hn⟩
          rcases hh with ((z | z) | z) | z <;>
            · rw [z]
              exact (nice_str (n := 7) (by decide +kernel) (by decide +kernel)).mono (by decide) (by decide)
  | _ => cases h
theorem nice_write {x : Str} {c : PyData} (h : writeD (.str x) c = true) : Nice 1 30 (.str x) ∧ Nice 1 30 c := by
  have e : (if x = "wish" then nameD c else if x = "point" then binderD c else decide (x = "set") && fromD 0 99 c) = true := h
  by_cases c1 : x = "wish"
  · rw [if_pos c1] at e
    subst c1
    exact ⟨(nice_str (n := 7) (by decide +kernel) (by decide +kernel)).mono (by decide) (by decide), nice_name e⟩
  · rw [if_neg c1] at e
    by_cases c2 : x = "point"
    · rw [if_pos c2] at e
      subst c2
      exact ⟨(nice_str (n := 7) (by decide +kernel) (by decide +kernel)).mono (by decide) (by decide), nice_binder e⟩
    · rw [if_neg c2, Bool.and_eq_true, decide_eq_true_eq] at e
      obtain ⟨z, f⟩ := e
      subst z
      exact ⟨(nice_str (n := 7) (by decide +kernel) (by decide +kernel)).mono (by decide) (by decide), nice_from f (by decide) (by decide)⟩
theorem nice_word {x : Str} (h : x.length ≤ 7) (hc : x.cps.toList.all (fun c => decide (c < 16 ^ 8)) = true) : Nice 1 30 (.str x) := (nice_str h hc).mono (by decide) (by decide)
/-- a right body's items -/
theorem nice_body {x : Str} {r : List PyData} (h : bodyR x r = true) : (∀ e ∈ PyData.str x :: r, Nice 1 30 e) ∧ r.length ≤ 4 := by
  have two : ∀ {a b : PyData} {l : List PyData}, Nice 1 30 a → (∀ e ∈ l, Nice 1 30 e) → ∀ e ∈ a :: l, Nice 1 30 e := fun h1 h2 e he => by
    rcases List.mem_cons.mp he with z | z
    · rw [z]
      exact h1
    · exact h2 e z
  have no : ∀ e ∈ ([] : List PyData), Nice 1 30 e := fun e he => absurd he List.not_mem_nil
  unfold bodyR at h
  by_cases c1 : x = "make"
  · rw [if_pos c1] at h
    have z : r.length = 4 := Classical.byContradiction fun z => by
      rw [makeR_ne z] at h
      cases h
    obtain ⟨d1, d2, d3, d4, rfl⟩ := list4 z
    have em : makeR [d1, d2, d3, d4] = (thingD d2 && (fromD 0 999 d3 && contentD d1 d4)) := rfl
    rw [em, Bool.and_eq_true, Bool.and_eq_true] at h
    obtain ⟨n1, n4⟩ := nice_content h.2.2
    subst c1
    exact ⟨two (b := .none) (nice_word (by decide +kernel) (by decide +kernel)) (two (b := .none) n1 (two (b := .none) (nice_thing h.1) (two (b := .none) (nice_from h.2.1 (by decide) (by decide)) (two (b := .none) n4 no)))), Nat.le_of_eq z⟩
  · rw [if_neg c1] at h
    by_cases c2 : x = "move"
    · rw [if_pos c2] at h
      have z : r.length = 3 := Classical.byContradiction fun z => by
        rw [moveR_ne z] at h
        cases h
      obtain ⟨d1, d2, d3, rfl⟩ := list3 z
      have em : moveR [d1, d2, d3] = (thingD d1 && (thingD d2 && fromD 0 999 d3)) := rfl
      rw [em, Bool.and_eq_true, Bool.and_eq_true] at h
      subst c2
      exact ⟨two (b := .none) (nice_word (by decide +kernel) (by decide +kernel)) (two (b := .none) (nice_thing h.1) (two (b := .none) (nice_thing h.2.1) (two (b := .none) (nice_from h.2.2 (by decide) (by decide)) no))), by omega⟩
    · rw [if_neg c2] at h
      by_cases c3 : x = "drop"
      · rw [if_pos c3] at h
        have z : r.length = 1 := Classical.byContradiction fun z => by
          rw [dropR_ne z] at h
          cases h
        obtain ⟨d1, rfl⟩ := list1 z
        subst c3
        exact ⟨two (b := .none) (nice_word (by decide +kernel) (by decide +kernel)) (two (b := .none) (nice_thing h) no), by omega⟩
      · rw [if_neg c3] at h
        by_cases c4 : x = "undo" ∨ x = "redo"
        · rw [if_pos c4] at h
          have z : r.length = 1 := Classical.byContradiction fun z => by
            rw [markR_ne z] at h
            cases h
          obtain ⟨d1, rfl⟩ := list1 z
          have hs : stampD d1 = true := h
          have ht : thingD d1 = true := by
            unfold thingD
            rw [hs, Bool.true_or]
          have hw : Nice 1 30 (.str x) := by
            rcases c4 with z | z <;>
              · rw [z]
                exact nice_word (by decide +kernel) (by decide +kernel)
          exact ⟨two (b := .none) hw (two (b := .none) (nice_thing ht) no), by omega⟩
        · rw [if_neg c4] at h
          have z : r.length = 2 := Classical.byContradiction fun z => by
            rw [writeR_ne z] at h
            cases h
          obtain ⟨d1, d2, rfl⟩ := list2 z
          have em : writeR x [d1, d2] = (thingD d1 && writeD (.str x) d2) := rfl
          rw [em, Bool.and_eq_true] at h
          obtain ⟨n1, n2⟩ := nice_write h.2
          exact ⟨two (b := .none) n1 (two (b := .none) (nice_thing h.1) (two (b := .none) n2 no)), by omega⟩
/-- a right deed's three items, and itself -/
theorem nice_deed {d : PyData} (h : deedD d = true) : ∃ s k b, d = .tuple [s, k, b] ∧ Nice 1 30 s ∧ Nice 1 60 k ∧ Nice 2 160 b := by
  obtain ⟨t, j, a, b, c, e, x, r, rfl, ht, hj, hk, hb⟩ := deed_shape h
  refine ⟨_, _, _, rfl, ?_, ?_, ?_⟩
  · refine (Nice.tuple (k := 0) (W := 14) fun d hd => ?_).mono (Nat.le_refl _) (by show 2 * (14 + 1) ≤ 30; decide)
    rcases List.mem_cons.mp hd with z | z
    · rw [z]
      exact nice_int (by omega)
    · rw [List.mem_singleton.mp z]
      exact nice_int (by omega)
  · refine (Nice.tuple (k := 0) (W := 14) fun d hd => ?_).mono (Nat.le_refl _) (by show 4 * (14 + 1) ≤ 60; decide)
    obtain ⟨i, rfl, h3, h4⟩ := from_int (List.all_eq_true.mp hk d hd)
    exact nice_int (by omega)
  · obtain ⟨h1, h2⟩ := nice_body hb
    refine (Nice.tuple h1).mono (Nat.le_refl _) ?_
    show (r.length + 1) * (30 + 1) ≤ 160
    omega
end K1
namespace K1
open PySem L2
theorem shows_of {K : PySem.W.Frag} {H : Hp} {v : V} {d : PyData} {k W : Nat} (h : DQ K H v d) (n : Nice k W d) (hk : k ≤ 8) (hW : W ≤ 2 ^ 20) (p : d.hasDict = true → noList d = true) : Shows K H v d :=
  ⟨h, p, n.sh, Nat.le_trans n.dp hk, PyData.shown_fits (B := 13) (by decide) (by decide) n.lv (Nat.le_trans n.wt hW)⟩
/-- neither dicts nor lists -/
def Pure (d : PyData) : Prop := d.hasDict = false ∧ noList d = true
theorem pure_all : ∀ {ds : List PyData}, (∀ d ∈ ds, Pure d) → PyData.hasDictAll ds = false ∧ noListAll ds = true
  | [], _ => ⟨rfl, rfl⟩
  | d :: ds, h => by
    obtain ⟨h1, h2⟩ := pure_all fun e he => h e (List.mem_cons_of_mem _ he)
    obtain ⟨g1, g2⟩ := h d List.mem_cons_self
    refine ⟨?_, ?_⟩
    · show (d.hasDict || PyData.hasDictAll ds) = false
      rw [g1, h1]
      rfl
    · show (noList d && noListAll ds) = true
      rw [g2, h2]
      rfl
theorem Pure.tuple {ds : List PyData} (h : ∀ d ∈ ds, Pure d) : Pure (.tuple ds) := pure_all h
theorem pure_int (i : Int) : Pure (.int i) := ⟨rfl, rfl⟩
theorem pure_str (x : Str) : Pure (.str x) := ⟨rfl, rfl⟩
theorem pure_none : Pure .none := ⟨rfl, rfl⟩
theorem pure_thing {d : PyData} (h : thingD d = true) : Pure d := by
  obtain ⟨a, b, rfl, _⟩ := thing_int h
  exact ⟨rfl, rfl⟩
theorem pure_name {d : PyData} (h : nameD d = true) : Pure d := by
  cases d with
  | str x => exact pure_str x
  | _ => cases h
theorem pure_from {lo hi : Int} {d : PyData} (h : fromD lo hi d = true) : Pure d := by
  obtain ⟨i, rfl, _⟩ := from_int h
  exact pure_int i
theorem pure_noneD {d : PyData} (h : noneD d = true) : Pure d := by
  cases d with
  | none => exact pure_none
  | _ => cases h
theorem pure_binder {d : PyData} (h : binderD d = true) : Pure d := by
  cases e : noneD d with
  | true => exact pure_noneD e
  | false =>
    rw [binder_some e] at h
    exact pure_thing h
theorem pure_content {k c : PyData} (h : contentD k c = true) : Pure k ∧ Pure c := by
  cases k with
  | str x =>
    refine ⟨pure_str x, ?_⟩
    have e : (if x = "let" then nameD c else if x = "use" then binderD c else if x = "number" then fromD 0 99 c else holdsD (.str x) && noneD c) = true := h
    by_cases c1 : x = "let"
    · rw [if_pos c1] at e
      exact pure_name e
    · rw [if_neg c1] at e
      by_cases c2 : x = "use"
      · rw [if_pos c2] at e
        exact pure_binder e
      · rw [if_neg c2] at e
        by_cases c3 : x = "number"
        · rw [if_pos c3] at e
          exact pure_from e
        · rw [if_neg c3, Bool.and_eq_true] at e
          exact pure_noneD e.2
  | _ => cases h
theorem pure_write {x : Str} {c : PyData} (h : writeD (.str x) c = true) : Pure c := by
  have e : (if x = "wish" then nameD c else if x = "point" then binderD c else decide (x = "set") && fromD 0 99 c) = true := h
  by_cases c1 : x = "wish"
  · rw [if_pos c1] at e
    exact pure_name e
  · rw [if_neg c1] at e
    by_cases c2 : x = "point"
    · rw [if_pos c2] at e
      exact pure_binder e
    · rw [if_neg c2, Bool.and_eq_true] at e
      exact pure_from e.2
theorem pure_body {x : Str} {r : List PyData} (h : bodyR x r = true) : ∀ e ∈ PyData.str x :: r, Pure e := by
  have two : ∀ {a : PyData} {l : List PyData}, Pure a → (∀ e ∈ l, Pure e) → ∀ e ∈ a :: l, Pure e := fun h1 h2 e he => by
    rcases List.mem_cons.mp he with z | z
    · rw [z]
      exact h1
    · exact h2 e z
  have no : ∀ e ∈ ([] : List PyData), Pure e := fun e he => absurd he List.not_mem_nil
  refine two (pure_str x) ?_
  unfold bodyR at h
  by_cases c1 : x = "make"
  · rw [if_pos c1] at h
    have z : r.length = 4 := Classical.byContradiction fun z => by
      rw [makeR_ne z] at h
      cases h
    obtain ⟨d1, d2, d3, d4, rfl⟩ := list4 z
    have em : makeR [d1, d2, d3, d4] = (thingD d2 && (fromD 0 999 d3 && contentD d1 d4)) := rfl
    rw [em, Bool.and_eq_true, Bool.and_eq_true] at h
    obtain ⟨n1, n4⟩ := pure_content h.2.2
    exact two n1 (two (pure_thing h.1) (two (pure_from h.2.1) (two n4 no)))
  · rw [if_neg c1] at h
    by_cases c2 : x = "move"
    · rw [if_pos c2] at h
      have z : r.length = 3 := Classical.byContradiction fun z => by
        rw [moveR_ne z] at h
        cases h
      obtain ⟨d1, d2, d3, rfl⟩ := list3 z
      have em : moveR [d1, d2, d3] = (thingD d1 && (thingD d2 && fromD 0 999 d3)) := rfl
      rw [em, Bool.and_eq_true, Bool.and_eq_true] at h
      exact two (pure_thing h.1) (two (pure_thing h.2.1) (two (pure_from h.2.2) no))
    · rw [if_neg c2] at h
      by_cases c3 : x = "drop"
      · rw [if_pos c3] at h
        have z : r.length = 1 := Classical.byContradiction fun z => by
          rw [dropR_ne z] at h
          cases h
        obtain ⟨d1, rfl⟩ := list1 z
        exact two (pure_thing h) no
      · rw [if_neg c3] at h
        by_cases c4 : x = "undo" ∨ x = "redo"
        · rw [if_pos c4] at h
          have z : r.length = 1 := Classical.byContradiction fun z => by
            rw [markR_ne z] at h
            cases h
          obtain ⟨d1, rfl⟩ := list1 z
          have hs : stampD d1 = true := h
          refine two (pure_thing ?_) no
          unfold thingD
          rw [hs, Bool.true_or]
        · rw [if_neg c4] at h
          have z : r.length = 2 := Classical.byContradiction fun z => by
            rw [writeR_ne z] at h
            cases h
          obtain ⟨d1, d2, rfl⟩ := list2 z
          have em : writeR x [d1, d2] = (thingD d1 && writeD (.str x) d2) := rfl
          rw [em, Bool.and_eq_true] at h
          exact two (pure_thing h.1) (two (pure_write h.2) no)
theorem pure_deed {d : PyData} (h : deedD d = true) : ∃ s k b, d = .tuple [s, k, b] ∧ Pure s ∧ Pure k ∧ Pure b := by
  obtain ⟨t, j, a, b, c, e, x, r, rfl, ht, hj, hk, hb⟩ := deed_shape h
  refine ⟨_, _, _, rfl, ⟨rfl, rfl⟩, Pure.tuple fun d hd => pure_from (List.all_eq_true.mp hk d hd), Pure.tuple (pure_body hb)⟩
/-- the odd ones, each small, none with a dict and a list -/
def oddOk (d : PyData) : Bool := d.showable && decide (d.depth ≤ 2) && d.leavesShort 13 && decide (d.weight ≤ 60) && (!d.hasDict || noList d)
end K1
namespace K1
open PySem L2
structure Nm2 (mg : Str → Option Value) : Prop where
  len : mg "len" = none
  max : mg "max" = none
  min : mg "min" = none
  list : mg "list" = none
  range : mg "range" = none
/-- the rounds: 0 .. n - 1, n from one to three -/
def spRounds (K : PySem.W.Frag) : Sp := fun vs H Q _ => ∃ (a : Addr) (xs : List V), vs = [.ref a] ∧ SqL K H a xs ∧ ∀ (n : Nat) p, n ≤ 3 → H p = none → Q (.ref p) (upd H p (.lst ((List.range n).map fun i : Nat => V.int (i : Int))))
section
variable {P : Program} {w : World} {K : PySem.W.Frag} {mg : Str → Option Value} {base : Heap}
theorem sc_rounds : FnScope ["_law_script"] ["_law_script"] (defScope (top 64)) := ⟨rfl, rfl, rfl, by decide +kernel, rfl, by decide +kernel, by decide +kernel⟩
theorem cl_rounds (T : All K mg) (N : Nm2 mg) : Cl P w K mg base 1 "_law_rounds" ["_law_script"] (spRounds K) := by
  obtain ⟨g, fd, D⟩ := T.dn 64 _ _ rfl
  refine D.cl (D.fn.ok sc_rounds (fun vs H Q E h => ?_) (fun cdv A outer s H vs Q E hr h => ?_))
  · obtain ⟨a, xs, rfl, _⟩ := h
    rfl
  · obtain ⟨a, xs, rfl, hS, k⟩ := h
    refine ⟨_, pss_one (ps_ret (pe_listRg rfl (by rfl) N.list (prg_1 (by rfl) N.range (pe_callB (call_max2 rfl) (by rfl) N.max (by decide +kernel) (pa_cons pe_int (pa_cons (pe_callB (call_min2 rfl) (by rfl) N.min (by decide +kernel) (pa_cons (pe_callB call_len_seq (by rfl) N.len PySem.boot_len (pa_cons (pv 0) pa_nil)) (pa_cons pe_int pa_nil))) pa_nil)))))), ?_⟩
    refine ⟨_, rfl, a, xs, rfl, .inl hS, _, _, rfl, _, _, rfl, _, rfl, ?_⟩
    generalize hm : (if (if (3 : Int) < (xs.length : Int) then (3 : Int) else (xs.length : Int)) > 1 then (if (3 : Int) < (xs.length : Int) then (3 : Int) else (xs.length : Int)) else 1) = m
    have hb : 0 ≤ m ∧ m ≤ 3 := by
      rw [← hm]
      split <;> split <;> omega
    refine ⟨RgOk.of_le (by decide) (by omega) (by decide) hb.1, fun q nq => ?_⟩
    have e : rgV 0 m = (List.range m.toNat).map fun i : Nat => V.int (i : Int) := by
      unfold rgV
      rw [Int.sub_zero]
      refine List.map_congr_left fun i _ => ?_
      rw [Int.zero_add]
    rw [e]
    exact k m.toNat q (by omega) nq
end
end K1
namespace K1
open PySem L2
mutual
/-- data without dicts, for the hand layer's rules of == -/
theorem DQ.dp {K : PySem.W.Frag} {H : Hp} : ∀ (d : PyData) (v : V), d.hasDict = false → DQ K H v d → Dp K H v d
  | .none, _, _, h => by
    cases h
    exact .non
  | .bool b, _, _, h => by
    cases h
    exact .bl b
  | .int i, _, _, h => by
    cases h
    exact .int i
  | .str x, _, _, h => by
    cases h
    exact .str x
  | .list ds, _, n, h => by
    cases h with
    | lst h1 h2 => exact .lst h1 (DQs.dp ds _ n h2)
  | .tuple ds, _, n, h => by
    cases h with
    | tup h1 h2 => exact .tup h1 (DQs.dp ds _ n h2)
  | .dict _, _, n, _ => by cases n
theorem DQs.dp {K : PySem.W.Frag} {H : Hp} : ∀ (ds : List PyData) (vs : List V), PyData.hasDictAll ds = false → DQs K H vs ds → DpAll K H vs ds
  | [], _, _, h => by
    cases h
    exact .nil
  | d :: ds, _, n, h => by
    have z : (d.hasDict || PyData.hasDictAll ds) = false := n
    rw [Bool.or_eq_false_iff] at z
    cases h with
    | cons h1 h2 => exact .cons (DQ.dp d _ z.1 h1) (DQs.dp ds _ z.2 h2)
end
/-- pairs of ints in a list: equal to themselves -/
theorem pairs_shaped : ∀ {ks : List (List Int)}, (∀ k ∈ ks, ∃ a b : Int, k = [a, b]) → SeqAt.shaped (.list (ks.map pairD)) = true := by
  intro ks h
  have z : PyData.canLayAll0 (ks.map pairD) = true ∧ PyData.depthAll (ks.map pairD) ≤ 1 := by
    induction ks with
    | nil => exact ⟨rfl, by decide⟩
    | cons k ks ih =>
      obtain ⟨a, b, rfl⟩ := h k List.mem_cons_self
      obtain ⟨h1, h2⟩ := ih fun x hx => h x (List.mem_cons_of_mem _ hx)
      refine ⟨?_, ?_⟩
      · show ((pairD [a, b]).canLay0 && PyData.canLayAll0 (ks.map pairD)) = true
        rw [h1]
        rfl
      · show max (pairD [a, b]).depth (PyData.depthAll (ks.map pairD)) ≤ 1
        exact Nat.max_le.mpr ⟨Nat.le_refl _, h2⟩
  show (PyData.canLay0 (.list (ks.map pairD)) && decide (PyData.depth (.list (ks.map pairD)) ≤ 64)) = true
  have e1 : PyData.canLay0 (.list (ks.map pairD)) = true := z.1
  have e2 : PyData.depth (.list (ks.map pairD)) ≤ 64 := by
    show PyData.depthAll (ks.map pairD) + 1 ≤ 64
    omega
  rw [e1, decide_eq_true e2]
  rfl
/-- two answers in order, of the same pairs, are equal -/
theorem keys_unique {ks ls : List (List Int)} {S : List (List Int)} (h1 : ks.Pairwise lt1000) (h2 : ls.Pairwise lt1000) (m1 : ∀ k, k ∈ ks ↔ k ∈ S) (m2 : ∀ k, k ∈ ls ↔ k ∈ S) : ks = ls :=
  rising_unique (TS.code 1000) h1 h2 fun x => (m1 x).trans (m2 x).symm
end K1
namespace K1
open PySem L2
structure Nms2 (mg : Str → Option Value) : Prop where
  list : mg "list" = none
  range : mg "range" = none
  tuple : mg "tuple" = none
  sorted : mg "sorted" = none
  dict : mg "dict" = none
  repr : mg "repr" = none
  min : mg "min" = none
theorem ixN4 {i : Nat} (h : i < 4) : ixN 4 (i : Int) = some i := by
  unfold ixN
  rw [if_pos (by omega), if_pos (by omega), Int.toNat_natCast]
theorem paired_imp {α β : Type} {F F' : α → β → Prop} (k : ∀ a b, F a b → F' a b) : ∀ {l : List α} {m : List β}, Paired F l m → Paired F' l m
  | _, _, .nil => .nil
  | _, _, .cons r t => .cons (k _ _ r) (paired_imp k t)
end K1
/-! dicts whose keys are pairs, asked by a pair that stands anywhere; the program's small questions -/
namespace K1
open PySem L2 PySem.Spec PyProof.Rows RZ
/-- a key of ints -/
def kI (k : List Int) : List Key := k.map Sum.inl
theorem kI_V (k : List Int) : (kI k).map kV = k.map V.int := by
  unfold kI
  rw [List.map_map]
  rfl
theorem kI_inj {a b : List Int} (h : kI a = kI b) : a = b := by
  have e := congrArg (List.map kV) h
  rw [kI_V, kI_V] at e
  exact List.map_inj_right (fun x y z => V.int.inj z) |>.mp e
section
variable {X : Cx} {pins : List (Addr × Obj)} {σ : L2.St} {H : Hp} {s : Shared}
theorem key_any {b : Addr} {k : List Key} (I : Inv X pins σ H s) (e : SqT X.K H b (k.map kV)) : (tupleKind (mixKind X.prog X.w)).is s.heap k b := by
  obtain ⟨its, r, ⟨o, h1, h2, n, h3⟩, _⟩ := I.tuple e
  exact ⟨o, its.toArray, n, h1, h2, h3, by simpa using items_are r⟩
/-- b in the dict at a -/
def rInT (K : PySem.W.Frag) (neg : Bool) : R2 := fun x y H Q => ∃ a b kvs, ∃ k : List Int, x = .ref b ∧ y = .ref a ∧ Rd H a (.dT kvs) ∧ SqT K H b (k.map V.int) ∧ Q (.bl (neg != (valV kvs (kI k)).isSome)) H
theorem op_inDT (hu : X.A.units + 1 < cLine) : OpR X (compareOp .In) (rInT X.K false) := by
  intro pins s σ H x y v u Q I rx ry h
  obtain ⟨a, b, kvs, k, rfl, rfl, hd, hk, q⟩ := h
  cases rx
  cases ry
  obtain ⟨_, hs, xs, rel, dd⟩ := dt_rd I.hok hd
  refine wpAny_in_heap (tupleKind_room_in1 hu) (key_any (k := kI k) I (by rw [kI_V]; exact hk)) hs dd ?_
  have z := (rel.val (kI k)).isSome_eq
  rw [Option.isSome_map] at z
  refine ⟨_, H, I.tok _, ?_, q⟩
  show Value.bool _ = Value.bool _
  rw [← z]
  simp
theorem op_notInDT (hu : X.A.units + 1 < cLine) : OpR X (compareOp .NotIn) (rInT X.K true) := by
  intro pins s σ H x y v u Q I rx ry h
  obtain ⟨a, b, kvs, k, rfl, rfl, hd, hk, q⟩ := h
  cases rx
  cases ry
  obtain ⟨_, hs, xs, rel, dd⟩ := dt_rd I.hok hd
  refine wpAny_notIn_heap (tupleKind_room_in1 hu) (key_any (k := kI k) I (by rw [kI_V]; exact hk)) hs dd ?_
  have z := (rel.val (kI k)).isSome_eq
  rw [Option.isSome_map] at z
  refine ⟨_, H, I.tok _, ?_, q⟩
  show Value.bool _ = Value.bool _
  rw [← z]
  cases (valV kvs (kI k)).isSome <;> rfl
/-- the dict at x, asked for the pair at y -/
def tDTGet (K : PySem.W.Frag) (td ty : TE) : TE := fun σ H Q => td σ H fun x H1 => ty σ H1 fun y H2 => ∃ a b kvs v, ∃ k : List Int, x = .ref a ∧ y = .ref b ∧ Rd H2 a (.dT kvs) ∧ SqT K H2 b (k.map V.int) ∧ valV kvs (kI k) = some v ∧ Q v H2
theorem pe_dtget {o i : Expr} {td ty : TE} {pos : Pos} (hu : X.A.units + 1 < cLine) (ho : PE X o td) (hi : PE X i ty) (hs : NoSl i) : PE X (.Subscript o i pos) (tDTGet X.K td ty) := by
  refine ⟨fun pins s σ H Q I h => ?_⟩
  refine subD_of PySem.F.slot_dict_getitem.lookup hs (thn (ho.run pins s σ H _ I h) fun u s1 q1 => ?_)
  obtain ⟨x, H1, I1, rx, q1⟩ := q1
  refine thn (hi.run pins s1 σ H1 _ I1 q1) fun iv s2 q2 => ?_
  obtain ⟨y, H2, I2, ry, a, b, kvs, v, k, rfl, rfl, hd, hk, hv, q⟩ := q2
  cases rx
  cases ry
  obtain ⟨_, hm, xs, rel, dd⟩ := dt_rd I2.hok hd
  refine ⟨?_, ?_⟩
  · obtain ⟨ob, es, ep, e1, e2, _⟩ := id dd
    exact ⟨ob, e1, e2.1⟩
  · obtain ⟨w', hw, rw'⟩ := RelO.some_of (v := v) (o := (atKey xs (kI k)).map (·.2)) (by rw [← hv]; exact rel.val (kI k))
    obtain ⟨p, hp, hp2⟩ := Option.map_eq_some_iff.mp hw
    refine wpAny_getItem_heap (tupleKind_room_in1 hu) (key_any (k := kI k) I2 (by rw [kI_V]; exact hk)) dd hp ?_
    rw [hp2]
    exact ⟨v, H2, I2.tok _, rw', q⟩
end
/-! ### is_listing -/
def listD : PyData → Bool
  | .list _ => true
  | .tuple _ => true
  | _ => false
theorem kit_list2 {K : PySem.W.Frag} (d : PyData) : PySem.W.kitAny K (.type (tyD d)) [.type "list", .type "tuple"] = some (listD d) := by
  have e1 : ∀ b, kitB (tyD d) "list" = some b → PySem.W.kitOne K (.type (tyD d)) (.type "list") = some b := fun b h => kit_ty h
  have e2 : ∀ b, kitB (tyD d) "tuple" = some b → PySem.W.kitOne K (.type (tyD d)) (.type "tuple") = some b := fun b h => kit_ty h
  unfold PySem.W.kitAny PySem.W.kitAny PySem.W.kitAny
  cases d <;> (simp only [tyD] at e1 e2; simp only [tyD, listD]; first | rw [e1 true (by decide +kernel)] | (rw [e1 false (by decide +kernel)]; first | rw [e2 true (by decide +kernel)] | rw [e2 false (by decide +kernel)]))
section
variable {P : Program} {w : World} {K : PySem.W.Frag} {mg : Str → Option Value} {base : Heap}
theorem sc_listing : FnScope ["value"] ["value"] (defScope (top 5)) := ⟨rfl, rfl, rfl, by decide +kernel, rfl, by decide +kernel, by decide +kernel⟩
theorem cl_listing (T : All K mg) (M2 : Nms2 mg) : Cl P w K mg base 1 "is_listing" ["value"] (spD K listD) := by
  obtain ⟨g, fd, D⟩ := T.dn 5 _ _ rfl
  refine D.cl (D.fn.ok sc_listing (fun vs H Q E h => ?_) (fun cdv A outer s H vs Q E hr h => ?_))
  · obtain ⟨v, d, rfl, _⟩ := h
    rfl
  · obtain ⟨v, d, rfl, hd, k⟩ := h
    refine ⟨_, pss_one (ps_ret (pe_callB call_isiT (by rfl) T.bi.isi (by decide +kernel) (pa_cons (pv 0) (pa_cons (pe_tup (pa_cons (pe_bltn (v := .ty "list") (by rfl) M2.list (by decide +kernel) rfl) (pa_cons (pe_bltn (v := .ty "tuple") (by rfl) M2.tuple (by decide +kernel) rfl) pa_nil))) pa_nil)))), ?_⟩
    refine ⟨_, rfl, (by show 2 ≤ sizeLine; rw [sizeLine_eq]; decide), fun tp nt => ?_⟩
    have S := K0.same_upd (o := .tup [.ty "list", .ty "tuple"]) nt
    exact ⟨_, tp, _, _, _, _, rfl, upd_same, .cons (.ty "list") (.cons (.ty "tuple") .nil), tyX_of (hd.to S), kit_list2 d, k _ S⟩
/-! ### are_at_most, has_seen_stamp -/
def atMost (es fs : List Int) : Bool := (List.range es.length).all fun i => decide (es.getD i 0 ≤ fs.getD i 0)
def spMost (K : PySem.W.Frag) : Sp := fun vs H Q _ => ∃ a b, ∃ es fs : List Int, vs = [.ref a, .ref b] ∧ SqT K H a (es.map V.int) ∧ SqT K H b (fs.map V.int) ∧ es.length = fs.length ∧ es.length ≤ 100 ∧ ∀ H', Same H H' → Q (.bl (atMost es fs)) H'
theorem int_at {es : List Int} {i : Nat} {x : V} (h : (es.map V.int)[i]? = some x) : x = .int (es.getD i 0) := by
  rw [List.getElem?_map] at h
  obtain ⟨y, hy, rfl⟩ := Option.map_eq_some_iff.mp h
  rw [List.getD_eq_getElem?_getD, hy]
  rfl
theorem walk_zipT {a b : Addr} {xs ys : List V} (hl : xs.length = ys.length) : Walk (ItzT K a b) xs.length (fun H => SqT K H a xs ∧ SqT K H b ys) (YPair (fun i => xs[i]?) (fun i => ys[i]?)) :=
  ⟨fun i H hi q => ⟨xs, ys, xs[i], ys[i]'(by omega), q.1, q.2, by simp [hi], by simp [show i < ys.length by omega]⟩, fun H q => ⟨xs, ys, q.1, q.2, .inl (Nat.le_refl _)⟩, fun i H x H' hi q y => by
    obtain ⟨T, u, v, e, n, e2, h1, h2⟩ := y
    exact ⟨T, u, v, e, n, e2, h1 xs q.1, h2 ys q.2⟩⟩
theorem sc_most : FnScope ["ones", "others", "one", "other"] ["ones", "others"] (defScope (top 6)) := ⟨rfl, rfl, rfl, by decide +kernel, rfl, by decide +kernel, by decide +kernel⟩
theorem cl_most (T : All K mg) (hzip : mg "zip" = none) : Cl P w K mg base 1 "are_at_most" ["ones", "others"] (spMost K) := by
  obtain ⟨g, fd, D⟩ := T.dn 6 _ _ rfl
  refine D.cl (D.fn.ok sc_most (fun vs H Q E h => ?_) (fun cdv A outer s H vs Q E hr h => ?_))
  · obtain ⟨a, b, es, fs, rfl, _⟩ := h
    rfl
  · obtain ⟨a, b, es, fs, rfl, ha, hb, hl, hz, k⟩ := h
    refine ⟨_, pss_one (ps_ret (pe_callB (cr_all rfl) (by rfl) T.bi.all (by decide +kernel) (pa_cons (pe_lc (own := [("one", 2), ("other", 3)]) (g := gTup K 2 (gCons (gName 2) (gCons (gName 3) gNil))) (te := tOp (rI0 fun i j => .bl (decide (i ≤ j))) (tVar 2) (tVar 3)) (tt := tYes) rfl sc_most.nd (pi_zipA (by rfl) hzip (pa_cons (pv 0) (pa_cons (pv 1) pa_nil))) (blkOk_by (own := [("one", 2), ("other", 3)]) (N := ["ones", "others", "one", "other"]) (sc := defScope (top 6)) (by decide +kernel))
        (fun _ _ _ _ _ => pg_tup rfl (pgs_cons (pg_name (i := 2) sc_most.nd rfl (Or.inl rfl)) (pgs_cons (pg_name (i := 3) sc_most.nd rfl (Or.inl rfl)) pgs_nil))) (fun _ _ _ _ _ => pts_nil) (fun _ _ _ _ _ => pe_cmpR op_le (pv 2) (pv 3) (nomark _))) pa_nil))), ?_⟩
    refine ⟨_, rfl, _, rfl, a, b, _, _, rfl, .inr ⟨ha, hb, fun Dd nD => ?_⟩⟩
    have hl2 : (es.map V.int).length = (fs.map V.int).length := by rw [List.length_map, List.length_map, hl]
    refine lc_it (walk_zipT (K := K) (a := a) (b := b) hl2) (fun i H' => i ≤ es.length ∧ Same H H' ∧ H' Dd = some (.lst ((List.range i).map fun i => V.bl (decide (es.getD i 0 ≤ fs.getD i 0))))) ⟨Nat.zero_le _, K0.same_upd nD, upd_same⟩ (fun i H' _ ⟨_, s, _⟩ => ⟨K0.seqT_same s ha, K0.seqT_same s hb⟩) ?_ (fun H' ⟨_, s, hD⟩ => ?_)
    · rintro i x J J' hi ⟨hle, s, hD⟩ ⟨T0, u, v, rfl, nT, rfl, h1, h2⟩
      rw [List.length_map] at hi
      have s2 := K0.same_upd (o := .tup [u, v]) nT
      have hT := @upd_same J T0 (.tup [u, v])
      generalize upd J T0 (.tup [u, v]) = J2 at s2 hT ⊢
      cases int_at h1
      cases int_at h2
      refine ⟨_, _, rfl, .inl (.inl hT), rfl, _, _, rfl, _, _, rfl, rfl, rfl, ?_⟩
      unfold tYes
      dsimp only
      rw [if_pos rfl]
      refine ⟨_, rfl, _, rfl, _, _, rfl, rfl, _, s2 _ _ hD, ?_, hi, K0.same_over (s.trans s2) nD, ?_⟩
      · rw [List.length_map, List.length_range, sizeLine_eq]
        omega
      · rw [upd_same, List.range_succ, List.map_append]
        rfl
    · rw [List.length_map] at hD
      refine ⟨Dd, (List.range es.length).map fun i => decide (es.getD i 0 ≤ fs.getD i 0), rfl, SqL.of (hD.trans (by rw [List.map_map]; rfl)), ?_⟩
      have z := k H' s
      have e : ((List.range es.length).map fun i => decide (es.getD i 0 ≤ fs.getD i 0)).all id = atMost es fs := by
        unfold atMost
        rw [List.all_map]
        rfl
      rw [e]
      exact z
end
end K1
/-! enumerate of a tuple -/
namespace PySem
open Sem (wp)
theorem enum_one {v : Value} {o : Obj} {G : Heap → Prop} (B : Begins v o G) :
    Meets (Builtin.«enumerate.__new__» ⟨[.type "enumerate", v], []⟩) (fun _ R s => G s.heap ∧
      R (.ok (.ret (.ref (Heap.push s.heap o).objs.size))) { s with heap := (Heap.push s.heap o).push { cls := .type "enumerate", data := .fields #[.none, .bool false, .ref s.heap.objs.size, rawInt 0, .none, .none] } }) :=
  .of_wp fun prog w A R st hg => by
    obtain ⟨hp, gs, dr, tk, os⟩ := st
    obtain ⟨g1, hr⟩ := hg
    have su := sub_enumerate
    have it : ∀ {A2 : Around} {E : Value → Shared → Prop} {Q : Value → Shared → Prop}, Q (.ref hp.objs.size) ⟨hp.push o, gs, dr, tk, os⟩ → wpAny (model prog w) A2 (pyIter v) Q E ⟨hp, gs, dr, tk, os⟩ :=
      fun z => B.iter prog w _ _ ⟨hp, gs, dr, tk, os⟩ _ g1 z
    wp_walk using it
    refine wpAny_stack_any fun st2 => wpAny_pure ?_
    split
    · rename_i cc _ _ _ _ _
      cases (cc == Value.type "enumerate") <;> (wp_walk using it; exact ⟨_, rfl, hr⟩)
    · wp_walk using it
      exact ⟨_, rfl, hr⟩
theorem enum_of {prog : Program} {w : World} {A : Around} {E : Value → Shared → Prop} {s : Shared} {v : Value} {o : Obj} {G : Heap → Prop} {Q : Value → Shared → Prop} (B : Begins v o G) (g : G s.heap)
    (q : ∀ h2, IsEnum h2 (s.heap.objs.size + 1) s.heap.objs.size 0 .none → h2.get? s.heap.objs.size = some o → h2.objs.size = s.heap.objs.size + 2 → (∀ b u, s.heap.get? b = some u → h2.get? b = some u) → Q (.ref (s.heap.objs.size + 1)) { s with heap := h2 }) :
    wpAny (model prog w) A (call (.type "enumerate") [v]) Q E s := by
  refine callType_new F.called_enumerate (by decide) (F.typeCall_enumerate_1 _) (F.newCall_enumerate_1 _) (fun ob => F.args_object_init_2 ob _) F.entry_enumerate_new (enum_one B) ⟨g, ?_⟩
  have z : (s.heap.push o).objs.size = s.heap.objs.size + 1 := Heap.size_push ..
  show _ ∧ _
  rw [z]
  have en : IsEnum ((s.heap.push o).push { cls := .type "enumerate", data := .fields #[.none, .bool false, .ref s.heap.objs.size, rawInt 0, .none, .none] }) (s.heap.objs.size + 1) s.heap.objs.size 0 .none := by
    have y := Heap.get?_push_size (s.heap.push o) (o := { cls := .type "enumerate", data := .fields #[.none, .bool false, .ref s.heap.objs.size, rawInt 0, .none, .none] }) rfl
    rw [z] at y
    exact y
  exact ⟨⟨_, en, rfl⟩, q _ en (Heap.get?_push_of_some _ (Heap.get?_push_size _ B.free)) (by rw [Heap.size_push, z]) fun b u x => Heap.get?_push_of_some _ (Heap.get?_push_of_some _ x)⟩
theorem enum_end {prog : Program} {w : World} {A : Around} {E : Value → Shared → Prop} {s : Shared} {e it l : Addr} {k : Int} {i : Nat} {old : Value} {items : Array Value} {Q : Option Value → Shared → Prop} (hh : A.handled = none) (he : IsEnum s.heap e it k old)
    (hit : s.heap.IsTupleIter it l i) (hl : s.heap.IsTuple l items) (hx : items[i]? = none) (q : ∀ h2, Heap.ExtBut it s.heap h2 → Q none { s with heap := h2 }) : wpAny (model prog w) A (pyNext (.ref e)) Q E s := by
  have ty : s.TypeIs (.ref e) "enumerate" := ⟨_, he, rfl⟩
  unfold pyNext
  refine wpAny_bind (wpAny_attempt ?_)
  refine wpAny_callSpecial?_slot (name := Str.ofString "__next__") ty F.slot_enumerate_next ?_
  refine wpAny_call_entry F.slot_enumerate_next ty F.entry_enumerate_next ?_ (F.args_enumerate_next_1 _)
  show wpAny _ _ (field (.ref e) 2 >>= _) _ _ _
  refine wpAny_bind (wpAny_field he rfl (x := .ref it) rfl ?_)
  refine wpAny_bind (wpAny_nextOf_tuple_end hh hit hl hx fun h2 x eb ex => ?_)
  obtain ⟨o, ho, hc⟩ := ex
  exact wpAny_bind (wpAny_isInstance (T := "StopIteration") (b := true) ⟨o, ho, hc⟩ isSubtype_stop (wpAny_pure (q _ eb)))
end PySem
namespace K1
open PySem L2 PySem.Spec PyProof.Rows RZ
/-- the tuple at a, each item in a new pair with its place -/
def IteT (K : PySem.W.Frag) (a : Addr) : It :=
  ⟨fun i H => ∃ (xs : List V) (x : V), SqT K H a xs ∧ xs[i]? = some x, fun i H v H' => ∃ T x, v = .ref T ∧ H T = none ∧ H' = upd H T (.tup [.int (i : Nat), x]) ∧ ∀ xs, SqT K H a xs → xs[i]? = some x, fun i H => ∃ xs : List V, SqT K H a xs ∧ xs.length ≤ i⟩
theorem turn_enumT {P : Program} {w : World} {K : PySem.W.Frag} {elts : List Expr} {kk : Nat} {tpos : Pos} (a e it : Addr) :
    Turn P w K (.Tuple elts kk tpos) (IteT K a) [e, it] e (fun i h => (∃ old, IsEnum h e it ((i : Nat) : Int) old) ∧ h.IsTupleIter it a i ∧ e ≠ it) where
  mem := by simp
  obj := fun i h st b hb => by
    obtain ⟨⟨old, he⟩, ⟨o, ho, hc, hd⟩, _⟩ := st
    rcases (show b = e ∨ b = it by simpa using hb) with z | z
    · rw [z]
      exact ⟨_, he, fun v q => nomatch q⟩
    · rw [z]
      exact ⟨o, ho, fun v q => by rw [hd] at q; cases q⟩
  keep := fun i h h' st k => ⟨⟨st.1.choose, k e (by simp) _ st.1.choose_spec⟩, st.2.1.at fun o q => k it (by simp) o q, st.2.2⟩
  item := by
    intro X hP hw hK hc i pins s σ H E I hf st hg
    subst hP hw hK
    obtain ⟨⟨old, he⟩, hit, hne⟩ := st
    obtain ⟨xs, x, hq, hx⟩ := hg
    obtain ⟨its, rv, p, hz⟩ := I.tuple hq
    obtain ⟨u, hu, ru⟩ := rv.get hx
    have el : e < s.heap.objs.size := Heap.lt_size he
    have il : it < s.heap.objs.size := by
      obtain ⟨_, q, _⟩ := hit
      exact Heap.lt_size q
    have al : a < s.heap.objs.size := by
      obtain ⟨_, q, _⟩ := p
      exact Heap.lt_size q
    have nae : a ≠ e := fun z => by
      obtain ⟨_, q, qc, _⟩ := p
      rw [z, he] at q
      cases q
      injection qc with qc
      exact absurd qc (by decide)
    have nai : a ≠ it := fun z => by
      obtain ⟨_, q, qc, _⟩ := p
      obtain ⟨_, q2, qc2, _⟩ := hit
      rw [z, q2] at q
      cases q
      rw [qc2] at qc
      injection qc with qc
      exact absurd qc (by decide)
    have hlt : i < its.toArray.size := by
      have := (List.getElem?_eq_some_iff.mp hu).1
      simpa using this
    refine wpAny_pyNext_enum_itemD (Draws.tuple (prog := X.prog) (w := X.w) (A := X.A.in1) (I.ok.hd hc) it a nai its.toArray) he ⟨hit, p⟩ hlt hne (by simp [hne, Ne.symm nae]) fun y h' tk hP ho hs' hT hsz hk => ?_
    have ey : y = u := by
      have z : its.toArray[i]? = some y := hP
      have z2 : its[i]? = some y := by simpa using z
      rw [hu] at z2
      exact (Option.some.inj z2).symm
    subst ey
    refine ⟨_, rfl, wpAny_letOwnedTupleGo_enum (s := { s with heap := h', toks := tk + 1 }) ho fun h2 he2 sb => ?_⟩
    have hT2 : h2.get? s.heap.objs.size = some { cls := .type "tuple", data := .seq #[.int i tk, y] } := (sb.2 _ (Nat.ne_of_gt el)).trans hT
    have new : ObjOk X.prog X.w (upd H s.heap.objs.size (.tup [.int (i : Nat), x])) h2 s.heap.objs.size (.tup [.int (i : Nat), x]) :=
      ⟨by show 2 ≤ sizeLine; decide, [.int i tk, y], .cons ⟨_, rfl⟩ (.cons ru .nil), ⟨_, hT2, rfl, _, rfl⟩⟩
    have I1 : Inv X pins σ (upd H s.heap.objs.size (.tup [.int (i : Nat), x])) { s with heap := h2, toks := tk + 1 } :=
      I.turnedNew (t' := tk + 1) (ch := [e, it]) (fun b ob hb q => (sb.2 b (fun z => hb (by simp [z]))).trans (hk b ob (fun z => hb (by simp [z])) (fun z => hb (by simp [z])) q)) hf (Nat.le_refl _) new
    refine ⟨.ref s.heap.objs.size, _, I1, rfl, ⟨_, x, rfl, I.hok.fresh (Nat.le_refl _), rfl, fun ys hy => by rw [I.tuple_inj hy hq]; exact hx⟩, ⟨⟨y, ?_⟩, hs'.1.at fun o q => (sb.2 it (Ne.symm hne)).trans q, hne⟩, fun b hb => ?_⟩
    · rw [show ((i + 1 : Nat) : Int) = (i : Int) + 1 from by omega]
      exact he2
    · have bl : b < s.heap.objs.size := by
        rcases (show b = e ∨ b = it by simpa using hb) with z | z
        · rw [z]; exact el
        · rw [z]; exact il
      rw [upd_ne (Nat.ne_of_lt bl)]
      exact (hf b hb).1
  done := by
    intro X hP hw hK hc i pins s σ H E I hf st hg
    subst hP hw hK
    obtain ⟨⟨old, he⟩, hit, hne⟩ := st
    obtain ⟨xs, hq, hx⟩ := hg
    obtain ⟨its, rv, p, hz⟩ := I.tuple hq
    obtain ⟨f0, f1, f2, f3, f4, f5⟩ := hf it (by simp)
    have hl := rv.length
    have nai : a ≠ it := fun z => by
      obtain ⟨_, q, qc, _⟩ := p
      obtain ⟨_, q2, qc2, _⟩ := hit
      rw [z, q2] at q
      cases q
      rw [qc2] at qc
      injection qc with qc
      exact absurd qc (by decide)
    exact enum_end (I.ok.hd hc) he hit p (by simp; omega) fun h' eb => ⟨rfl, I.turned (t' := s.toks) (fun b o hb q => eb b o hb q) f0 f1 f3 f4 f5⟩
  self := fun A i s Q E st h => wpAny_pyIter_enum st.1.choose_spec h
theorem walk_enumT {K : PySem.W.Frag} {a : Addr} {xs : List V} : Walk (IteT K a) xs.length (fun H => SqT K H a xs) (YPair (fun i => some (.int (i : Nat))) (fun i => xs[i]?)) :=
  ⟨fun i H hi q => ⟨xs, xs[i], q, by simp [hi]⟩, fun H q => ⟨xs, q, Nat.le_refl _⟩, fun i H x H' hi q y => by
    obtain ⟨T, u, e, n, e2, h1⟩ := y
    exact ⟨T, _, u, e, n, e2, rfl, h1 xs q⟩⟩
def iEnumA (K : PySem.W.Frag) (ta : TA) : TI := fun σ H R => ta σ H fun vs H1 => ∃ a xs, vs = [.ref a] ∧ ((SqL K H1 a xs ∧ R (Ite K a) H1) ∨ (SqT K H1 a xs ∧ R (IteT K a) H1))
theorem pi_enumA {X : Cx} {e : Expr} {ta : TA} {p pos tpos : Pos} {elts : List Expr} {kk : Nat} (hg : Gl X "enumerate") (hm : X.mg "enumerate" = none) (ha : PA X [e] ta) (hs : starEach [e] X.env = [(false, eval e X.env)] := by rfl) :
    PI X (.Tuple elts kk tpos) (.Call (.Name "enumerate" p) [e] [] pos) (iEnumA X.K ta) := by
  refine ⟨fun pins s σ H R I h => ?_⟩
  refine Call_ (ld_blt I hg hm boot_enumerate (PyProof.Rows.callWith_type1 (thn (ha.run pos pins s σ H _ I h) fun us s1 hh => ?_) hs rfl))
  obtain ⟨vs, H1, I1, r1, a, xs, ex, q1⟩ := hh
  subst ex
  obtain ⟨u, rfl, r⟩ := r1.one
  cases r
  have two : ∀ b ∈ [s1.heap.objs.size + 1, s1.heap.objs.size], FpOk X pins H1 b := fun b hb => by
    have hle : s1.heap.objs.size ≤ b := by
      rcases (show b = s1.heap.objs.size + 1 ∨ b = s1.heap.objs.size by simpa using hb) with z | z
      · rw [z]; exact Nat.le_add_right _ _
      · rw [z]; exact Nat.le_refl _
    exact I1.fpOk hle (I1.hok.fresh hle)
  rcases q1 with ⟨hq, q⟩ | ⟨hq, q⟩
  · obtain ⟨its, rv, p', hz⟩ := I1.list hq
    refine call_enumerate_list p'.isList fun h2 he hit hsz hk => wpAny_pyIter_enum he ?_
    exact ⟨s1.heap.objs.size + 1, [s1.heap.objs.size + 1, s1.heap.objs.size], _, _, H1, rfl, I1.kept (t' := s1.toks) hk, turn_enum a (s1.heap.objs.size + 1) s1.heap.objs.size, ⟨⟨.none, he⟩, hit, Nat.succ_ne_self _⟩, two, q⟩
  · obtain ⟨its, rv, p', hz⟩ := I1.tuple hq
    refine enum_of (begins_tuple a its.toArray) p' fun h2 he hit hsz hk => wpAny_pyIter_enum he ?_
    exact ⟨s1.heap.objs.size + 1, [s1.heap.objs.size + 1, s1.heap.objs.size], _, _, H1, rfl, I1.kept (t' := s1.toks) hk, turn_enumT a (s1.heap.objs.size + 1) s1.heap.objs.size, ⟨⟨.none, he⟩, ⟨_, hit, rfl, rfl⟩, Nat.succ_ne_self _⟩, two, q⟩
end K1
namespace K1
open PySem L2 PySem.Spec PyProof.Rows RZ
/-! ### the parts of a deed, as numbers -/
def intD : PyData → Int
  | .int i => i
  | _ => 0
def snD : PyData → List Int
  | .tuple [_, .tuple es, _] => es.map intD
  | _ => []
def keyD : PyData → List Int
  | .tuple [.tuple [.int t, .int j], _, _] => [t, j]
  | _ => []
def atD (ds : List PyData) (k : List Int) : Option PyData := ds.find? fun d => decide (keyD d = k)
theorem ints_of {lo hi : Int} : ∀ {es : List PyData}, es.all (fromD lo hi) = true → es = (es.map intD).map PyData.int ∧ ∀ e ∈ es.map intD, lo ≤ e ∧ e ≤ hi
  | [], _ => ⟨rfl, fun e h => absurd h List.not_mem_nil⟩
  | d :: es, h => by
    rw [List.all_cons, Bool.and_eq_true] at h
    obtain ⟨i, rfl, h1, h2⟩ := from_int h.1
    obtain ⟨e1, e2⟩ := ints_of h.2
    refine ⟨?_, fun e he => ?_⟩
    · show PyData.int i :: es = PyData.int i :: ((es.map intD).map PyData.int)
      rw [← e1]
    · rcases List.mem_cons.mp he with z | z
      · rw [z]
        exact ⟨h1, h2⟩
      · exact e2 e z
theorem dqs_ints {K : PySem.W.Frag} {H : Hp} : ∀ {es : List Int} {us : List V}, DQs K H us (es.map PyData.int) → us = es.map V.int
  | [], _, h => by
    cases h
    rfl
  | e :: es, _, h => by
    cases h with
    | cons h1 h2 =>
      cases h1
      rw [dqs_ints h2]
      rfl
/-- what a right deed is, part by part -/
structure Parts (K : PySem.W.Frag) (H : Hp) (v : V) (d : PyData) : Prop where
  ex : ∃ (a sa ka : Addr) (ub : V) (t j : Int) (x : Str) (r : List PyData), v = .ref a ∧ SqT K H a [.ref sa, .ref ka, ub] ∧ SqT K H sa [.int t, .int j] ∧ SqT K H ka ((snD d).map V.int) ∧ DQ K H ub (.tuple (.str x :: r)) ∧
    keyD d = [t, j] ∧ (1 ≤ t ∧ t ≤ 999) ∧ (0 ≤ j ∧ j ≤ 3) ∧ bodyR x r = true ∧ d = .tuple [.tuple [.int t, .int j], .tuple ((snD d).map PyData.int), .tuple (.str x :: r)]
  four : (snD d).length = 4
  seen : ∀ e ∈ snD d, 0 ≤ e ∧ e ≤ 998
theorem parts_of {K : PySem.W.Frag} {H : Hp} {v : V} {d : PyData} (h : DQ K H v d) (r : deedD d = true) : Parts K H v d := by
  obtain ⟨t, j, e0, e1, e2, e3, x, l, rfl, ht, hj, hk, hb⟩ := deed_shape r
  obtain ⟨q1, q2⟩ := ints_of hk
  cases h with
  | tup g1 g2 =>
    cases g2 with
    | cons h1 g2 =>
      cases g2 with
      | cons h2 g2 =>
        cases g2 with
        | cons h3 g2 =>
          cases g2
          cases h1 with
          | tup s1 s2 =>
            cases h2 with
            | tup k1 k2 =>
              have z := dqs_ints (es := [e0, e1, e2, e3].map intD) (by rw [← q1]; exact k2)
              refine ⟨⟨_, _, _, _, t, j, x, l, rfl, g1, ?_, ?_, h3, rfl, ht, hj, hb, ?_⟩, rfl, fun e he => ⟨(q2 e he).1, by have := (q2 e he).2; omega⟩⟩
              · cases s2 with
                | cons i1 s2 =>
                  cases s2 with
                  | cons i2 s2 =>
                    cases s2
                    cases i1
                    cases i2
                    exact s1
              · rw [z] at k1
                exact k1
              · show PyData.tuple [_, .tuple [e0, e1, e2, e3], _] = .tuple [_, .tuple (([e0, e1, e2, e3].map intD).map PyData.int), _]
                rw [← q1]
/-- the table: keys and deeds -/
def Tb (K : PySem.W.Frag) (H : Hp) (kvs : List (List Key × V)) (ds : List PyData) : Prop := Paired (fun (p : List Key × V) d => p.1 = kI (keyD d) ∧ DQ K H p.2 d) kvs ds
theorem Tb.to {K : PySem.W.Frag} {H H' : Hp} {kvs : List (List Key × V)} {ds : List PyData} (h : Tb K H kvs ds) (s : Same H H') : Tb K H' kvs ds := paired_imp (fun _ _ r => ⟨r.1, r.2.to s⟩) h
theorem tb_at {K : PySem.W.Frag} {H : Hp} (k : List Int) : ∀ {kvs : List (List Key × V)} {ds : List PyData}, Tb K H kvs ds → (∃ v d, valV kvs (kI k) = some v ∧ atD ds k = some d ∧ DQ K H v d) ∨ (valV kvs (kI k) = none ∧ atD ds k = none)
  | [], _, h => by
    cases h
    exact .inr ⟨rfl, rfl⟩
  | p :: kvs, _, h => by
    cases h with
    | @cons _ d _ ds r t =>
      by_cases e : keyD d = k
      · refine .inl ⟨p.2, d, ?_, ?_, r.2⟩
        · unfold valV
          rw [List.find?_cons_of_pos (by rw [decide_eq_true_eq, r.1, e])]
          rfl
        · unfold atD
          rw [List.find?_cons_of_pos (by rw [decide_eq_true_eq, e])]
      · have e1 : valV (p :: kvs) (kI k) = valV kvs (kI k) := by
          unfold valV
          rw [List.find?_cons_of_neg (by rw [decide_eq_true_eq, r.1]; exact fun z => e (kI_inj z))]
        have e2 : atD (d :: ds) k = atD ds k := by
          unfold atD
          rw [List.find?_cons_of_neg (by rw [decide_eq_true_eq]; exact e)]
        rw [e1, e2]
        exact tb_at k t
theorem atD_mem {ds : List PyData} {k : List Int} {d : PyData} (h : atD ds k = some d) : d ∈ ds ∧ keyD d = k := ⟨List.mem_of_find?_eq_some h, of_decide_eq_true (List.find?_some (p := fun d => decide (keyD d = k)) h)⟩
theorem rd_same {H H' : Hp} {a : Addr} {u : HO} (h : Rd H a u) (s : Same H H') : Rd H' a u := by
  rcases h with h | ⟨o, h⟩
  · exact .inl (s _ _ h)
  · exact .inr ⟨o, s _ _ h⟩
theorem at_int {es : List Int} {j : Nat} (h : j < es.length) : atI (es.map V.int) (j : Int) = some (.int (es.getD j 0)) := by
  refine atI_nat ?_
  rw [List.getElem?_map, List.getElem?_eq_getElem h, List.getD_eq_getElem?_getD, List.getElem?_eq_getElem h]
  rfl
/-! ### has_seen_stamp -/
def seenBy (d : PyData) (k : List Int) : Bool := decide (k.getD 0 0 ≤ (snD d).getD (k.getD 1 0).toNat 0)
def spSaw (K : PySem.W.Frag) : Sp := fun vs H Q _ => ∃ v d b, ∃ t j : Int, vs = [v, .ref b] ∧ DQ K H v d ∧ deedD d = true ∧ SqT K H b [.int t, .int j] ∧ 0 ≤ j ∧ j ≤ 3 ∧ ∀ H', Same H H' → Q (.bl (seenBy d [t, j])) H'
section
variable {P : Program} {w : World} {K : PySem.W.Frag} {mg : Str → Option Value} {base : Heap}
theorem sc_saw : FnScope ["deed", "stamp"] ["deed", "stamp"] (defScope (top 29)) := ⟨rfl, rfl, rfl, by decide +kernel, rfl, by decide +kernel, by decide +kernel⟩
theorem cl_saw (T : All K mg) : Cl P w K mg base 1 "has_seen_stamp" ["deed", "stamp"] (spSaw K) := by
  obtain ⟨g, fd, D⟩ := T.dn 29 _ _ rfl
  refine D.cl (D.fn.ok sc_saw (fun vs H Q E h => ?_) (fun cdv A outer s H vs Q E hr h => ?_))
  · obtain ⟨v, d, b, t, j, rfl, _⟩ := h
    rfl
  · obtain ⟨v, d, b, t, j, rfl, hd, hD, hb, j0, j3, k⟩ := h
    refine ⟨_, pss_one (ps_ret (pe_cmpR op_le (pe_ix ix_tup (pv 1) pe_int (fun _ _ => rfl)) (pe_ix ix_tup (pe_ix ix_tup (pv 0) pe_int (fun _ _ => rfl)) (pe_ix ix_tup (pv 1) pe_int (fun _ _ => rfl)) (fun _ _ => rfl)) (nomark _))), ?_⟩
    obtain ⟨⟨a, sa, ka, ub, t', j', x, l, rfl, h1, h2, h3, _⟩, h4, _⟩ := parts_of hd hD
    obtain ⟨n, rfl⟩ : ∃ n : Nat, j = (n : Int) := ⟨j.toNat, by omega⟩
    refine ⟨_, rfl, b, _, _, _, rfl, rfl, hb, atI_nat (j := 0) rfl, _, rfl, a, _, _, _, rfl, rfl, h1, atI_nat (j := 1) rfl, _, rfl, b, _, _, _, rfl, rfl, hb, atI_nat (j := 1) rfl, ka, _, _, _, rfl, rfl, h3, at_int (by omega), _, _, rfl, rfl, k H (Same.refl H)⟩
/-! ### are_closed -/
def okAt (ds : List PyData) (es : List Int) (h : Nat) : Bool := decide (es.getD h 0 = 0) || match atD ds [es.getD h 0, (h : Int)] with
  | some d => atMost (snD d) es
  | none => false
def closedD (ds : List PyData) (es : List Int) : Bool := (List.range 4).all (okAt ds es)
def spClosed (K : PySem.W.Frag) : Sp := fun vs H Q _ => ∃ a b kvs ds, ∃ es : List Int, vs = [.ref a, .ref b] ∧ Rd H a (.dT kvs) ∧ Tb K H kvs ds ∧ (∀ d ∈ ds, deedD d = true) ∧ SqT K H b (es.map V.int) ∧ es.length = 4 ∧ ∀ H', Same H H' → Q (.bl (closedD ds es)) H'
theorem sc_closed : FnScope ["deeds", "times", "hand", "time", "stamp"] ["deeds", "times"] (defScope (top 43)) := ⟨rfl, rfl, rfl, by decide +kernel, rfl, by decide +kernel, by decide +kernel⟩
theorem cl_closed (T : All K mg) (hzip : mg "zip" = none) (hen : mg "enumerate" = none) : Cl P w K mg base 2 "are_closed" ["deeds", "times"] (spClosed K) := by
  obtain ⟨g, fd, D⟩ := T.dn 43 _ _ rfl
  refine D.cl (D.fn.ok sc_closed (fun vs H Q E h => ?_) (fun cdv A outer s H vs Q E hr h => ?_))
  · obtain ⟨a, b, kvs, ds, es, rfl, _⟩ := h
    rfl
  · obtain ⟨a, b, kvs, ds, es, rfl, ha, tb, right, hb, h4, k⟩ := h
    have hu : (A.deeper (envOfC "are_closed" (defScope (top 43)) s.heap.objs.size g cdv)).units + 1 < cLine := hu_of hr
    refine ⟨_, (pss_cons (ps_for PassesOwn.never rfl (pi_enumA (by rfl) hen (pa_cons (pv 1) pa_nil)) (pg_tup (t := (gCons (gName 2) (gCons (gName 3) gNil))) rfl (pgs_cons (pg_name (i := 2) sc_closed.nd rfl (Or.inl rfl)) (pgs_cons (pg_name (i := 3) sc_closed.nd rfl (Or.inl rfl)) pgs_nil))) (pss_one (ps_if (pt_cmpR op_ne (pv 3) pe_int (nomark _)) (pss_cons (ps_set (i := 4) sc_closed.nd rfl (Or.inl rfl) (pe_tup (pa_cons (pv 3) (pa_cons (pv 2) pa_nil))))
      (pss_one (ps_if (PW.pt (pw_or (pt_cmpR (op_notInDT hu) (pv 4) (pv 0) rfl) (pw_or1 (pt_not (pt_val (pe_cl (cl_most T hzip) hr (by decide) (pa_cons (pe_ix ix_tup (pe_dtget hu (pv 0) (pv 4) (fun _ _ => rfl)) pe_int (fun _ _ => rfl)) (pa_cons (pv 1) pa_nil)))))))) (pss_one (ps_ret pe_bl)) pss_nil))) pss_nil)))
      (pss_one (ps_ret pe_bl))), ?_⟩
    refine ⟨_, rfl, b, _, rfl, .inr ⟨hb, ?_⟩⟩
    refine for_it (walk_enumT (K := K) (a := b) (xs := es.map V.int)) (fun i σ J => σ.length = 5 ∧ σ[0]? = some (some (V.ref a)) ∧ σ[1]? = some (some (V.ref b)) ∧ Same H J ∧ ∀ h, h < i → okAt ds es h = true) ⟨rfl, rfl, rfl, Same.refl H, fun h hh => absurd hh (Nat.not_lt_zero _)⟩ (fun i σ J _ ⟨_, _, _, s, _⟩ => K0.seqT_same s hb) ?_ (fun σ J ⟨_, _, _, s, all⟩ => ?_)
    · rintro i x σ J J' hi ⟨l0, t0, t1, s, all⟩ ⟨T0, u, v, rfl, nT, rfl, h1, h2⟩
      rw [List.length_map, h4] at hi
      cases h1
      cases int_at h2
      have s2 := s.trans (K0.same_upd (o := .tup [.int (i : Int), .int (es.getD i 0)]) nT)
      have hT := @upd_same J T0 (.tup [.int (i : Int), .int (es.getD i 0)])
      generalize upd J T0 (.tup [.int (i : Int), .int (es.getD i 0)]) = J2 at s2 hT ⊢
      refine ⟨T0, _, rfl, .inl (.inl hT), rfl, _, _, rfl, _, _, rfl, rfl, ?_⟩
      have g3 : ((σ.set 2 (some (V.int (i : Int)))).set 3 (some (V.int (es.getD i 0))))[3]? = some (some (V.int (es.getD i 0))) := List.getElem?_set_self (by rw [List.length_set]; omega)
      have g2 : ((σ.set 2 (some (V.int (i : Int)))).set 3 (some (V.int (es.getD i 0))))[2]? = some (some (V.int (i : Int))) := (List.getElem?_set_ne (by decide)).trans (List.getElem?_set_self (by omega))
      have g0 : ((σ.set 2 (some (V.int (i : Int)))).set 3 (some (V.int (es.getD i 0))))[0]? = some (some (V.ref a)) := (List.getElem?_set_ne (by decide)).trans ((List.getElem?_set_ne (by decide)).trans t0)
      have g1 : ((σ.set 2 (some (V.int (i : Int)))).set 3 (some (V.int (es.getD i 0))))[1]? = some (some (V.ref b)) := (List.getElem?_set_ne (by decide)).trans ((List.getElem?_set_ne (by decide)).trans t1)
      have gl : ((σ.set 2 (some (V.int (i : Int)))).set 3 (some (V.int (es.getD i 0)))).length = 5 := by rw [List.length_set, List.length_set]; exact l0
      generalize (σ.set 2 (some (V.int (i : Int)))).set 3 (some (V.int (es.getD i 0))) = σ2 at g0 g1 g2 g3 gl ⊢
      have up : ∀ {J3 : Hp} {σ3 : L2.St}, Same J2 J3 → σ3.length = 5 → σ3[0]? = some (some (V.ref a)) → σ3[1]? = some (some (V.ref b)) → okAt ds es i = true → σ3.length = 5 ∧ σ3[0]? = some (some (V.ref a)) ∧ σ3[1]? = some (some (V.ref b)) ∧ Same H J3 ∧ ∀ h, h < i + 1 → okAt ds es h = true :=
        fun s3 e0 e1 e2 ok => ⟨e0, e1, e2, s2.trans s3, fun h hh => by
          rcases Nat.lt_succ_iff_lt_or_eq.mp hh with z | z
          · exact all h z
          · rw [z]
            exact ok⟩
      refine ⟨_, g3, rfl, _, rfl, ?_⟩
      by_cases e0 : es.getD i 0 = 0
      · have : (!decide (V.int (es.getD i 0) = V.int 0)) = false := by rw [e0]; rfl
        rw [this]
        refine iteF (up (Same.refl _) gl g0 g1 ?_)
        unfold okAt
        rw [decide_eq_true e0, Bool.true_or]
      · have : (!decide (V.int (es.getD i 0) = V.int 0)) = true := by
          rw [decide_eq_false (fun z => e0 (V.int.inj z))]
          rfl
        rw [this]
        refine iteT ⟨_, g3, _, g2, (by show 2 ≤ sizeLine; rw [sizeLine_eq]; decide), fun q nq => ?_⟩
        have s3 := K0.same_upd (o := .tup [.int (es.getD i 0), .int (i : Int)]) nq
        have hq := @upd_same J2 q (.tup [.int (es.getD i 0), .int (i : Int)])
        generalize upd J2 q (.tup [.int (es.getD i 0), .int (i : Int)]) = J3 at s3 hq ⊢
        have f4 : (σ2.set 4 (some (V.ref q)))[4]? = some (some (V.ref q)) := List.getElem?_set_self (by omega)
        have f0 : (σ2.set 4 (some (V.ref q)))[0]? = some (some (V.ref a)) := (List.getElem?_set_ne (by decide)).trans g0
        have f1 : (σ2.set 4 (some (V.ref q)))[1]? = some (some (V.ref b)) := (List.getElem?_set_ne (by decide)).trans g1
        have fl : (σ2.set 4 (some (V.ref q))).length = 5 := by rw [List.length_set]; exact gl
        have s03 := s2.trans s3
        have hk : SqT K J3 q ([es.getD i 0, (i : Int)].map V.int) := .inl (.inl hq)
        have bad : okAt ds es i = false → closedD ds es = false := fun z => by
          unfold closedD
          rw [Bool.eq_false_iff]
          intro y
          have := List.all_eq_true.mp y i (List.mem_range.mpr hi)
          rw [z] at this
          cases this
        refine ⟨_, f4, _, f0, a, q, kvs, _, rfl, rfl, rd_same ha s03, hk, _, rfl, ?_⟩
        rcases tb_at (K := K) (H := J3) [es.getD i 0, (i : Int)] (tb.to s03) with ⟨v, d, e1, e2, hv⟩ | ⟨e1, e2⟩
        · rw [e1]
          refine iteF ?_
          obtain ⟨⟨da, sa, ka, ub, t', j', x, l, rfl, h1, h2, h3, _⟩, p4, _⟩ := parts_of hv (right d (atD_mem e2).1)
          refine ⟨_, f0, _, f4, a, q, kvs, _, _, rfl, rfl, rd_same ha s03, hk, e1, da, _, _, _, rfl, rfl, h1, atI_nat (j := 1) rfl, _, f1, ka, b, _, _, rfl, h3, K0.seqT_same s03 hb, by rw [p4, h4], by omega, fun J4 s4 => ⟨_, rfl, ?_⟩⟩
          have eo : okAt ds es i = atMost (snD d) es := by
            unfold okAt
            rw [decide_eq_false e0, Bool.false_or, e2]
          cases em : atMost (snD d) es with
          | true => exact iteF (up (s3.trans s4) fl f0 f1 (eo.trans em))
          | false =>
            refine iteT ?_
            have z := k J4 (s03.trans s4)
            rw [bad (eo.trans em)] at z
            exact z
        · rw [e1]
          refine iteT ?_
          have z := k J3 s03
          rw [bad (by unfold okAt; rw [decide_eq_false e0, Bool.false_or, e2])] at z
          exact z
    · have z := k J s
      have e : closedD ds es = true := by
        unfold closedD
        exact List.all_eq_true.mpr fun h hh => all h (by rw [List.length_map, h4]; exact List.mem_range.mp hh)
      rw [e] at z
      exact z
end
end K1
/-! is a tuple of ints in a set of such -/
namespace K1
open PySem L2 PySem.Spec PyProof.Rows
section
variable {P : Program} {w : World} {A : Around} {E : Value → Shared → Prop} {s : Shared} {D y : Addr} {k : List Int} {L : List (Addr × List Int)} {rows : Array (Int × Value)} {ep : Nat} {tb : SetTable}
abbrev stp (P : Program) (w : World) (tb : SetTable) (k : List Int) (c : Nat) : SetTable.Probe := nth tb.mask (runAt tb.mask (SetTable.bits (thash P w k) % (tb.mask + 1)) (SetTable.bits (thash P w k))) c
theorem stp_dummy (c : Nat) : (stp P w tb k c).dummy = none := by
  have go : ∀ (n : Nat) (pr : SetTable.Probe), pr.dummy = none → (nth tb.mask pr n).dummy = none := by
    intro n
    induction n with
    | zero => exact fun _ z => z
    | succ n ih =>
      intro pr z
      refine ih (adv tb.mask pr) ?_
      unfold adv
      split
      all_goals exact z
  exact go c _ rfl
theorem stp_add (c q : Nat) : nth tb.mask (stp P w tb k c) q = stp P w tb k (c + q) := (nth_add tb.mask c _ q).symm
/-- the search of one who does not add -/
theorem look_from (R : SetTR P w s.heap D L rows ep tb) (hy : IsT P w s.heap k y) (hu : A.units < cLine) {K : Nat} (hKf : K < 10 * SetTable.turns tb.mask) (hK : way tb.mask (thash P w k) K ∉ tb.place.toList) (hKb : ∀ c, c < K → way tb.mask (thash P w k) c ∈ tb.place.toList)
    {Q : SetFound → Shared → Prop} (yes : k ∈ L.map (·.2) → ∀ i, Q (.there (some i)) s) (no : k ∉ L.map (·.2) → Q (.free (way tb.mask (thash P w k) K) false) s) :
    ∀ (fu c : Nat) (at_ : Option SetTable.Probe), at_.getD (tb.probeStart (thash P w k)) = stp P w tb k c → c ≤ K → K - c < fu →
      (∀ (i : Nat) p, L[i]? = some p → p.2 = k → ∃ c2, c ≤ c2 ∧ c2 < K ∧ tb.place.toList[i]? = some (way tb.mask (thash P w k) c2)) →
      wpAny (model P w) A (setSearchFrom D (.ref y) (thash P w k) false fu at_) Q E s
  | 0, _, _, _, _, hf, _ => absurd hf (Nat.not_lt_zero _)
  | fu + 1, c, at_, hst, hc, hf, here => by
    obtain ⟨ob, hob, hex, hdat⟩ := R.ob
    rw [setSearchFrom_succ]
    refine wpAny_bind (wpAny_setState_of hob hdat R.fits ?_)
    dsimp only
    refine wp_if_neg R.gw ?_
    try refine wpAny_bind (wpAny_pure ?_)
    have wj : ∀ q, (nth tb.mask (stp P w tb k c) q).j = way tb.mask (thash P w k) (c + q) := fun q => congrArg SetTable.Probe.j (stp_add c q)
    have go := go_spec tb R.tab.ris R.tab.dm (fun i => (rows[i]?.map (·.1)).getD 0) (thash P w k) (10 * SetTable.turns tb.mask) (K - c) _ (stp_dummy (P := P) (w := w) (tb := tb) (k := k) c) (by omega)
      (fun q hq => by rw [wj]; exact hKb (c + q) (by omega)) (by rw [wj, show c + (K - c) = K by omega]; exact hK)
    have hsh : ∀ (i : Nat) p, L[i]? = some p → (fun i => (rows[i]?.map (·.1)).getD 0) i = thash P w p.2 := fun i p hp => by
      show (rows[i]?.map (·.1)).getD 0 = _
      rw [R.entry hp]
      rfl
    rcases go with ⟨q, i, hq, hi, hh, hno, hpr⟩ | ⟨hno, hpr⟩
    · have pr2 : tb.probe (fun i => (rows[i]?.map (·.1)).getD 0) (thash P w k) (at_.getD (tb.probeStart (thash P w k))) = some (.candidate (way tb.mask (thash P w k) (c + q)) i (stp P w tb k (c + (q + 1)))) := by
        rw [hst, ← wj, ← stp_add]
        exact hpr
      rw [pr2]
      dsimp only
      rw [wj] at hi
      have il : i < L.length := by
        have l1 : i < tb.place.toList.length := (List.getElem?_eq_some_iff.mp hi).1
        have l2 := R.tab.sz
        rw [List.length_map] at l2
        rw [Array.length_toList] at l1
        omega
      obtain ⟨p, hp⟩ : ∃ p, L[i]? = some p := ⟨_, List.getElem?_eq_getElem il⟩
      have pm : p ∈ L := List.mem_of_getElem? hp
      have sl : tb.slot (way tb.mask (thash P w k) (c + q)) = .live i := slot_live R.tab.ris hi
      have tail : wpAny (model P w) A (searchRest D (.ref y) (thash P w k) false fu rows tb (way tb.mask (thash P w k) (c + q)) i (stp P w tb k (c + (q + 1)))) Q E s := by
        unfold searchRest
        rw [R.entry hp]
        dsimp only
        refine wpAny_bind (wpAny_holding (wpAny_eqBool_tuple hu (R.tup p pm) hy ?_))
        refine wpAny_bind (wpAny_setState_of hob hdat R.fits ?_)
        dsimp only
        refine wp_if_neg (by simp) ?_
        try refine wpAny_bind (wpAny_pure ?_)
        rw [sameMem]
        dsimp only
        simp only [if_true, sl, R.entry hp]
        refine wpAny_bind (wpAny_isSame_ref_self (wpAny_bind (wpAny_pure ?_)))
        simp only [if_true]
        by_cases e : p.2 = k
        · refine wp_if_pos (by simp [e]) (wpAny_pure (yes (List.mem_map.mpr ⟨p, pm, e⟩) i))
        · refine wp_if_neg (by simp [e]) ?_
          refine look_from R hy hu hKf hK hKb yes no fu (c + (q + 1)) _ rfl (by omega) (by omega) fun i0 p0 g0 gk => ?_
          obtain ⟨c2, a1, a2, a3⟩ := here i0 p0 g0 gk
          refine ⟨c2, Nat.lt_of_not_le fun le => ?_, a2, a3⟩
          have le2 : c2 ≤ c + q := le
          rcases Nat.lt_or_ge c2 (c + q) with z | z
          · exact hno (c2 - c) i0 (by omega) (by rw [wj, show c + (c2 - c) = c2 by omega]; exact a3) ((hsh i0 p0 g0).trans (congrArg (thash P w) gk))
          · have ec : c2 = c + q := by omega
            rw [ec] at a3
            have s0 := slot_live R.tab.ris a3
            rw [sl] at s0
            injection s0 with s0
            rw [← s0, hp] at g0
            exact e ((congrArg Prod.snd (Option.some.inj g0)).trans gk)
      by_cases ld : tb.led = true
      · refine wp_if_neg (by simp [ld]) ?_
        try refine wpAny_bind (wpAny_pure ?_)
        exact tail
      · refine wp_if_pos (by simp [ld]) ?_
        refine wpAny_bind (seen_tup hy (fun z hz => ?_) ?_)
        · obtain ⟨e, he, ee⟩ := List.mem_map.mp hz
          have m1 : e ∈ rows ∧ e.1 = thash P w k := by simpa using he
          have m2 : e ∈ rows.toList := by simpa using m1.1
          rw [R.rows] at m2
          obtain ⟨p2, g2, e2⟩ := List.mem_map.mp m2
          exact ⟨p2.2, p2.1, by rw [← ee, ← e2], R.tup p2 g2⟩
        · refine wp_if_neg (by decide) ?_
          try refine wpAny_bind (wpAny_pure ?_)
          exact tail
    · have pr2 : tb.probe (fun i => (rows[i]?.map (·.1)).getD 0) (thash P w k) (at_.getD (tb.probeStart (thash P w k))) = some (.empty (way tb.mask (thash P w k) K) none) := by
        have e2 : way tb.mask (thash P w k) K = (nth tb.mask (stp P w tb k c) (K - c)).j := by
          rw [wj, show c + (K - c) = K by omega]
        rw [hst, e2]
        exact hpr
      rw [pr2]
      dsimp only
      refine wpAny_pure (no fun hm => ?_)
      obtain ⟨p0, g0, gk⟩ := List.mem_map.mp hm
      obtain ⟨i0, hi0, e0⟩ := List.getElem_of_mem g0
      have g00 : L[i0]? = some p0 := by rw [List.getElem?_eq_getElem hi0, e0]
      obtain ⟨c2, a1, a2, a3⟩ := here i0 p0 g00 gk
      exact hno (c2 - c) i0 (by omega) (by rw [wj, show c + (c2 - c) = c2 by omega]; exact a3) ((hsh i0 p0 g00).trans (congrArg (thash P w) gk))
theorem look_at (R : SetTR P w s.heap D L rows ep tb) (hy : IsT P w s.heap k y) (hu : A.units < cLine) {Q : SetFound → Shared → Prop} (yes : k ∈ L.map (·.2) → ∀ i, Q (.there (some i)) s) (no : k ∉ L.map (·.2) → ∀ j, Q (.free j false) s) :
    wpAny (model P w) A (setSearch D (.ref y) (thash P w k)) Q E s := by
  have room := R.room
  obtain ⟨K, hKf, hK, hKb⟩ := R.tab.first (by rw [List.length_map]; omega) (thash P w k)
  have big : K < 100000 := by
    have : 10 * SetTable.turns tb.mask ≤ 1420 := by
      unfold SetTable.turns
      rcases R.tab.mok with e | e | e
      all_goals
        rw [e]
        decide
    omega
  unfold setSearch
  refine look_from R hy hu hKf hK hKb yes (fun n => no n _) 100000 0 none rfl (Nat.zero_le _) (by omega) fun i p hp hk => ?_
  have hi : (L.map fun p => thash P w p.2)[i]? = some (thash P w k) := by
    rw [List.getElem?_map, hp, ← hk]
    rfl
  have il : i < tb.place.toList.length := by
    have l1 : i < L.length := (List.getElem?_eq_some_iff.mp hp).1
    have l2 := R.tab.sz
    rw [List.length_map] at l2
    rw [Array.length_toList]
    omega
  have hj := List.getElem?_eq_getElem il
  obtain ⟨c, hc, e⟩ := R.tab.before hK hi hj
  exact ⟨c, Nat.zero_le _, hc, by rw [hj, e]⟩
end
section
variable {X : Cx}
/-- x in the set at D -/
def rInST (K : PySem.W.Frag) (P : Program) (w : World) : R2 := fun x y H Q => ∃ (b D : Addr) (L : List (Addr × List Int)) (k : List Int), x = .ref b ∧ y = .ref D ∧ H D = some (SetTO P w D L) ∧ (∀ p ∈ L, SqT K H p.1 (p.2.map V.int)) ∧ SqT K H b (k.map V.int) ∧ Q (.bl (decide (k ∈ L.map (·.2)))) H
theorem op_inST (hu : X.A.units + 64 < cLine) : OpR X (compareOp .In) (rInST X.K X.prog X.w) := by
  intro pins s σ H x y v u Q I rx ry h
  obtain ⟨b, D, L, k, rfl, rfl, hD, hL, hb, q⟩ := h
  cases rx
  cases ry
  have R0 : SetT0 X.prog X.w s.heap D L := (I.hok D _ hD).1
  obtain ⟨rows, ep, tb, R⟩ := R0.full fun p hp => I.isT (hL p hp)
  obtain ⟨ob, hob, hex, hd⟩ := R.ob
  have ty : s.TypeIs (.ref D) "set" := ⟨ob, hob, hex.1⟩
  show wpAny _ _ (do return Value.bool (← contains (.ref D) (.ref b))) _ _ s
  refine wpAny_bind ?_
  unfold contains
  try with_reducible refine wpAny_holding ?_
  refine wpAny_bind (wpAny_specialOf ty F.slot_set_contains.lookup ?_)
  show wpAny _ _ (if (some (Value.builtin "set.__contains__") == some Value.none) = true then _ else _) _ _ s
  rw [if_neg (by rw [beq_builtin_none]; exact Bool.false_ne_true)]
  refine wpAny_bind (wpAny_callSpecialUnlessNone?_slot (name := Str.ofString "__contains__") ty F.slot_set_contains ?_)
  refine wpAny_call_entry F.slot_set_contains ty entry_set_contains ?_ (F.args_set_contains_2 _ _)
  unfold Builtin.«frozenset.__contains__» Builtin.Frozenset.oneOther
  simp only [List.isEmpty_nil, bind_assoc]
  unfold Builtin.Frozenset.addrOf Builtin.Frozenset.withSetAsKey setContains
  refine wpAny_bind (wpAny_pure ?_)
  try dsimp only
  refine wpAny_bind (wpAny_pure ?_)
  try dsimp only
  refine wpAny_bind (wpAny_tryCatch ?_)
  refine wpAny_holding ?_
  refine wpAny_bind (wpAny_pyHash_tuple (by show X.A.units + 1 < cLine; omega) (I.isT hb) ?_)
  have R1 : SetTR X.prog X.w ({ s with toks := s.toks + (k.length + 1) } : Shared).heap D L rows ep tb := R
  refine wpAny_bind (wpAny_mono (?find : wpAny _ _ (setFind D (.ref b) _) (fun r s2 => r.isSome = decide (k ∈ L.map (·.2)) ∧ s2 = { s with toks := s.toks + (k.length + 1) }) _ _) (fun r s2 hr => ?_) fun _ _ z => z)
  case find =>
    unfold setFind
    rw [show (100000 : Nat) = 99999 + 1 from rfl]
    unfold setFindIn
    refine wpAny_bind (wpAny_setState_of hob hd R1.fits ?_)
    dsimp only
    refine wp_if_neg (by simp [byScan, Value.scannable]) ?_
    try refine wpAny_bind (wpAny_pure ?_)
    refine wpAny_bind (look_at R1 (I.isT hb) (by show X.A.units + 1 < cLine; omega) (fun hm i => ?_) fun hm j => ?_)
    · exact wpAny_pure ⟨by rw [decide_eq_true hm]; rfl, rfl⟩
    · exact wpAny_pure ⟨by rw [decide_eq_false hm]; rfl, rfl⟩
  obtain ⟨e1, rfl⟩ := hr
  refine wpAny_pure ?_
  show wpAny _ _ (ret (Value.bool r.isSome)) _ _ _
  rw [e1]
  exact wpAny_pure ⟨_, rfl, wpAny_truthy_bool (wpAny_pure ⟨.bl (decide (k ∈ L.map fun p : Addr × List Int => p.2)), H, I.tok _, rfl, q⟩)⟩
end
end K1
namespace K1
open PySem L2 PySem.Spec PyProof.Rows RZ
section
variable {X : Cx}
/-- set(), to hold tuples of ints -/
def rSet0T (P : Program) (w : World) : List V → Hp → VK → Prop := fun xs H Q => xs = [] ∧ ∀ p, H p = none → Q (.ref p) (upd H p (SetTO P w p []))
theorem cr_set0T : CallR X (.type "set") (rSet0T X.prog X.w) := by
  intro pins s σ H xs us Q I r h
  obtain ⟨rfl, q⟩ := h
  cases r
  refine setR_new fun _ => ?_
  exact ⟨.ref _, upd H s.heap.objs.size (SetTO X.prog X.w s.heap.objs.size []), I.laid (t' := s.toks) (fun b u e => Heap.get?_push_of_some _ e) (Nat.le_refl _) (setTO_new (setTR_fresh (P := X.prog) (w := X.w) (Heap.get?_push_size _ rfl)).t0), rfl, q _ (I.hok.fresh (Nat.le_refl _))⟩
/-- D.add(a tuple of ints), as a statement's call -/
def tSAddT (K : PySem.W.Frag) (P : Program) (w : World) (to : TE) (t : TA) : TE := fun σ H Q => to σ H fun x H1 => ∃ D L0, x = V.ref D ∧ H1 D = some (SetTO P w D L0) ∧ t σ H1 fun xs H2 => ∃ (L : List (Addr × List Int)) (b : Addr) (k : List Int),
  xs = [V.ref b] ∧ H2 D = some (SetTO P w D L) ∧ (∀ p ∈ L, SqT K H2 p.1 (p.2.map V.int)) ∧ SqT K H2 b (k.map V.int) ∧ L.length + 1 < 64 ∧ ∀ L', More L L' b k → Q .non (upd H2 D (SetTO P w D L'))
theorem pe_saddT {o e : Expr} {es : List Expr} {to : TE} {t : TA} {apos cpos : Pos} (hu : X.A.units + 64 < cLine) (ho : PE X o to) (ha : PA X (e :: es) t)
    (hbase : attributeBase o "add" X.env (eval o X.env) = eval o X.env := by rfl)
    (hfew : ((backTo cpos (starEach (e :: es) X.env)).all (fun x => !x.1) && (backToKw cpos (keywordEach [] X.env)).all (fun x => x.1.isSome)
      && decide ((e :: es).length + ([] : List Keyword).length + (if ([] : List Keyword).isEmpty then 0 else 1) < 30)) = true := by rfl)
    (hline : (apos.endLine == cpos.line) = true := by rfl) (hs : starEach (e :: es) X.env = (false, eval e X.env) :: starEach es X.env := by rfl) (hplain : (backTo cpos (starEach es X.env)).any (·.1) = false := by rfl) :
    PE X (.Call (.Attribute o "add" apos) (e :: es) [] cpos) (tSAddT X.K X.prog X.w to t) := by
  refine ⟨fun pins s σ H Q I h => ?_⟩
  refine wpAny_Call_method_late hbase hfew hline rfl (thn (ho.run pins s σ H _ I h) fun v s1 hh => ?_)
  obtain ⟨x, H1, I1, r1, D, L0, rfl, hD, q1⟩ := hh
  cases r1
  have R0 : SetT0 X.prog X.w s1.heap D L0 := (I1.hok D _ hD).1
  obtain ⟨es0, ep0, t0, ⟨ob, hob, hex, hd⟩, _⟩ := R0.ex
  refine ⟨"set", "set.add", F.plainAttrs_set, F.slot_set_add, F.type_set_add, ⟨ob, hob, hex.1⟩, (fun c ec => by cases ec; exact ⟨ob, hob, hex.2.1⟩), ?_⟩
  have hA := ha.run cpos pins s1 σ H1 _ I1 q1
  rw [hs] at hA ⊢
  refine Calls.callWith_builtin (by show (false || (backTo cpos (starEach es X.env)).any (·.1)) = false; rw [hplain] <;> rfl) (Calls.evalArgs_plain ?_)
  refine thn hA fun us s2 h2 => ?_
  obtain ⟨vs, H2, I2, r2, L, b, k, rfl, hD2, hL, hb, few, q2⟩ := h2
  obtain ⟨u, rfl, ru⟩ := r2.one
  cases ru
  exact addT_ok I2 hD2 hL hb hu few fun s3 L' I3 m => ⟨.non, _, I3, rfl, q2 L' m⟩
end
/-! ### _check_single -/
/-- the place of the first that is no deed, or has a key that one ahead has -/
def badFrom (seen : List (List Int)) : List PyData → Nat → Option Nat
  | [], _ => none
  | d :: ds, i => if deedD d = true ∧ keyD d ∉ seen then badFrom (keyD d :: seen) ds (i + 1) else some i
def badAt (ds : List PyData) : Option Nat := badFrom [] ds 0
def itemsD : PyData → List PyData
  | .list ds => ds
  | .tuple ds => ds
  | _ => []
def spSingle (K : PySem.W.Frag) (C : Addr) : Sp := fun vs H Q E => ∃ v d, vs = [v] ∧ DQ K H v d ∧ listD d = true ∧ (itemsD d).length ≤ 62 ∧ (badAt (itemsD d) = none → ∀ H', Same H H' → Q .non H') ∧
  ∀ i : Nat, badAt (itemsD d) = some i → ∀ H' dd, Same H H' → H' dd = some (.xd [("told", .int i)]) → E (.ref C) (some dd) H'
/-- between two turns -/
def PvS (P : Program) (w : World) (K : PySem.W.Frag) (H : Hp) (ds : List PyData) (D0 : Addr) (va : V) (i : Nat) (σ : L2.St) (J : Hp) : Prop :=
  σ.length = 4 ∧ σ[0]? = some (some va) ∧ σ[1]? = some (some (V.ref D0)) ∧ Same H J ∧ ∃ (L : List (Addr × List Int)) (seen : List (List Int)), J D0 = some (SetTO P w D0 L) ∧ (∀ p ∈ L, SqT K H p.1 (p.2.map V.int)) ∧ L.length ≤ i ∧ (∀ k, k ∈ L.map (·.2) ↔ k ∈ seen) ∧
    badAt ds = badFrom seen (ds.drop i) i
section
variable {P : Program} {w : World} {K : PySem.W.Frag} {mg : Str → Option Value} {base : Heap}
theorem sc_single : FnScope ["deeds", "ahead", "at", "deed"] ["deeds"] (defScope (top 44)) := ⟨rfl, rfl, rfl, by decide +kernel, rfl, by decide +kernel, by decide +kernel⟩
theorem cl_single {C fI : Addr} (T : All K mg) (R : Er K mg "NoBook" C fI) (hen : mg "enumerate" = none) (hset : mg "set" = none) : ClX P w K mg base 10 "_check_single" ["deeds"] (spSingle K C) := by
  obtain ⟨g, fd, D⟩ := T.dn 44 _ _ rfl
  refine D.clX (D.fn.okX sc_single (fun vs H Q E h => ?_) (fun cdv A outer s H vs Q E hr h => ?_))
  · obtain ⟨v, d, rfl, _⟩ := h
    rfl
  · obtain ⟨v, d, rfl, hd, hld, hz, k1, k2⟩ := h
    have hu : (A.deeper (envOfC "_check_single" (defScope (top 44)) s.heap.objs.size g cdv)).units + 64 < cLine := hr.units
    refine ⟨_, (pss_cons (ps_set (i := 1) sc_single.nd rfl (Or.inl rfl) (pe_callTy0 cr_set0T (by rfl) hset (by decide +kernel)))
      (pss_one (ps_for (passes_of rfl) rfl (pi_enumA (by rfl) hen (pa_cons (pv 0) pa_nil)) (pg_tup (t := (gCons (gName 2) (gCons (gName 3) gNil))) rfl (pgs_cons (pg_name (i := 2) sc_single.nd rfl (Or.inl rfl)) (pgs_cons (pg_name (i := 3) sc_single.nd rfl (Or.inl rfl)) pgs_nil))) (pss_cons (ps_if (PW.pt (pw_or (pt_not (pt_val (pe_cl (cl_deed T) hr (by decide) (pa_cons (pv 3) pa_nil)))) (pw_or1 (pt_cmpR (op_inST hu) (pe_ix ix_tup (pv 3) pe_int (fun _ _ => rfl)) (pv 1) rfl)))) (pss_one (ps_raise rfl (takes_of rfl rfl rfl rfl) (pmk_err R hr (by decide) (pa_cons (pv 2) pa_nil)))) pss_nil)
      (pss_one (ps_expr (pe_saddT hu (pv 1) (pa_cons (pe_ix ix_tup (pv 3) pe_int (fun _ _ => rfl)) pa_nil)))))))), ?_⟩
    refine ⟨rfl, fun D0 nD => ?_⟩
    have S0 : Same H (upd H D0 (SetTO P w D0 [])) := K0.same_upd nD
    have two : (∃ (a : Addr) (xs : List V), v = .ref a ∧ SqL K H a xs ∧ DQs K H xs (itemsD d)) ∨ ∃ (a : Addr) (xs : List V), v = .ref a ∧ SqT K H a xs ∧ DQs K H xs (itemsD d) := by
      cases hd with
      | lst h1 h2 => exact .inl ⟨_, _, rfl, h1, h2⟩
      | tup h1 h2 => exact .inr ⟨_, _, rfl, h1, h2⟩
      | _ => cases hld
    rcases two with ⟨a, xs, rfl, h1, hxs⟩ | ⟨a, xs, rfl, h1, hxs⟩
    · refine ⟨_, rfl, a, xs, rfl, .inl ⟨S0.seq h1, ?_⟩⟩
      refine for_it (walk_enum (K := K) (a := a) (xs := xs)) (PvS P w K H (itemsD d) D0 (.ref a)) ⟨rfl, rfl, rfl, S0, [], [], upd_same, fun q hq => absurd hq List.not_mem_nil, Nat.le_refl _, fun k => Iff.rfl, rfl⟩ (fun i σ J _ pv => pv.2.2.2.1.seq h1) ?_ ?_
      · rintro i x σ J J' hi ⟨l0, t0, t1, s, L, seen, hD, hL, hlen, hmem, hbad⟩ ⟨T0, u, v, rfl, nT, rfl, e1, e2⟩
        cases e1
        obtain ⟨dd, ed, hdd⟩ := hxs.at e2
        have s2 := s.trans (K0.same_upd (o := .tup [.int (i : Int), v]) nT)
        have hT := @upd_same J T0 (.tup [.int (i : Int), v])
        have hD2 : upd J T0 (.tup [.int (i : Int), v]) D0 = some (SetTO P w D0 L) := (upd_ne (ne_of_none hD nT)).trans hD
        generalize upd J T0 (.tup [.int (i : Int), v]) = J2 at s2 hT hD2 ⊢
        refine ⟨T0, _, rfl, .inl (.inl hT), rfl, _, _, rfl, _, _, rfl, rfl, ?_⟩
        have g3 : ((σ.set 2 (some (V.int (i : Int)))).set 3 (some v))[3]? = some (some v) := List.getElem?_set_self (by rw [List.length_set]; omega)
        have g2 : ((σ.set 2 (some (V.int (i : Int)))).set 3 (some v))[2]? = some (some (V.int (i : Int))) := (List.getElem?_set_ne (by decide)).trans (List.getElem?_set_self (by omega))
        have g1 : ((σ.set 2 (some (V.int (i : Int)))).set 3 (some v))[1]? = some (some (V.ref D0)) := (List.getElem?_set_ne (by decide)).trans ((List.getElem?_set_ne (by decide)).trans t1)
        have g0 : ((σ.set 2 (some (V.int (i : Int)))).set 3 (some v))[0]? = some (some (V.ref a)) := (List.getElem?_set_ne (by decide)).trans ((List.getElem?_set_ne (by decide)).trans t0)
        have gl : ((σ.set 2 (some (V.int (i : Int)))).set 3 (some v)).length = 4 := by rw [List.length_set, List.length_set]; exact l0
        generalize (σ.set 2 (some (V.int (i : Int)))).set 3 (some v) = σ2 at g0 g1 g2 g3 gl ⊢
        have edrop : (itemsD d).drop i = dd :: (itemsD d).drop (i + 1) := by
          have hl := (List.getElem?_eq_some_iff.mp ed)
          rw [List.drop_eq_getElem_cons hl.1, hl.2]
        rw [edrop] at hbad
        refine ⟨_, g3, v, dd, rfl, hdd.to s2, fun J3 s3 => ⟨_, rfl, ?_⟩⟩
        have s03 := s2.trans s3
        have hD3 := s3 _ _ hD2
        cases eD : deedD dd with
        | false =>
          refine iteT ⟨_, g2, _, rfl, fun J4 d4 S4 h4 => k2 i ?_ J4 d4 (s03.trans S4) h4⟩
          rw [hbad]
          unfold badFrom
          rw [if_neg (by rw [eD]; exact fun z => Bool.noConfusion z.1)]
        | true =>
          refine iteF ?_
          obtain ⟨⟨da, sa, ka, ub, t, j, x, l, rfl, p1, p2, p3, p4, p5, _⟩, _, _⟩ := parts_of hdd eD
          have q1 := K0.seqT_same s03 p1
          have q2 := K0.seqT_same s03 p2
          have hL3 : ∀ p ∈ L, SqT K J3 p.1 (p.2.map V.int) := fun p hp => K0.seqT_same s03 (hL p hp)
          refine ⟨_, g3, da, _, _, _, rfl, rfl, q1, atI_nat (j := 0) rfl, _, g1, sa, D0, L, [t, j], rfl, rfl, hD3, hL3, q2, _, rfl, ?_⟩
          by_cases hk : [t, j] ∈ L.map (·.2)
          · rw [decide_eq_true hk]
            refine iteT ⟨_, g2, _, rfl, fun J4 d4 S4 h4 => k2 i ?_ J4 d4 (s03.trans S4) h4⟩
            rw [hbad]
            unfold badFrom
            rw [if_neg (by rw [p5]; exact fun z => z.2 ((hmem _).mp hk))]
          · rw [decide_eq_false hk]
            refine iteF ⟨_, g1, D0, L, rfl, hD3, _, g3, da, _, _, _, rfl, rfl, q1, atI_nat (j := 0) rfl, L, sa, [t, j], rfl, hD3, hL3, q2, ?_, fun L' m => ⟨gl, g0, g1, K0.same_over s03 nD, L', [t, j] :: seen, upd_same, ?_, ?_, ?_, ?_⟩⟩
            · have := (List.getElem?_eq_some_iff.mp ed).1
              omega
            · intro p hp
              rcases List.mem_cons.mp ((m.2 hk).mem_iff.mp hp) with z | z
              · rw [z]
                exact p2
              · exact hL p z
            · have := (m.2 hk).length_eq
              rw [List.length_cons] at this
              omega
            · intro k
              rw [((m.2 hk).map (·.2)).mem_iff, List.map_cons, List.mem_cons, List.mem_cons, hmem k]
            · rw [hbad]
              have z : badFrom seen (dd :: (itemsD d).drop (i + 1)) i = badFrom (keyD dd :: seen) ((itemsD d).drop (i + 1)) (i + 1) := if_pos ⟨eD, by rw [p5]; exact fun z => hk ((hmem _).mpr z)⟩
              rw [z, p5]
      · rintro σ J ⟨_, _, _, s, L, seen, _, _, _, _, hbad⟩
        refine k1 ?_ J s
        rw [hbad, List.drop_eq_nil_of_le (Nat.le_of_eq hxs.len.symm)]
        rfl
    · refine ⟨_, rfl, a, xs, rfl, .inr ⟨K0.seqT_same S0 h1, ?_⟩⟩
      refine for_it (walk_enumT (K := K) (a := a) (xs := xs)) (PvS P w K H (itemsD d) D0 (.ref a)) ⟨rfl, rfl, rfl, S0, [], [], upd_same, fun q hq => absurd hq List.not_mem_nil, Nat.le_refl _, fun k => Iff.rfl, rfl⟩ (fun i σ J _ pv => K0.seqT_same pv.2.2.2.1 h1) ?_ ?_
      · rintro i x σ J J' hi ⟨l0, t0, t1, s, L, seen, hD, hL, hlen, hmem, hbad⟩ ⟨T0, u, v, rfl, nT, rfl, e1, e2⟩
        cases e1
        obtain ⟨dd, ed, hdd⟩ := hxs.at e2
        have s2 := s.trans (K0.same_upd (o := .tup [.int (i : Int), v]) nT)
        have hT := @upd_same J T0 (.tup [.int (i : Int), v])
        have hD2 : upd J T0 (.tup [.int (i : Int), v]) D0 = some (SetTO P w D0 L) := (upd_ne (ne_of_none hD nT)).trans hD
        generalize upd J T0 (.tup [.int (i : Int), v]) = J2 at s2 hT hD2 ⊢
        refine ⟨T0, _, rfl, .inl (.inl hT), rfl, _, _, rfl, _, _, rfl, rfl, ?_⟩
        have g3 : ((σ.set 2 (some (V.int (i : Int)))).set 3 (some v))[3]? = some (some v) := List.getElem?_set_self (by rw [List.length_set]; omega)
        have g2 : ((σ.set 2 (some (V.int (i : Int)))).set 3 (some v))[2]? = some (some (V.int (i : Int))) := (List.getElem?_set_ne (by decide)).trans (List.getElem?_set_self (by omega))
        have g1 : ((σ.set 2 (some (V.int (i : Int)))).set 3 (some v))[1]? = some (some (V.ref D0)) := (List.getElem?_set_ne (by decide)).trans ((List.getElem?_set_ne (by decide)).trans t1)
        have g0 : ((σ.set 2 (some (V.int (i : Int)))).set 3 (some v))[0]? = some (some (V.ref a)) := (List.getElem?_set_ne (by decide)).trans ((List.getElem?_set_ne (by decide)).trans t0)
        have gl : ((σ.set 2 (some (V.int (i : Int)))).set 3 (some v)).length = 4 := by rw [List.length_set, List.length_set]; exact l0
        generalize (σ.set 2 (some (V.int (i : Int)))).set 3 (some v) = σ2 at g0 g1 g2 g3 gl ⊢
        have edrop : (itemsD d).drop i = dd :: (itemsD d).drop (i + 1) := by
          have hl := (List.getElem?_eq_some_iff.mp ed)
          rw [List.drop_eq_getElem_cons hl.1, hl.2]
        rw [edrop] at hbad
        refine ⟨_, g3, v, dd, rfl, hdd.to s2, fun J3 s3 => ⟨_, rfl, ?_⟩⟩
        have s03 := s2.trans s3
        have hD3 := s3 _ _ hD2
        cases eD : deedD dd with
        | false =>
          refine iteT ⟨_, g2, _, rfl, fun J4 d4 S4 h4 => k2 i ?_ J4 d4 (s03.trans S4) h4⟩
          rw [hbad]
          unfold badFrom
          rw [if_neg (by rw [eD]; exact fun z => Bool.noConfusion z.1)]
        | true =>
          refine iteF ?_
          obtain ⟨⟨da, sa, ka, ub, t, j, x, l, rfl, p1, p2, p3, p4, p5, _⟩, _, _⟩ := parts_of hdd eD
          have q1 := K0.seqT_same s03 p1
          have q2 := K0.seqT_same s03 p2
          have hL3 : ∀ p ∈ L, SqT K J3 p.1 (p.2.map V.int) := fun p hp => K0.seqT_same s03 (hL p hp)
          refine ⟨_, g3, da, _, _, _, rfl, rfl, q1, atI_nat (j := 0) rfl, _, g1, sa, D0, L, [t, j], rfl, rfl, hD3, hL3, q2, _, rfl, ?_⟩
          by_cases hk : [t, j] ∈ L.map (·.2)
          · rw [decide_eq_true hk]
            refine iteT ⟨_, g2, _, rfl, fun J4 d4 S4 h4 => k2 i ?_ J4 d4 (s03.trans S4) h4⟩
            rw [hbad]
            unfold badFrom
            rw [if_neg (by rw [p5]; exact fun z => z.2 ((hmem _).mp hk))]
          · rw [decide_eq_false hk]
            refine iteF ⟨_, g1, D0, L, rfl, hD3, _, g3, da, _, _, _, rfl, rfl, q1, atI_nat (j := 0) rfl, L, sa, [t, j], rfl, hD3, hL3, q2, ?_, fun L' m => ⟨gl, g0, g1, K0.same_over s03 nD, L', [t, j] :: seen, upd_same, ?_, ?_, ?_, ?_⟩⟩
            · have := (List.getElem?_eq_some_iff.mp ed).1
              omega
            · intro p hp
              rcases List.mem_cons.mp ((m.2 hk).mem_iff.mp hp) with z | z
              · rw [z]
                exact p2
              · exact hL p z
            · have := (m.2 hk).length_eq
              rw [List.length_cons] at this
              omega
            · intro k
              rw [((m.2 hk).map (·.2)).mem_iff, List.map_cons, List.mem_cons, List.mem_cons, hmem k]
            · rw [hbad]
              have z : badFrom seen (dd :: (itemsD d).drop (i + 1)) i = badFrom (keyD dd :: seen) ((itemsD d).drop (i + 1)) (i + 1) := if_pos ⟨eD, by rw [p5]; exact fun z => hk ((hmem _).mpr z)⟩
              rw [z, p5]
      · rintro σ J ⟨_, _, _, s, L, seen, _, _, _, _, hbad⟩
        refine k1 ?_ J s
        rw [hbad, List.drop_eq_nil_of_le (Nat.le_of_eq hxs.len.symm)]
        rfl
end
end K1
/-! sorted of deeds: by their stamps, as these are unlike -/
namespace K1
open PySem L2 PySem.Spec PyProof.Rows RZ PySem.W PySem.Calls
section
variable {prog : Program} {w : World} {A : Around} {E : Value → Shared → Prop} {s : Shared}
theorem collect_seq {a : Addr} {o : Obj} {T : String} {vs : List Value} {n : Nat} {Q : List Value → Shared → Prop} (ho : s.heap.get? a = some o) (hc : o.cls = .type T) (hT : T = "list" ∨ T = "tuple") (hd : o.data = .seq vs.toArray n) (hz : vs.length ≤ sizeLine)
    (q : Q vs { s with heap := (Heap.push s.heap (seqObj "list" #[] 0)).update s.heap.objs.size (Obj.mapSeq (· ++ vs.toArray)) }) : wpAny (model prog w) A (collect (.ref a)) Q E s := by
  unfold collect
  refine wpAny_bind (wpAny_runValue (codeAny_builtin entry_proto_collect' ?_))
  show wpAny _ _ (do again (.builtin "list.__iadd__" ⟨[← newList [], .ref a], []⟩)) _ _ s
  refine wpAny_bind (wpAny_newList (wpAny_pure ⟨Code.quiet_builtin _ (by decide +kernel), codeAny_builtin entry_list_iadd' ?_⟩))
  show wpAny _ _ (Builtin.List.listExtendWith (.ref s.heap.objs.size) (.ref a) (.ref s.heap.objs.size)) _ _ { s with heap := s.heap.push (seqObj "list" #[] 0) }
  unfold Builtin.List.listExtendWith
  have ho2 : (s.heap.push (seqObj "list" #[] 0)).get? a = some o := Heap.get?_push_of_some _ ho
  refine wpAny_bind (wpAny_typeOf (T := T) ⟨o, ho2, hc⟩ ?_)
  rw [if_pos (by rcases hT with z | z <;> rw [z] <;> simp)]
  refine wpAny_bind (listItems_at ho2 hd ?_)
  refine wpAny_bind (listItems_at (xs := #[]) (n := 0) (Heap.get?_push_size _ rfl) rfl ?_)
  rw [if_neg (by simp)]
  refine wpAny_bind (listUpdate_at (xs := #[]) (n := 0) (Heap.get?_push_size _ rfl) rfl ?_ (Nat.zero_le _) (by show (#[] ++ vs.toArray).size ≤ sizeLine + 1; simp only [Array.size_append, List.size_toArray, List.length_nil]; omega))
  refine wpAny_pure ?_
  refine wpAny_bind (wpAny_load (get?_update_seq (Heap.get?_push_size _ rfl) _) ?_)
  show wpAny _ _ (pure ((#[] : Array Value) ++ vs.toArray).toList) Q E _
  rw [show ((#[] : Array Value) ++ vs.toArray).toList = vs by simp]
  exact wpAny_pure q
theorem sorted_any {κ : PyProof.Rows.KeyKind} {a : Addr} {o : Obj} {T : String} {vs : List Value} {n : Nat} {Q : Value → Shared → Prop} (ho : s.heap.get? a = some o) (hc : o.cls = .type T) (hT : T = "list" ∨ T = "tuple") (hd : o.data = .seq vs.toArray n) (hz : vs.length ≤ sizeLine)
    (S : SortsAt prog w A.in1.in1 { s with heap := sortingHeap (copyHeap s.heap vs) (s.heap.objs.size + 1) vs } κ vs) (q : Q (.ref (s.heap.objs.size + 1)) { s with heap := sortedAll s.heap vs (sortVals κ false vs vs).toArray }) :
    wpAny (model prog w) A (call (.builtin "sorted") [.ref a]) Q E s := by
  refine call_function_entry kind_sorted plain_sorted entry_sorted (args_sorted1 _) ?_
  unfold Builtin.«sorted»
  refine wpAny_bind (m := checkCount "sorted" 1 1 _) (wpAny_pure ?_)
  refine wpAny_bind (collect_seq ho hc hT hd hz ?_)
  refine wpAny_bind (wpAny_newList ?_ hz)
  have sz : ((s.heap.push (seqObj "list" #[] 0)).update s.heap.objs.size (Obj.mapSeq (· ++ vs.toArray))).objs.size = s.heap.objs.size + 1 := by
    rw [Heap.size_update, size_push']
  show wpAny _ _ _ _ _ { s with heap := copyHeap s.heap vs }
  rw [sz]
  refine wpAny_bind (wpAny_holding (wpAny_call_entry slot_list_sort ⟨_, copyHeap_at s.heap vs, rfl⟩ entry_list_sort ?_ (args_list_sort _)))
  refine wpAny_mono (list_sort_vals (s := { s with heap := copyHeap s.heap vs }) (κ := κ) (copyHeap_at s.heap vs) S hz (P := fun f s2 => f = .done (.ret .none) ∧ Q (.ref (s.heap.objs.size + 1)) s2) ⟨rfl, q⟩) (fun f s2 hf => ?_) fun _ _ z => z
  obtain ⟨rfl, h2⟩ := hf
  exact ⟨_, rfl, wpAny_pure ⟨_, rfl, h2⟩⟩
end
theorem nodup_inj {α β : Type} {f : α → β} : ∀ {l : List α}, (l.map f).Nodup → ∀ {a b : α}, a ∈ l → b ∈ l → f a = f b → a = b
  | [], _, _, _, h, _, _ => absurd h List.not_mem_nil
  | x :: l, nd, a, b, ha, hb, e => by
    rw [List.map_cons, List.nodup_cons] at nd
    rcases List.mem_cons.mp ha with z | z
    · rcases List.mem_cons.mp hb with y | y
      · rw [z, y]
      · exact absurd (by rw [← z, e]; exact List.mem_map_of_mem y) nd.1
    · rcases List.mem_cons.mp hb with y | y
      · exact absurd (by rw [← y, ← e]; exact List.mem_map_of_mem z) nd.1
      · exact nodup_inj nd.2 z y e
/-- a deed's object and its stamp's, in a heap -/
structure Dob (h : Heap) (a : Addr) (t j : Int) : Prop where
  ex : ∃ (o : Obj) (sa : Addr) (k b : Value) (n : Nat) (os : Obj) (t1 t2 : Tok) (m : Nat), h.get? a = some o ∧ o.cls = .type "tuple" ∧ o.data = .seq #[.ref sa, k, b] n ∧ h.get? sa = some os ∧ os.cls = .type "tuple" ∧ os.data = .seq #[.int t t1, .int j t2] m
theorem Dob.keeps {h h2 : Heap} {a : Addr} {t j : Int} (d : Dob h a t j) (k : ∀ b o, h.get? b = some o → h2.get? b = some o) : Dob h2 a t j := by
  obtain ⟨o, sa, x, b, n, os, t1, t2, m, e1, e2, e3, e4, r⟩ := d.ex
  exact ⟨o, sa, x, b, n, os, t1, t2, m, k _ _ e1, e2, e3, k _ _ e4, r⟩
/-- addresses of deeds with their times and hands -/
abbrev Rws := List (Addr × Int × Int)
def cod (r : Addr × Int × Int) : Int := r.2.1 * 1000 + r.2.2
/-- how deeds are ordered -/
def kDeeds (L : Rws) : PyProof.Rows.KeyKind where
  α := Int
  blt a b := decide (a < b)
  irrefl a := by simp
  trans a b c h1 h2 := by
    rw [decide_eq_true_eq] at *
    omega
  negTrans a b c h := by
    rw [decide_eq_true_eq] at h
    rw [decide_eq_true_eq, decide_eq_true_eq]
    omega
  total a b h1 h2 := by
    rw [decide_eq_false_iff_not] at h1 h2
    omega
  keyOf v := (L.find? fun r => v == Value.ref r.1).map cod
  dflt := (0 : Int)
theorem kD_inv {L : Rws} {v : Value} {c : Int} (h : (kDeeds L).keyOf v = some c) : ∃ r ∈ L, v = .ref r.1 ∧ c = cod r := by
  have h' : (L.find? fun r => v == Value.ref r.1).map cod = some c := h
  obtain ⟨r, e1, e2⟩ := Option.map_eq_some_iff.mp h'
  have e3 := List.find?_some (p := fun r : Addr × Int × Int => v == Value.ref r.1) e1
  exact ⟨r, List.mem_of_find?_eq_some e1, eq_of_beq e3, e2.symm⟩
theorem kD_has {L : Rws} (nd : (L.map (·.1)).Nodup) {r : Addr × Int × Int} (h : r ∈ L) : (kDeeds L).keyOf (.ref r.1) = some (cod r) := by
  show (L.find? fun q => Value.ref r.1 == Value.ref q.1).map cod = some (cod r)
  induction L with
  | nil => cases h
  | cons q L ih =>
    rw [List.map_cons, List.nodup_cons] at nd
    by_cases e : r.1 = q.1
    · rcases List.mem_cons.mp h with z | z
      · rw [List.find?_cons_of_pos (by rw [e]; exact beq_self_eq_true _), z]
        rfl
      · exact absurd (by rw [← e]; exact List.mem_map_of_mem z) nd.1
    · rw [List.find?_cons_of_neg (by rw [beq_iff_eq]; intro z; injection z with z; exact e z)]
      rcases List.mem_cons.mp h with z | z
      · exact absurd (by rw [z]) e
      · exact ih nd.2 z
theorem katTups_deeds {h : Heap} : ∀ {L : Rws}, (∀ r ∈ L, Dob h r.1 r.2.1 r.2.2) → ∃ fs, KatTups h (L.map fun r => Value.ref r.1) fs ∧ fs.length = L.length ∧ ∀ f ∈ fs, ∃ sa os, f = .ref sa ∧ h.get? sa = some os ∧ os.cls = .type "tuple"
  | [], _ => ⟨[], .nil, rfl, fun f hf => absurd hf List.not_mem_nil⟩
  | r :: L, hL => by
    obtain ⟨fs, k, l, all⟩ := katTups_deeds (L := L) fun q hq => hL q (List.mem_cons_of_mem _ hq)
    obtain ⟨o, sa, x, b, n, os, t1, t2, m, e1, e2, e3, e4, e5, e6⟩ := (hL r List.mem_cons_self).ex
    refine ⟨.ref sa :: fs, .cons e1 e2 e3 rfl k, by rw [List.length_cons, List.length_cons, l], fun f hf => ?_⟩
    rcases List.mem_cons.mp hf with z | z
    · exact ⟨sa, os, z, e4, e5⟩
    · exact all f z
theorem sorts_deeds {prog : Program} {w : World} {A : Around} {s : Shared} {L : Rws} (nd : (L.map (·.1)).Nodup) (nk : (L.map (·.2)).Nodup) (hj : ∀ r ∈ L, 0 ≤ r.2.2 ∧ r.2.2 ≤ 3) (hL : ∀ r ∈ L, Dob s.heap r.1 r.2.1 r.2.2) (hu : A.units + 4 < cLine) :
    SortsAt prog w A s (kDeeds L) (L.map fun r => Value.ref r.1) := by
  refine ⟨fun v hv => ?_, tuples' false, ?_, fun h2 E Q hq => ?_⟩
  · obtain ⟨r, hr, rfl⟩ := List.mem_map.mp hv
    exact ⟨_, kD_has nd hr⟩
  · intro E x y a b Q ha hb hq
    obtain ⟨r, hr, rfl, rfl⟩ := kD_inv ha
    obtain ⟨q, hq2, rfl, rfl⟩ := kD_inv hb
    obtain ⟨o, sa, k1, b1, n, os, t1, t2, m, e1, e2, e3, e4, e5, e6⟩ := (hL r hr).ex
    obtain ⟨o', sa', k1', b1', n', os', t1', t2', m', g1, g2, g3, g4, g5, g6⟩ := (hL q hq2).ex
    refine kat_lt e1 e3 g1 g3 (kat_cons ?_)
    have hq' : Q (decide (cod r < cod q)) s := hq
    by_cases e : r = q
    · subst e
      rw [e1] at g1
      cases g1
      rw [e3] at g3
      cases g3
      rw [decide_eq_false (by omega)] at hq'
      refine SeqAt.EqAt.same (A := A) (s := s) _ prog w _ _ (kat_yes (kat_cons ?_))
      refine SeqAt.EqAt.same (A := A) (s := s) _ prog w _ _ (kat_yes (kat_cons ?_))
      exact SeqAt.EqAt.same (A := A) (s := s) _ prog w _ _ (kat_yes (kat_nil hq'))
    · have ne : r.2 ≠ q.2 := fun z => e (nodup_inj nk hr hq2 z)
      obtain ⟨ra, rt, rj⟩ := r
      obtain ⟨qa, qt, qj⟩ := q
      have j1 := hj _ hr
      have j2 := hj _ hq2
      dsimp only at j1 j2 ne e6 g6 hq'
      have nk2 : decide ([rt, rj] = [qt, qj]) = false := decide_eq_false fun z => ne (by
        injection z with z1 z
        injection z with z2
        rw [z1, z2])
      refine wpAny_eqBool_tuple (knd := intKind prog w) (x := [rt, rj]) (y := [qt, qj]) (by omega) ⟨os, _, m, e4, e5, e6, .cons (intKind_is ..) (.cons (intKind_is ..) .nil)⟩ ⟨os', _, m', g4, g5, g6, .cons (intKind_is ..) (.cons (intKind_is ..) .nil)⟩ ?_
      rw [nk2]
      refine kat_no ?_
      show wpAny _ _ (oneLt' false _ _) _ _ _
      refine oneLt_alike (da := .tuple [.int rt, .int rj]) (db := .tuple [.int qt, .int qj]) (fun z => Bool.noConfusion z) (.tuple e4 e5 e6 (.cons (.int _ _) (.cons (.int _ _) .nil))) (.tuple g4 g5 g6 (.cons (.int _ _) (.cons (.int _ _) .nil))) (by rfl) (fun z => by cases z) (by show A.units + min 1 1 < cLine; omega) ?_
      rw [dataLt_ii]
      have ee : decide (rt < qt ∨ rt = qt ∧ rj < qj) = decide (cod (ra, rt, rj) < cod (qa, qt, qj)) := by
        show decide (rt < qt ∨ rt = qt ∧ rj < qj) = decide (rt * 1000 + rj < qt * 1000 + qj)
        rw [decide_eq_decide]
        omega
      rw [ee]
      exact hq'
  · obtain ⟨fs, k, l, all⟩ := katTups_deeds hL
    refine kat_kind (T := Value.type "tuple") k (by rw [l]; rw [List.length_map] at h2; omega) (fun f hf => ?_) (beq_self_eq_true _) hq
    obtain ⟨sa, os, rfl, e1, e2⟩ := all f hf
    exact fun A Q E s2 k q => wpAny_typeOf_ref (k _ _ e1) (by rw [e2]; exact q)
theorem perm_map_inv {α β : Type} {f : α → β} {m l : List β} (h : m.Perm l) : ∀ {L : List α}, m = L.map f → ∃ L' : List α, l = L'.map f ∧ L'.Perm L := by
  induction h with
  | nil =>
    intro L e
    exact ⟨L, e, .refl _⟩
  | cons x h ih =>
    intro L e
    cases L with
    | nil => cases e
    | cons a L =>
      rw [List.map_cons, List.cons.injEq] at e
      obtain ⟨L', e', p⟩ := ih e.2
      exact ⟨a :: L', by rw [List.map_cons, ← e', e.1], p.cons a⟩
  | swap x y l =>
    intro L e
    cases L with
    | nil => cases e
    | cons a L =>
      cases L with
      | nil => cases e
      | cons b L =>
        rw [List.map_cons, List.map_cons, List.cons.injEq, List.cons.injEq] at e
        exact ⟨b :: a :: L, by rw [List.map_cons, List.map_cons, ← e.1, ← e.2.1, ← e.2.2], .swap ..⟩
  | trans h1 h2 ih1 ih2 =>
    intro L e
    obtain ⟨L1, e1, p1⟩ := ih1 e
    obtain ⟨L2, e2, p2⟩ := ih2 e1
    exact ⟨L2, e2, p2.trans p1⟩
/-- sorted(deeds), a list or a tuple of right deeds whose stamps are unlike -/
def rSortD (K : PySem.W.Frag) : List V → Hp → VK → Prop := fun xs H Q => ∃ a us ds, xs = [.ref a] ∧ (SqL K H a us ∨ SqT K H a us) ∧ DQs K H us ds ∧ (∀ e ∈ ds, deedD e = true) ∧ (ds.map keyD).Nodup ∧ ds.length ≤ 100 ∧
  ∀ p us' ds', H p = none → DQs K H us' ds' → ds'.Perm ds → ds'.Pairwise (fun a b => lt1000 (keyD a) (keyD b)) → (∀ (i : Nat) (u : V) (e : PyData), us'[i]? = some u → ds'[i]? = some e → ∃ j : Nat, us[j]? = some u ∧ ds[j]? = some e) → Q (.ref p) (upd H p (.lst us'))
theorem rows_of {K : PySem.W.Frag} {H : Hp} : ∀ {us : List V} {ds : List PyData}, DQs K H us ds → (∀ e ∈ ds, deedD e = true) → ∃ L : List ((Addr × Int × Int) × PyData), L.map (fun q => V.ref q.1.1) = us ∧ L.map (·.2) = ds ∧ ∀ q ∈ L, DQ K H (.ref q.1.1) q.2 ∧ keyD q.2 = [q.1.2.1, q.1.2.2] ∧ 0 ≤ q.1.2.2 ∧ q.1.2.2 ≤ 3
  | _, _, .nil, _ => ⟨[], rfl, rfl, fun q hq => absurd hq List.not_mem_nil⟩
  | _, _, .cons (ds := ds) h1 h2, hr => by
    obtain ⟨L, e1, e2, all⟩ := rows_of h2 fun e he => hr e (List.mem_cons_of_mem _ he)
    obtain ⟨⟨a, sa, ka, ub, t, j, x, l, rfl, _, _, _, _, p5, _, p7, _⟩, _, _⟩ := parts_of h1 (hr _ List.mem_cons_self)
    refine ⟨((a, t, j), _) :: L, by rw [List.map_cons, e1], by rw [List.map_cons, e2], fun q hq => ?_⟩
    rcases List.mem_cons.mp hq with z | z
    · rw [z]
      exact ⟨h1, p5, p7⟩
    · exact all q z
theorem nodup_by {α β γ : Type} {f : α → β} {g : α → γ} : ∀ {l : List α}, (∀ a ∈ l, ∀ b ∈ l, f a = f b → g a = g b) → (l.map g).Nodup → (l.map f).Nodup
  | [], _, _ => List.nodup_nil
  | x :: l, h, nd => by
    rw [List.map_cons, List.nodup_cons] at nd ⊢
    refine ⟨fun hm => ?_, nodup_by (fun a ha b hb => h a (List.mem_cons_of_mem _ ha) b (List.mem_cons_of_mem _ hb)) nd.2⟩
    obtain ⟨y, hy, e⟩ := List.mem_map.mp hm
    exact nd.1 (by rw [h x List.mem_cons_self y (List.mem_cons_of_mem _ hy) e.symm]; exact List.mem_map_of_mem hy)
theorem vals_refs {α : Type} (f : α → Addr) : ∀ {l : List α} {its : List Value}, Vals (l.map fun q => V.ref (f q)) its → its = l.map fun q => Value.ref (f q)
  | [], _, r => by
    cases r
    rfl
  | x :: l, _, r => by
    cases r with
    | cons h t =>
      cases h
      rw [vals_refs f t]
      rfl
theorem refs_vals {α : Type} (f : α → Addr) : ∀ l : List α, Vals (l.map fun q => V.ref (f q)) (l.map fun q => Value.ref (f q))
  | [] => .nil
  | x :: l => .cons rfl (refs_vals f l)
section
variable {X : Cx} {pins : List (Addr × Obj)} {σ : L2.St} {H : Hp} {s : Shared}
theorem dob_of {a : Addr} {d : PyData} {t j : Int} (I : Inv X pins σ H s) (h : DQ X.K H (.ref a) d) (r : deedD d = true) (e : keyD d = [t, j]) : Dob s.heap a t j := by
  obtain ⟨⟨a', sa, ka, ub, t', j', x, l, ea, h1, h2, _, _, p5, _⟩, _, _⟩ := parts_of h r
  cases ea
  rw [p5] at e
  injection e with e1 e
  injection e with e2
  subst e1 e2
  obtain ⟨its, rv, ⟨o, o1, o2, n, o3⟩, _⟩ := I.tuple h1
  obtain ⟨its2, rv2, ⟨o', g1, g2, m, g3⟩, _⟩ := I.tuple h2
  cases rv with
  | cons r1 rv =>
    cases rv with
    | cons r2 rv =>
      cases rv with
      | cons r3 rv =>
        cases rv
        cases r1
        cases r2
        cases rv2 with
        | cons q1 rv2 =>
          cases rv2 with
          | cons q2 rv2 =>
            cases rv2
            obtain ⟨t1, rfl⟩ := q1
            obtain ⟨t2, rfl⟩ := q2
            exact ⟨⟨o, sa, _, _, n, o', t1, t2, m, o1, o2, o3, g1, g2, g3⟩⟩
theorem Dob.one {h : Heap} {a : Addr} {t j t' j' : Int} (d : Dob h a t j) (e : Dob h a t' j') : t = t' ∧ j = j' := by
  obtain ⟨o, sa, x, b, n, os, t1, t2, m, e1, e2, e3, e4, e5, e6⟩ := d.ex
  obtain ⟨o', sa', x', b', n', os', t1', t2', m', g1, g2, g3, g4, g5, g6⟩ := e.ex
  rw [e1] at g1
  cases g1
  rw [e3] at g3
  injection g3 with g3
  injection g3 with g3
  injection g3 with z g3
  injection z with z
  subst z
  rw [e4] at g4
  cases g4
  rw [e6] at g6
  injection g6 with g6
  injection g6 with g6
  injection g6 with z1 g6
  injection z1 with z1
  injection g6 with z2
  injection z2 with z2
  exact ⟨z1, z2⟩
theorem call_sortD (hu : X.A.units + 6 < cLine) : CallR X (.builtin "sorted") (rSortD X.K) := by
  intro pins s σ H xs us Q I r h
  obtain ⟨a, vs, ds, rfl, hseq, hds, right, nd, few, q⟩ := h
  obtain ⟨u, rfl, rx⟩ := r.one
  cases rx
  obtain ⟨L, e1, e2, all⟩ := rows_of hds right
  subst e1
  subst e2
  have dob : ∀ x ∈ L, Dob s.heap x.1.1 x.1.2.1 x.1.2.2 := fun x hx => dob_of I (all x hx).1 (right _ (List.mem_map_of_mem hx)) (all x hx).2.1
  obtain ⟨o, T, n, ho, hc, hT, hd⟩ : ∃ (o : Obj) (T : String) (n : Nat), s.heap.get? a = some o ∧ o.cls = .type T ∧ (T = "list" ∨ T = "tuple") ∧ o.data = .seq (L.map fun x => Value.ref x.1.1).toArray n := by
    rcases hseq with hseq | hseq
    · obtain ⟨its, rv, p, _⟩ := I.list hseq
      obtain ⟨o, o1, o2, n, o3⟩ := p.isList
      rw [vals_refs (fun x : (Addr × Int × Int) × PyData => x.1.1) rv] at o3
      exact ⟨o, "list", n, o1, o2, .inl rfl, o3⟩
    · obtain ⟨its, rv, ⟨o, o1, o2, n, o3⟩, _⟩ := I.tuple hseq
      rw [vals_refs (fun x : (Addr × Int × Int) × PyData => x.1.1) rv] at o3
      exact ⟨o, "tuple", n, o1, o2, .inr rfl, o3⟩
  have key : ∀ x ∈ L, ∀ y ∈ L, x.1.1 = y.1.1 → keyD x.2 = keyD y.2 := fun x hx y hy e => by
    obtain ⟨z1, z2⟩ := (dob x hx).one (by rw [e]; exact dob y hy)
    rw [(all x hx).2.1, (all y hy).2.1, z1, z2]
  rw [List.map_map] at nd
  have ndA : (L.map fun x => x.1.1).Nodup := nodup_by key nd
  have ndK : (L.map fun x => x.1.2).Nodup := nodup_by (g := keyD ∘ fun x : (Addr × Int × Int) × PyData => x.2) (fun x hx y hy e => by
    show keyD x.2 = keyD y.2
    rw [(all x hx).2.1, (all y hy).2.1, e]) nd
  have lz : (L.map fun x => Value.ref x.1.1).length ≤ sizeLine := by
    rw [List.length_map] at few ⊢
    rw [sizeLine_eq]
    omega
  have ev : (L.map fun x => Value.ref x.1.1) = (L.map (·.1)).map fun r => Value.ref r.1 := by rw [List.map_map]; rfl
  refine sorted_any (κ := kDeeds (L.map (·.1))) ho hc hT hd lz ?_ ?_
  · rw [ev]
    refine sorts_deeds (by rw [List.map_map]; exact ndA) (by rw [List.map_map]; exact ndK) (fun r hr => ?_) (fun r hr => ?_) (by show X.A.in1.in1.units + 4 < cLine; have : X.A.in1.in1.units = X.A.units + 2 := rfl; omega)
    · obtain ⟨x, hx, rfl⟩ := List.mem_map.mp hr
      exact (all x hx).2.2
    · obtain ⟨x, hx, rfl⟩ := List.mem_map.mp hr
      exact (dob x hx).keeps fun b u e => sorting_copy_old e
  · have zz : sortVals (kDeeds (L.map (·.1))) false (L.map fun x => Value.ref x.1.1) (L.map fun x => Value.ref x.1.1) = (((L.map fun x => Value.ref x.1.1).zip (L.map fun x => Value.ref x.1.1)).mergeSort (sortLe (kDeeds (L.map (·.1))).toKeyOrd false fun pr : Value × Value => PySem.W.keyD (kDeeds (L.map (·.1))) pr.1)).map Prod.snd := rfl
    rw [zz]
    have pz := List.mergeSort_perm ((L.map fun x => Value.ref x.1.1).zip (L.map fun x => Value.ref x.1.1)) (sortLe (kDeeds (L.map (·.1))).toKeyOrd false fun pr : Value × Value => PySem.W.keyD (kDeeds (L.map (·.1))) pr.1)
    have sz := sort_pairwise (sortLe_total (kDeeds (L.map (·.1))).toKeyOrd false fun pr : Value × Value => PySem.W.keyD (kDeeds (L.map (·.1))) pr.1) ((L.map fun x => Value.ref x.1.1).zip (L.map fun x => Value.ref x.1.1))
    generalize ((L.map fun x => Value.ref x.1.1).zip (L.map fun x => Value.ref x.1.1)).mergeSort (sortLe (kDeeds (L.map (·.1))).toKeyOrd false fun pr : Value × Value => PySem.W.keyD (kDeeds (L.map (·.1))) pr.1) = z at pz sz ⊢
    have self : ∀ (l : List Value) (pr : Value × Value), pr ∈ l.zip l → pr.1 = pr.2 := by
      intro l
      induction l with
      | nil => exact fun pr h => absurd h List.not_mem_nil
      | cons v l ih =>
        intro pr h
        rcases List.mem_cons.mp h with y | y
        · rw [y]
        · exact ih pr y
    have same : ∀ pr ∈ z, pr.1 = pr.2 := fun pr h => self _ pr (pz.mem_iff.mp h)
    have pv : (z.map Prod.snd).Perm (L.map fun x => Value.ref x.1.1) := by
      have y := pz.map Prod.snd
      have e : ∀ l : List Value, (l.zip l).map Prod.snd = l := by
        intro l
        induction l with
        | nil => rfl
        | cons v l ih =>
          show v :: (l.zip l).map Prod.snd = v :: l
          rw [ih]
      rw [e] at y
      exact y
    obtain ⟨L', eL, pL⟩ := perm_map_inv (f := fun x : (Addr × Int × Int) × PyData => Value.ref x.1.1) pv.symm (L := L) rfl
    have inL : ∀ x ∈ L', x ∈ L := fun x hx => pL.mem_iff.mp hx
    rw [eL]
    have kd : ∀ x ∈ L, PySem.W.keyD (kDeeds (L.map (·.1))) (Value.ref x.1.1) = cod x.1 := fun x hx => keyD_some (kD_has (L := L.map (·.1)) (by rw [List.map_map]; exact ndA) (List.mem_map_of_mem (f := (·.1)) hx))
    have up : L'.Pairwise (fun x y => cod x.1 ≤ cod y.1) := by
      have y1 : (z.map Prod.snd).Pairwise (fun u v => sortLe (kDeeds (L.map (·.1))).toKeyOrd false (fun pr : Value × Value => PySem.W.keyD (kDeeds (L.map (·.1))) pr.1) (u, u) (v, v) = true) := by
        rw [List.pairwise_map]
        refine List.Pairwise.imp_of_mem (fun {p r} hp hr hle => ?_) sz
        have a1 := same p hp
        have a2 := same r hr
        obtain ⟨p1, p2⟩ := p
        obtain ⟨r1, r2⟩ := r
        dsimp only at a1 a2
        rw [← a1, ← a2] at hle ⊢
        exact hle
      rw [eL, List.pairwise_map] at y1
      refine List.Pairwise.imp_of_mem (fun {x y} hx hy hle => ?_) y1
      have w1 : (!(kDeeds (L.map (·.1))).blt (PySem.W.keyD (kDeeds (L.map (·.1))) (Value.ref y.1.1)) (PySem.W.keyD (kDeeds (L.map (·.1))) (Value.ref x.1.1))) = true := hle
      rw [kd x (inL x hx), kd y (inL y hy), Bool.not_eq_true'] at w1
      have w2 : decide ((cod y.1 : Int) < cod x.1) = false := w1
      show (cod x.1 : Int) ≤ cod y.1
      have w3 := of_decide_eq_false w2
      omega
    have ndL : (L'.map fun x => cod x.1).Nodup := by
      refine ((pL.map fun x => cod x.1).nodup_iff).mpr (nodup_by (g := fun x : (Addr × Int × Int) × PyData => x.1.2) (fun x hx y hy e => ?_) ndK)
      have a1 := (all x hx).2.2
      have a2 := (all y hy).2.2
      obtain ⟨⟨xa, xt, xj⟩, xd⟩ := x
      obtain ⟨⟨ya, yt, yj⟩, yd⟩ := y
      have e' : xt * 1000 + xj = yt * 1000 + yj := e
      dsimp only at a1 a2 ⊢
      have z1 : xt = yt := by omega
      have z2 : xj = yj := by omega
      rw [z1, z2]
    have strict : L'.Pairwise (fun x y => lt1000 (keyD x.2) (keyD y.2)) := by
      have y2 : L'.Pairwise (fun x y => cod x.1 ≠ cod y.1) := List.pairwise_map.mp ndL
      refine List.Pairwise.imp_of_mem (fun {x y} hx hy h12 => ?_) (up.and y2)
      rw [(all x (inL x hx)).2.1, (all y (inL y hy)).2.1]
      show TS.code 1000 [x.1.2.1, x.1.2.2] < TS.code 1000 [y.1.2.1, y.1.2.2]
      rw [code2, code2]
      have g1 : (x.1.2.1 * 1000 + x.1.2.2 : Int) ≤ y.1.2.1 * 1000 + y.1.2.2 := h12.1
      have g2 : ¬ (x.1.2.1 * 1000 + x.1.2.2 : Int) = y.1.2.1 * 1000 + y.1.2.2 := h12.2
      omega
    have hDQ : ∀ l : List ((Addr × Int × Int) × PyData), (∀ x ∈ l, x ∈ L) → DQs X.K H (l.map fun x => V.ref x.1.1) (l.map (·.2)) := by
      intro l
      induction l with
      | nil => exact fun _ => .nil
      | cons x l ih => exact fun h => .cons (all x (h x List.mem_cons_self)).1 (ih fun y hy => h y (List.mem_cons_of_mem _ hy))
    have hoL := copyHeap_at s.heap (L.map fun x => Value.ref x.1.1)
    obtain ⟨c, hc'⟩ := PyProof.Rows.sortedHeap_at (vs := L.map fun x => Value.ref x.1.1) (out := (L'.map fun x => Value.ref x.1.1).toArray) hoL
    have fresh : H (s.heap.objs.size + 1) = none := I.hok.fresh (Nat.le_succ _)
    refine ⟨.ref (s.heap.objs.size + 1), upd H (s.heap.objs.size + 1) (.lst (L'.map fun x => V.ref x.1.1)), I.laid (t' := s.toks) (fun b u e => ?_) (Nat.le_succ _) ⟨?_, (L'.map fun x : (Addr × Int × Int) × PyData => Value.ref x.1.1), c, refs_vals (fun x : (Addr × Int × Int) × PyData => x.1.1) L', hc'⟩, rfl,
      q _ _ (L'.map (·.2)) fresh (hDQ L' inL) (pL.map _) (by rw [List.pairwise_map]; exact strict) (fun i u e hu he => ?_)⟩
    · have lt := Heap.lt_size e
      have old := copyHeap_old (vs := L.map fun x => Value.ref x.1.1) e
      show (sortedHeap (copyHeap s.heap (L.map fun x => Value.ref x.1.1)) (s.heap.objs.size + 1) (L.map fun x => Value.ref x.1.1) (L'.map fun x => Value.ref x.1.1).toArray).get? b = some u
      rw [PyProof.Rows.sortedHeap_old (Nat.ne_of_lt (Nat.lt_succ_of_lt lt)) (Heap.lt_size old)]
      exact old
    · rw [List.length_map, pL.length_eq, ← List.length_map (f := (·.2))]
      rw [sizeLine_eq]
      omega
    · rw [List.getElem?_map, Option.map_eq_some_iff] at hu he
      obtain ⟨x, hx, rfl⟩ := hu
      obtain ⟨y, hy, rfl⟩ := he
      rw [hx] at hy
      cases hy
      obtain ⟨j, hj⟩ := List.getElem?_of_mem (inL x (List.mem_of_getElem? hx))
      exact ⟨j, by rw [List.getElem?_map, hj]; rfl, by rw [List.getElem?_map, hj]; rfl⟩
end
end K1
/-! a dict comprehension whose keys are pairs -/
namespace K1
open PySem L2 PySem.Spec PyProof.Rows
abbrev newDictO : Obj := { cls := .type "dict", data := .dict #[] }
/-- D[the pair at b] = v, by a comprehension -/
theorem dt_dictSet {X : Cx} {pins : List (Addr × Obj)} {σ : L2.St} {H : Hp} {s : Shared} {E : Value → Shared → Prop} {D b : Addr} {kvs : List (List Key × V)} {k : List Int} {v : V} {r : Value} {Q : Unit → Shared → Prop} (hu : X.A.units + 1 < cLine) (I : Inv X pins σ H s) (hD : H D = some (.dT kvs)) (hb : H b = some (.tup (k.map V.int)))
    (few : kvs.length < sizeLine) (rv : RelV v r) (h : ∀ s', Inv X pins σ (upd H D (.dT (putK kvs (kI k) v))) s' → Q () s') : wpAny (model X.prog X.w) X.A (dictSet D (.ref b) r) Q E s := by
  have eb : H b = some (.tup ((kI k).map kV)) := by rw [kI_V]; exact hb
  obtain ⟨z, hd, xs, rel, dd⟩ := dt_of I.hok hD
  have xz : xs.length ≤ sizeLine := by rw [← Paired.length rel]; exact z
  have lz : (putK kvs (kI k) v).length ≤ sizeLine := by
    have := length_putK kvs (kI k) v
    omega
  refine wpAny_dictSet_heap (hsz := xz) (show X.A.units < cLine by omega) (key_of I.hok eb) dd fun h2 d2 hs => h _ ?_
  obtain ⟨ob, es, ep, g1, g2, g3, g4, _, g5⟩ := d2
  refine d_write I (by rw [hD]; exact True.intro) hs ⟨ob, g1⟩ ⟨lz, hd, _, (rel.put (kI k) eb rv).keeps fun c ys ec => ?_, ob, es, ep, g1, g2, g3, g4, g5⟩
  rw [upd_ne (ne_of ec hD (fun q => nomatch q))]
  exact ec
/-- {k: v for target in iter if ..}, keys pairs: D the new dict -/
def tDcT (wi : TI) (g : TG) (tt : TT) (tk tv : TE) (vs : List Nat) : TE := fun σ H Q => wi σ H fun J H1 => ∀ D, H1 D = none → ∃ W : Nat → Nat → Hp → Prop, (∃ m, W 0 m (upd H1 D (.dT []))) ∧ ∀ i m H, W i m H →
  (J.stop i H ∧ Q (.ref D) H) ∨ (J.go i H ∧ ∃ Nx : Hp → Prop, (∀ H', Nx H' → ∃ m', m' < m ∧ W (i + 1) m' H') ∧ ∀ x H', J.yld i H x H' → g x (wipe σ vs) H' fun σ2 H2 => wipe σ2 vs = wipe σ vs ∧ tt σ2 H2 fun b H3 =>
    if b = true then tk σ2 H3 fun y H4 => tv σ2 H4 fun z H5 => ∃ b kvs, ∃ k : List Int, y = .ref b ∧ H5 D = some (.dT kvs) ∧ H5 b = some (.tup (k.map V.int)) ∧ kvs.length < sizeLine ∧ Nx (upd H5 D (.dT (putK kvs (kI k) z))) else Nx H3)
section
variable {X : Cx}
theorem pe_dcT {kx vx tg iter : Expr} {ifs : List Expr} {scope : Scope} {own : List (PySem.Str × Nat)} {pos : Pos} {wi : TI} {g : TG} {tt : TT} {tk tv : TE} (hc : X.calm = true) (hu : X.A.units + 1 < cLine) (hN : X.N.Nodup) (hi : PI X tg iter wi) (ok : BlkOk X.N X.env.scope scope own)
    (hg : ∀ (s : Shared) (H : Hp) (C : Addr) (cl : List (PySem.Str × Addr)) (fp : List Addr), PG (X.blk s H scope (compEnvC scope cl C X.env) fp) tg g) (ht : ∀ (s : Shared) (H : Hp) (C : Addr) (cl : List (PySem.Str × Addr)) (fp : List Addr), PTs (X.blk s H scope (compEnvC scope cl C X.env) fp) ifs tt)
    (hk : ∀ (s : Shared) (H : Hp) (C : Addr) (cl : List (PySem.Str × Addr)) (fp : List Addr), PE (X.blk s H scope (compEnvC scope cl C X.env) fp) kx tk)
    (he : ∀ (s : Shared) (H : Hp) (C : Addr) (cl : List (PySem.Str × Addr)) (fp : List Addr), PE (X.blk s H scope (compEnvC scope cl C X.env) fp) vx tv) (hs : ∀ x, foldedSetIterable iter X.env x = pure x := by intro _; rfl) :
    PE X (.DictComp kx vx [⟨tg, iter, ifs, 0⟩] scope pos) (tDcT wi g tt tk tv (own.map (·.2))) := by
  refine ⟨fun pins s σ H Q I h => ?_⟩
  rw [arm_eval_DictComp]
  have cells : ∀ y ∈ scope.names, y.2 = .free → ∃ c, X.env.cells.lookup y.1 = some c := fun y hy e => (ok.free y hy e).elim (fun k => I.ok.has _ (.inl k)) fun k => I.ok.has _ (.inr k)
  refine wpAny_comprehension_free rfl hs (closure_ok cells) ok.kind (fun y hy e => by rw [ok.uniq y hy, e]) (thn (hi.run pins s σ H _ I h) fun xv s1 hx => thn hx fun itv s2 h2 => ?_)
  obtain ⟨it, fp, tn, J, H2, e, I2, T, st2, f2, q⟩ := h2
  subst e
  refine wpAny_newObj_type (newEnv_comp ?_)
  -- D: the new dict
  generalize hD : s2.heap.objs.size = D
  obtain ⟨W, ⟨m0, w0⟩, turn⟩ := q D (I2.hok.fresh (Nat.le_of_eq hD))
  obtain ⟨s3, hs3, h3⟩ : ∃ s3 : Shared, ({ s2 with heap := s2.heap.push (newDictO) } : Shared) = s3 ∧ s3.heap = s2.heap.push (newDictO) := ⟨_, rfl, rfl⟩
  have push : ∀ b o, s2.heap.get? b = some o → s3.heap.get? b = some o := fun b o e => by
    rw [h3]
    exact Heap.get?_push_of_some _ e
  have I3 : Inv X pins σ (upd H2 D (.dT [])) s3 := by
    rw [← hs3]
    refine I2.laid (t' := s2.toks) (fun b o e => Heap.get?_push_of_some _ e) (Nat.le_of_eq hD) ?_
    rw [← hD]
    exact dt_empty s2.heap I2.big
  have small : ∀ b ∈ fp, b < s2.heap.objs.size := fun b hb => by
    obtain ⟨o, e, _⟩ := T.obj _ _ st2 b hb
    exact Heap.lt_size e
  have f3 : ∀ b ∈ fp, FpOk X pins (upd H2 D (.dT [])) b ∧ b < s3.heap.objs.size := fun b hb => by
    have lt := small b hb
    have nD : b ≠ D := by
      rw [← hD]
      exact Nat.ne_of_lt lt
    exact ⟨⟨by rw [upd_ne nD]; exact (f2 b hb).1, (f2 b hb).2⟩, by rw [h3, Heap.size_push]; exact Nat.lt_succ_of_lt lt⟩
  have st3 : tn 0 s3.heap := T.keep _ _ _ st2 fun b _ o e => push b o e
  have I4 := block_start I3 ok hN f3
  generalize hcl : cellsFrom (s3.heap.objs.size + 1) scope.names (cloFrom X.env.cells scope.names []) = cl at I4
  have pg := hg s3 (upd H2 D (.dT [])) s3.heap.objs.size cl fp
  have pt := ht s3 (upd H2 D (.dT [])) s3.heap.objs.size cl fp
  have pk := hk s3 (upd H2 D (.dT [])) s3.heap.objs.size cl fp
  have pe := he s3 (upd H2 D (.dT [])) s3.heap.objs.size cl fp
  rw [hs3, hcl]
  have nfp : ∀ b ∈ fp, (upd H2 D (.dT [])) b = none := fun b hb => (f3 b hb).1.1
  obtain ⟨ce, hce, cL⟩ : ∃ ce : Env, compEnvC scope cl s3.heap.objs.size X.env = ce ∧ ce.locals = s3.heap.objs.size := ⟨_, rfl, rfl⟩
  show codeAny _ _ (.compStart (.DictComp kx vx [⟨tg, iter, ifs, 0⟩] scope pos) 0 (.ref it) (.ref D) (compEnvC scope cl s3.heap.objs.size X.env)) (compPost (model X.prog X.w) X.A X.xe none (EP X pins σ Q) (.ref D) s3.heap.objs.size) { s3 with heap := pushCells (s3.heap.push { cls := .type "dict", data := .dict #[] }) scope.names }
  rw [hce] at I4 pg pt pk pe ⊢
  generalize upd H2 D (.dT []) = H3 at I3 I4 pg pt pk pe w0 nfp f3
  obtain ⟨s4, hs4, h4⟩ : ∃ s4 : Shared, ({ s3 with heap := pushCells (s3.heap.push { cls := .type "dict", data := .dict #[] }) scope.names } : Shared) = s4 ∧ s4.heap = pushCells (s3.heap.push { cls := .type "dict", data := .dict #[] }) scope.names := ⟨_, rfl, rfl⟩
  rw [hs4] at I4 ⊢
  have st4 : tn 0 s4.heap := T.keep _ _ _ st3 fun b _ o e => by
    rw [h4]
    exact pushCells_keeps _ _ _ _ (Heap.get?_push_of_some _ e)
  have rest : ∀ {σ' : L2.St} {H' : Hp} {s' : Shared}, Inv (X.blk s3 H3 scope ce fp) [] σ' H' s' → (∀ b ∈ fp, H' b = none) → ∀ b ∈ fp, FpOk (X.blk s3 H3 scope ce fp) [] H' b := fun I' hn b hb =>
    ⟨hn b hb, (I'.ok.exf b hb).1, I'.ok.exfs b hb, .inl hb, fun x c e => (I'.ok.exf b hb).2 x c e, fun p hp => absurd (show p ∈ ([] : List (Addr × Obj)) ++ [] from hp) (by simp)⟩
  -- the block's turns
  have loop : codeAny (model X.prog X.w) X.A (.compLoop (.DictComp kx vx [⟨tg, iter, ifs, 0⟩] scope pos) 0 (.ref it) (.ref D) ce) (compPost (model X.prog X.w) X.A X.xe none (EP X pins σ Q) (.ref D) s3.heap.objs.size) s4 := by
    refine compLoop_anyD (fun n s' => ∃ i H', Inv (X.blk s3 H3 scope ce fp) [] (wipe σ (own.map (·.2))) H' s' ∧ tn i s'.heap ∧ (∀ b ∈ fp, H' b = none) ∧ W i n H') ?_ m0 ⟨0, H3, I4, st4, nfp, w0⟩
    rintro n s5 ⟨i, H5, I5, st5, n5, w5⟩
    rcases turn i n H5 w5 with ⟨stop, qq⟩ | ⟨go, Nx, next, step⟩
    · refine thnF (T.done (X.blk s3 H3 scope ce fp) rfl rfl rfl hc i [] s5 _ H5 (fun _ _ => False) I5 (rest I5 n5) st5 stop) fun r s6 ⟨hr, I6⟩ => ?_
      subst hr
      have I7 : Inv X pins σ H5 s6 := I3.call' (ch := fp) I6.os I6.base I6.hok I6.bare fun b hb => ⟨(f3 b hb).1.2.2.2.1, (f3 b hb).1.2.1, (f3 b hb).1.2.2.2.2.1, (f3 b hb).1.2.2.2.2.2⟩
      have nC : H5 s3.heap.objs.size = none := by
        rw [← cL]
        exact I6.free
      obtain ⟨m, hn, _⟩ := I6.loc
      have hn' : s6.heap.Ns s3.heap.objs.size m := by
        rw [← cL]
        exact hn
      obtain ⟨g0, g1, g2, g3, g4, g5⟩ := I3.fpOk (Nat.le_refl _) nC
      exact ⟨m, hn', fun h'' sb => ⟨.ref D, H5, I7.turned (t' := s6.toks) (fun b o hb e => (sb.2 b hb).trans e) g0 g1 g3 g4 g5, rfl, qq⟩⟩
    · refine thnF (T.item (X.blk s3 H3 scope ce fp) rfl rfl rfl hc i [] s5 _ H5 (fun _ _ => False) I5 (rest I5 n5) st5 go) fun r s6 ⟨u, hr, h6⟩ => ?_
      subst hr
      refine thnF h6 fun _ s7 ⟨x, H7, I7, r7, y7, st7, n7⟩ => ?_
      refine thnF (pg.run _ s7 _ H7 x u _ (I7.pinned (rest I7 n7) (T.obj _ _ st7)) r7 (step x H7 y7)) fun _ s8 ⟨σ8, H8, I8, hw8, q8⟩ => ?_
      refine thnF (pt.run _ s8 σ8 H8 _ I8 q8) fun b s9 ⟨H9, I9, q9⟩ => ?_
      have fin : ∀ {s' : Shared} {H' : Hp}, Inv (X.blk s3 H3 scope ce fp) ([] ++ pinsAt fp s7.heap) σ8 H' s' → Nx H' → ∃ m, m < n ∧ ∃ i H', Inv (X.blk s3 H3 scope ce fp) [] (wipe σ (own.map (·.2))) H' s' ∧ tn i s'.heap ∧ (∀ b ∈ fp, H' b = none) ∧ W i m H' := fun {s' H'} I' nx => by
        obtain ⟨m', hm, w'⟩ := next H' nx
        have pin : ∀ b ∈ fp, ∀ o, s7.heap.get? b = some o → s'.heap.get? b = some o ∧ H' b = none := fun b hb o e =>
          have z := I'.pin (b, o) (List.mem_append_right _ (List.mem_append_right _ (mem_pinsAt hb e)))
          ⟨z.1, z.2.1⟩
        refine ⟨m', hm, i + 1, H', (I'.unpinned (pins := [])).weak (by rw [← hw8, wipe_length]) (fun j v e => ?_), T.keep _ _ _ st7 fun b hb o e => (pin b hb o e).1, fun b hb => ?_, w'⟩
        · rw [← hw8] at e
          exact (wipe_some e).1
        · obtain ⟨o, e, _⟩ := T.obj _ _ st7 b hb
          exact (pin b hb o e).2
      cases b with
      | false =>
        simp only [Bool.false_eq_true, if_false] at q9 ⊢
        exact fin I9 q9
      | true =>
        simp only [if_true] at q9 ⊢
        refine thnF (pk.run _ s9 σ8 H9 _ I9 q9) fun z s10 ⟨yk, H10, I10, r10, q10⟩ => ?_
        refine thnF (pe.run _ s10 σ8 H10 _ I10 q10) fun z2 s11 ⟨yv, H11, I11, r11, b, kvs, k, ek, hD11, hb11, few, nx⟩ => ?_
        subst ek
        cases (show z = Value.ref b from r10)
        exact dt_dictSet (X := X.blk s3 H3 scope ce fp) hu I11 hD11 hb11 few r11 fun s12 I12 => fin I12 nx
  exact codeAny_compStart_dict loop (T.self X.A 0 _ _ _ st4 loop)
end
/-- what a dict comprehension over a standing thing asks, by the turn and the heap -/
theorem dct_it {J : It} {n : Nat} {G : Hp → Prop} {Y : Nat → Hp → V → Hp → Prop} (wk : Walk J n G Y) {g : TG} {tt : TT} {tk tv : TE} {vs : List Nat} {σ : L2.St} {H1 : Hp} {D : Addr} {Qd : Hp → Prop} (Pv : Nat → Hp → Prop) (h0 : Pv 0 (upd H1 D (.dT []))) (hG : ∀ i H, i ≤ n → Pv i H → G H)
    (hs : ∀ i x H H', i < n → Pv i H → Y i H x H' → g x (wipe σ vs) H' fun σ2 H2 => wipe σ2 vs = wipe σ vs ∧ tt σ2 H2 fun b H3 =>
      if b = true then tk σ2 H3 fun y H4 => tv σ2 H4 fun z H5 => ∃ b kvs, ∃ k : List Int, y = .ref b ∧ H5 D = some (.dT kvs) ∧ H5 b = some (.tup (k.map V.int)) ∧ kvs.length < sizeLine ∧ Pv (i + 1) (upd H5 D (.dT (putK kvs (kI k) z))) else Pv (i + 1) H3) (hd : ∀ H, Pv n H → Qd H) :
    ∃ W : Nat → Nat → Hp → Prop, (∃ m, W 0 m (upd H1 D (.dT []))) ∧ ∀ i m H, W i m H →
      (J.stop i H ∧ Qd H) ∨ (J.go i H ∧ ∃ Nx : Hp → Prop, (∀ H', Nx H' → ∃ m', m' < m ∧ W (i + 1) m' H') ∧ ∀ x H', J.yld i H x H' → g x (wipe σ vs) H' fun σ2 H2 => wipe σ2 vs = wipe σ vs ∧ tt σ2 H2 fun b H3 =>
        if b = true then tk σ2 H3 fun y H4 => tv σ2 H4 fun z H5 => ∃ b kvs, ∃ k : List Int, y = .ref b ∧ H5 D = some (.dT kvs) ∧ H5 b = some (.tup (k.map V.int)) ∧ kvs.length < sizeLine ∧ Nx (upd H5 D (.dT (putK kvs (kI k) z))) else Nx H3) := by
  refine ⟨fun i m H => m = n - i ∧ i ≤ n ∧ Pv i H, ⟨n, by simp, Nat.zero_le _, h0⟩, ?_⟩
  rintro i m H ⟨rfl, hi, p⟩
  have q := hG i H hi p
  rcases Nat.lt_or_ge i n with lt | ge
  · exact .inr ⟨wk.goes i H lt q, Pv (i + 1), fun H' p' => ⟨n - (i + 1), by omega, rfl, lt, p'⟩, fun x H' y => hs i x H H' lt p (wk.yields i H x H' lt q y)⟩
  · have e : i = n := by omega
    subst e
    exact .inl ⟨wk.stops H q, hd H p⟩
end K1
/-! the items of a dict whose keys are pairs -/
namespace K1
open PySem L2 PySem.Spec PyProof.Rows
section
variable {X : Cx} {pins : List (Addr × Obj)} {σ : L2.St} {H : Hp} {s : Shared} {d : Addr} {o : Obj}
theorem frz_dt {kvs : List (List Key × V)} (I : Inv X pins σ H s) (h : H d = some (.frz o (.dT kvs))) :
    (d == sysModules) = false ∧ s.heap.get? d = some o ∧ o.ExactDict ∧ ∃ (es : Array DictEntry) (ep : Nat), o.data = .dict es ep ∧ es.size = kvs.length ∧
      ∀ (i : Nat) (k : List Key) (v : V), kvs[i]? = some (k, v) → ∃ (en : DictEntry) (q : Addr), es[i]? = some en ∧ en.key = .ref q ∧ H q = some (.tup (k.map kV)) ∧ RelV v en.val := by
  obtain ⟨hd, z, hs, xs, pr, o2, es, ep, ho, hx, hdt, he, _⟩ := I.hok d _ h
  rw [hd] at ho
  cases ho
  have l1 : es.size = xs.length := size_of_entries he
  have l2 : kvs.length = xs.length := Paired.length pr
  refine ⟨hs, hd, hx, es, ep, hdt, by omega, fun i k v e => ?_⟩
  obtain ⟨b, hb, e1, e2, e3⟩ := L2.paired_get pr e
  have q := entry_at he i
  rw [hb] at q
  exact ⟨_, b.2.1, q, rfl, e2, e3⟩
end
/-- the pairs of key and value, each a new tuple -/
def Itit (d : Addr) (o : Obj) (kvs : List (List Key × V)) : It :=
  ⟨fun i H => H d = some (.frz o (.dT kvs)) ∧ i < kvs.length, fun i H x H' => ∃ T k v q, kvs[i]? = some (k, v) ∧ x = .ref T ∧ H T = none ∧ H q = some (.tup (k.map kV)) ∧ H' = upd H T (.tup [.ref q, v]), fun i H => H d = some (.frz o (.dT kvs)) ∧ kvs.length ≤ i⟩
theorem turn_itemsT {P : Program} {w : World} {K : PySem.W.Frag} {d : Addr} {o : Obj} {es : Array DictEntry} {ep : Nat} {kvs : List (List Key × V)} {elts : List Expr} {kk : Nat} {tpos : Pos} (it : Addr) (hod : o.data = .dict es ep) :
    Turn P w K (.Tuple elts kk tpos) (Itit d o kvs) [it] it (fun i h => ∃ ok ov, IsItemIter h it d i kvs.length ep ok ov) where
  mem := by simp
  obj := fun i h st b hb => by
    obtain ⟨ok, ov, e⟩ := st
    rw [show b = it by simpa using hb]
    exact ⟨_, e, fun v z => nomatch z⟩
  keep := fun i h h' st k => ⟨st.choose, st.choose_spec.choose, k it (by simp) _ st.choose_spec.choose_spec⟩
  item := by
    intro X hP hw hK hc i pins s σ H E I hf st hg
    subst hP hw hK
    obtain ⟨hd, hi⟩ := hg
    obtain ⟨hs, hgd, hx, es2, ep2, hdt, hsz, ent⟩ := frz_dt I hd
    obtain ⟨rfl, rfl⟩ := dict_ep hod hdt
    obtain ⟨⟨k, v⟩, hkv⟩ : ∃ p, kvs[i]? = some p := ⟨kvs[i], List.getElem?_eq_getElem hi⟩
    obtain ⟨en, q, hen, hkey, hq, rv⟩ := ent i k v hkv
    obtain ⟨ok, ov, he⟩ := st
    rw [← hsz] at he
    have il : it < s.heap.objs.size := Heap.lt_size he
    have hie : i < es2.size := by omega
    have een : es2[i] = en := by
      rw [Array.getElem?_eq_getElem hie] at hen
      exact Option.some.inj hen
    refine DT.nextI he ⟨o, hgd, hx, hdt⟩ hie fun h2 ho hT hz hk => ?_
    rw [een, hkey] at hT
    refine ⟨_, rfl, wpAny_letOwnedTupleGo_items (s := { s with heap := h2 }) ho fun h3 he3 sb => ?_⟩
    have hT2 : h3.get? s.heap.objs.size = some { cls := .type "tuple", data := .seq #[.ref q, en.val] } := (sb.2 _ (Nat.ne_of_gt il)).trans hT
    have new : ObjOk X.prog X.w (upd H s.heap.objs.size (.tup [.ref q, v])) h3 s.heap.objs.size (.tup [.ref q, v]) :=
      ⟨by show 2 ≤ sizeLine; decide, [.ref q, en.val], .cons rfl (.cons rv .nil), ⟨_, hT2, rfl, _, rfl⟩⟩
    have I1 : Inv X pins σ (upd H s.heap.objs.size (.tup [.ref q, v])) { s with heap := h3 } :=
      I.turnedNew (t' := s.toks) (ch := [it]) (fun b ob hb e => (sb.2 b (by simpa using hb)).trans (hk b ob (by simpa using hb) e)) hf (Nat.le_refl _) new
    refine ⟨.ref s.heap.objs.size, _, I1, rfl, ⟨_, k, v, q, hkv, rfl, I.hok.fresh (Nat.le_refl _), hq, rfl⟩, ⟨_, _, by rw [← hsz]; exact he3⟩, fun b hb => ?_⟩
    rw [show b = it by simpa using hb, upd_ne (Nat.ne_of_lt il)]
    exact (hf it (by simp)).1
  done := by
    intro X hP hw hK hc i pins s σ H E I hf st hg
    subst hP hw hK
    obtain ⟨hd, hi⟩ := hg
    obtain ⟨f0, f1, f2, f3, f4, f5⟩ := hf it (by simp)
    obtain ⟨hs, hgd, hx, es2, ep2, hdt, hsz, ent⟩ := frz_dt I hd
    obtain ⟨rfl, rfl⟩ := dict_ep hod hdt
    obtain ⟨ok, ov, he⟩ := st
    rw [← hsz] at he
    exact DT.endI (I.ok.hd hc) he ⟨o, hgd, hx, hdt⟩ (by omega) fun h2 eb => ⟨rfl, I.turned (t' := s.toks) (fun b ob hb e => eb b ob hb e) f0 f1 f3 f4 f5⟩
  self := fun A i s Q E st h => PySem.W.kcp_self st.choose_spec.choose_spec h
def iItemsT (td : TE) : TI := fun σ H R => td σ H fun x H1 => ∃ d o kvs, x = .ref d ∧ H1 d = some (.frz o (.dT kvs)) ∧ R (Itit d o kvs) H1
theorem pi_itemsT {X : Cx} {e : Expr} {td : TE} {apos cpos : Pos} {elts : List Expr} {kk : Nat} {tpos : Pos} (he : PE X e td) (hbase : attributeBase e "items" X.env (eval e X.env) = eval e X.env := by rfl) (hline : (apos.endLine == cpos.line) = true := by rfl) :
    PI X (.Tuple elts kk tpos) (.Call (.Attribute e "items" apos) [] [] cpos) (iItemsT td) := by
  refine ⟨fun pins s σ H R I h => ?_⟩
  refine wpAny_Call_method (T := "dict") (id := "dict.items") hbase rfl hline F.plainAttrs_dict F.slot_dict_items F.type_dict_items (thn (he.run pins s σ H _ I h) fun u s1 hh => ?_)
  obtain ⟨x, H1, I1, rx, d, o, kvs, ex, hd, q⟩ := hh
  subst ex
  obtain rfl : u = Value.ref d := rx
  obtain ⟨hs, hgd, hx, es, ep, hdt, hsz, ent⟩ := frz_dt I1 hd
  have raw : DT.Raw s1.heap d es ep := ⟨o, hgd, hx, hdt⟩
  refine ⟨raw.typeIs, fun c ec => by cases ec; exact ⟨o, hgd, hx.2.1⟩, ?_⟩
  have I2 : Inv X pins σ H1 { s1 with heap := s1.heap.push { cls := .type "dict_items", data := .fields #[.ref d] } } := I1.kept (t' := s1.toks) fun b ob q => Heap.get?_push_of_some _ q
  have fin : wpAny (model X.prog X.w) X.A (pyIter (.ref s1.heap.objs.size)) (PIE X pins σ (.Tuple elts kk tpos) R) X.xe { s1 with heap := s1.heap.push { cls := .type "dict_items", data := .fields #[.ref d] } } := by
    refine DT.iterI (d := d) ⟨_, Heap.get?_push_size _ rfl, rfl, rfl⟩ (raw.push _) (pi_one (tk := s1.toks) I2 _ (turn_itemsT _ hdt) ⟨.none, .none, ?_⟩ q)
    rw [hsz]
    exact Heap.get?_push_size _ rfl
  show wpAny _ _ (callWith cpos (.builtin "dict.items") [.ref d] [] []) _ X.xe s1
  exact method_meetsIn F.slot_dict_items F.entry_dict_items rfl (PySem.evalArgs_none ⟨rfl, raw.typeIs, F.args_dict_items_1 _, _, DT.meetsItems (es := es) (ep := ep) hs, ⟨raw, fin⟩⟩)
/-- the turns of such a walk -/
def YItem (kvs : List (List Key × V)) : Nat → Hp → V → Hp → Prop := fun i H x H' => ∃ T k v q, kvs[i]? = some (k, v) ∧ x = .ref T ∧ H T = none ∧ H q = some (.tup (k.map kV)) ∧ H' = upd H T (.tup [.ref q, v])
theorem walk_itemsT {d : Addr} {o : Obj} {kvs : List (List Key × V)} : Walk (Itit d o kvs) kvs.length (fun H => H d = some (.frz o (.dT kvs))) (YItem kvs) :=
  ⟨fun i _ hi q => ⟨q, hi⟩, fun _ q => ⟨q, Nat.le_refl _⟩, fun _ _ _ _ _ _ y => y⟩
end K1
/-! _closed_times -/
namespace K1
open PySem L2 PySem.Spec PyProof.Rows RZ
def handD (d : PyData) : Nat := ((keyD d).getD 1 0).toNat
def tmD (d : PyData) : Int := (keyD d).getD 0 0
/-- what a deed names, each once, but the root -/
def namesD : PyData → List (List Int)
  | .tuple [_, _, .tuple (.str x :: r)] => keysOf (namedD x r)
  | _ => []
def oneOk (ds : List PyData) (d : PyData) (k : List Int) : Bool := (atD ds k).isSome && seenBy d k
def nmOk (ds : List PyData) (d : PyData) : Bool := (namesD d).all (oneOk ds d)
def ownOk (ds : List PyData) (l : List Int) (d : PyData) : Bool := decide ((snD d).getD (handD d) 0 = l.getD (handD d) 0) && closedD ds (snD d)
/-- the first refusal: of what is not closed, or of what names the unseen -/
def errC (ds : List PyData) : List PyData → List Int → Option (Bool × PyData)
  | [], _ => none
  | d :: r, l => if ownOk ds l d = true then if nmOk ds d = true then errC ds r (l.set (handD d) (tmD d)) else some (false, d) else some (true, d)
def lastD : List PyData → List Int → List Int
  | [], l => l
  | d :: r, l => lastD r (l.set (handD d) (tmD d))
theorem lastD_len : ∀ (ds : List PyData) (l : List Int), (lastD ds l).length = l.length
  | [], l => rfl
  | d :: r, l => by
    show (lastD r (l.set (handD d) (tmD d))).length = l.length
    rw [lastD_len r, List.length_set]
theorem lastD_app (d : PyData) : ∀ (ds : List PyData) (l : List Int), lastD (ds ++ [d]) l = (lastD ds l).set (handD d) (tmD d)
  | [], l => rfl
  | e :: r, l => lastD_app d r _
abbrev l0 : List Int := [0, 0, 0, 0]
def spTimes (K : PySem.W.Frag) (Cc Cu : Addr) : Sp := fun vs H Q E => ∃ a kvs ds, vs = [.ref a] ∧ H a = some (.dT kvs) ∧ Tb K (hid a H) kvs ds ∧ (∀ d ∈ ds, deedD d = true) ∧
  (errC ds ds l0 = none → ∀ q H', Same H H' → H' q = some (.tup ((lastD ds l0).map V.int)) → Q (.ref q) H') ∧
  ∀ b d, errC ds ds l0 = some (b, d) → ∀ H' dd v, Same (hid a H) H' → DQ K H' v (.tuple ((keyD d).map .int)) → H' dd = some (.xd [("told", v)]) → E (.ref (if b = true then Cc else Cu)) (some dd) H'
theorem dqs_of_ints {K : PySem.W.Frag} {H : Hp} : ∀ es : List Int, DQs K H (es.map V.int) (es.map PyData.int)
  | [] => .nil
  | e :: es => .cons (.int e) (dqs_of_ints es)
theorem all_same {α : Type} {f : α → Bool} {l m : List α} (h : ∀ x, x ∈ l ↔ x ∈ m) : l.all f = m.all f := by
  rw [Bool.eq_iff_iff, List.all_eq_true, List.all_eq_true]
  exact ⟨fun z x hx => z x ((h x).mpr hx), fun z x hx => z x ((h x).mp hx)⟩
theorem nodup_le {α : Type} [DecidableEq α] : ∀ {l m : List α}, l.Nodup → (∀ x ∈ l, x ∈ m) → l.length ≤ m.length
  | [], _, _, _ => Nat.zero_le _
  | a :: l, m, nd, h => by
    obtain ⟨n1, n2⟩ := List.nodup_cons.mp nd
    have z : l.length ≤ (m.erase a).length := nodup_le n2 fun x hx => (List.mem_erase_of_ne (fun e => n1 (by rw [← e]; exact hx))).mpr (h x (List.mem_cons_of_mem _ hx))
    rw [List.length_erase_of_mem (h a List.mem_cons_self)] at z
    have := List.length_pos_of_mem (h a List.mem_cons_self)
    rw [List.length_cons]
    omega
theorem named_few {x : Str} {r : List PyData} (hb : bodyR x r = true) : (namedD x r).length ≤ 2 := by
  unfold namedD
  by_cases c1 : x = "make"
  · rw [if_pos c1]
    unfold namedM
    split
    · split <;> simp
    · simp
  · rw [if_neg c1]
    rcases bodyR_ne hb c1 with ⟨z, _⟩ | ⟨z, mv⟩ | z
    · obtain ⟨d1, rfl⟩ := list1 z
      show 1 ≤ 2
      omega
    all_goals
      obtain ⟨d1, d2, r2, rfl⟩ : ∃ d1 d2 r2, r = d1 :: d2 :: r2 := by
        match r, z with
        | d1 :: d2 :: r2, _ => exact ⟨d1, d2, r2, rfl⟩
      show (if x = "move" ∨ x = "point" then [d1, d2] else [d1]).length ≤ 2
      split <;> simp
theorem keys_few {x : Str} {r : List PyData} {ks : List (List Int)} (hb : bodyR x r = true) (hp : ks.Pairwise lt1000) (h : ∀ k, k ∈ ks ↔ k ∈ keysOf (namedD x r)) : ks.length ≤ 2 := by
  have nd : ks.Nodup := hp.imp fun {a b} hab e => by
    rw [e] at hab
    exact Int.lt_irrefl _ hab
  have z := nodup_le nd fun k hk => (h k).mp hk
  have y : (keysOf (namedD x r)).length ≤ (namedD x r).length := List.length_filterMap_le _ _
  have := named_few hb
  omega
theorem all_rangeD {α : Type} (f : α → Bool) (z : α) (l : List α) : ((List.range l.length).map fun i => f (l.getD i z)).all id = l.all f := by
  have e : ((List.range l.length).map fun i => f (l.getD i z)) = l.map f := by
    refine List.ext_getElem (by rw [List.length_map, List.length_map, List.length_range]) fun i h1 h2 => ?_
    rw [List.getElem_map, List.getElem_map, List.getElem_range, List.getD_eq_getElem?_getD, List.getElem?_eq_getElem (by rw [List.length_map] at h2; exact h2)]
    rfl
  rw [e, List.all_map]
  rfl
theorem list7 {α : Type} {l : List α} (h : l.length = 7) : ∃ a b c d e f g, l = [a, b, c, d, e, f, g] := by
  match l, h with
  | [a, b, c, d, e, f, g], _ => exact ⟨a, b, c, d, e, f, g, rfl⟩
theorem namesD_is {s k : PyData} {x : Str} {r : List PyData} : namesD (.tuple [s, k, .tuple (.str x :: r)]) = keysOf (namedD x r) := rfl
section
variable {P : Program} {w : World} {K : PySem.W.Frag} {mg : Str → Option Value} {base : Heap}
theorem sc_times : FnScope ["table", "last", "stamp", "deed", "time", "hand", "name"] ["table"] (defScope (top 45)) := ⟨rfl, rfl, rfl, by decide +kernel, rfl, by decide +kernel, by decide +kernel⟩
theorem cl_times {Cc fc Cu fu : Addr} (T : All K mg) (Rc : Er K mg "NotClosed" Cc fc) (Ru : Er K mg "Unseen" Cu fu) {aR : Addr} (mR : mg "ROOT" = some (.ref aR)) (tR : ∀ H, SqT K H aR [.int 0, .int 0]) (hsort : mg "sorted" = none) (hzip : mg "zip" = none) (hen : mg "enumerate" = none) :
    ClX P w K mg base 12 "_closed_times" ["table"] (spTimes K Cc Cu) := by
  obtain ⟨g, fd, D⟩ := T.dn 45 _ _ rfl
  refine D.clX (D.fn.okX sc_times (fun vs H Q E h => ?_) (fun cdv A outer s H vs Q E hr h => ?_))
  · obtain ⟨a, kvs, ds, rfl, _⟩ := h
    rfl
  · obtain ⟨a, kvs, ds, rfl, ha, tb, right, k1, k2⟩ := h
    have hu : (A.deeper (envOfC "_closed_times" (defScope (top 45)) s.heap.objs.size g cdv)).units + 1 < cLine := hu_of hr
    refine ⟨_, (pss_cons (ps_set (i := 1) sc_times.nd rfl (Or.inl rfl) (pe_lst (pa_cons pe_int (pa_cons pe_int (pa_cons pe_int (pa_cons pe_int pa_nil))))))
      (pss_cons (ps_lock (ps_for (passes_of rfl) rfl (pi_itemsT (pv 0)) (pg_tup (t := (gCons (gName 2) (gCons (gName 3) gNil))) rfl (pgs_cons (pg_name (i := 2) sc_times.nd rfl (Or.inl rfl)) (pgs_cons (pg_name (i := 3) sc_times.nd rfl (Or.inr rfl)) pgs_nil))) (pss_cons (ps_asg (pv 2) (pg_tup (t := (gCons (gName 4) (gCons (gName 5) gNil))) rfl (pgs_cons (pg_name (i := 4) sc_times.nd rfl (Or.inl rfl)) (pgs_cons (pg_name (i := 5) sc_times.nd rfl (Or.inl rfl)) pgs_nil))))
      (pss_cons (ps_if (PW.pt (pw_or (pt_cmpR op_ne (pe_ix ix_tup (pe_ix ix_tup (pv 3) pe_int (fun _ _ => rfl)) (pv 5) (fun _ _ => rfl)) (pe_ix ix_list (pv 1) (pv 5) (fun _ _ => rfl)) (nomark _)) (pw_or1 (pt_not (pt_val (pe_cl (cl_closed T hzip hen) hr (by decide) (pa_cons (pv 0) (pa_cons (pe_ix ix_tup (pv 3) pe_int (fun _ _ => rfl)) pa_nil)))))))) (pss_one (ps_raise rfl (takes_of rfl rfl rfl rfl) (pmk_err Rc hr (by decide) (pa_cons (pv 2) pa_nil)))) pss_nil)
      (pss_cons (ps_if (pt_not (pt_val (pe_callB (cr_all rfl) (by rfl) T.bi.all (by decide +kernel) (pa_cons (pe_lc (own := [("name", 6)]) (g := gName 6) (te := tAndV (tOp (rInT K false) (tVar 6) (tVar 0)) (tCall (spSaw K) [] E0 (tCons (tVar 3) (tCons (tVar 6) tNil)))) (tt := tYes) rfl sc_times.nd (pi_list (pe_cl (cl_names T mR tR hsort) hr (by decide) (pa_cons (pe_ix ix_tup (pv 3) pe_int (fun _ _ => rfl)) pa_nil))) (blkOk_by (own := [("name", 6)]) (N := ["table", "last", "stamp", "deed", "time", "hand", "name"]) (sc := defScope (top 45)) (by decide +kernel)) (fun _ _ _ _ _ => pg_name (i := 6) sc_times.nd rfl (Or.inl rfl)) (fun _ _ _ _ _ => pts_nil) (fun _ _ _ _ _ => (pe_and (pe_cmpR (op_inDT hu) (pv 6) (pv 0) rfl) (pe_one (pe_cl (cl_saw T) hr (by decide) (pa_cons (pv 3) (pa_cons (pv 6) pa_nil))))))) pa_nil)))) (pss_one (ps_raise rfl (takes_of rfl rfl rfl rfl) (pmk_err Ru hr (by decide) (pa_cons (pv 2) pa_nil)))) pss_nil)
      (pss_one (ps_asg (pv 4) (pg_sub (pv 1) (pv 5) set_list))))))))
      (pss_one (ps_ret (pe_callTy call_tuple_of (by rfl) T.bi.tuple (by decide +kernel) (pa_cons (pv 1) pa_nil)))))), ?_⟩
    refine ⟨by decide, fun L0 nL => ?_⟩
    have naL : L0 ≠ a := fun z => by rw [z, ha] at nL; cases nL
    refine ⟨a, .dT kvs, (upd_ne (Ne.symm naL)).trans ha, True.intro, fun od => ?_⟩
    have nG : hid a H L0 = none := by rw [hid_ne naL]; exact nL
    have SG : Same (hid a H) (upd (upd H L0 (.lst [.int 0, .int 0, .int 0, .int 0])) a (.frz od (.dT kvs))) := fun b u e => by
      obtain ⟨h1, h2⟩ := hid_at e
      rw [upd_ne h1, upd_ne (ne_of_none h2 nL)]
      exact h2
    have hl4 : ∀ n, (lastD (ds.take n) l0).length = 4 := fun n => lastD_len _ _
    have hlen : kvs.length = ds.length := Paired.length tb
    refine ⟨_, rfl, a, od, kvs, rfl, upd_same, ?_⟩
    refine for_it walk_itemsT (fun i σ J => σ.length = 7 ∧ σ[0]? = some (some (V.ref a)) ∧ σ[1]? = some (some (V.ref L0)) ∧ Same (hid a H) J ∧ J a = some (.frz od (.dT kvs)) ∧ J L0 = some (.lst ((lastD (ds.take i) l0).map V.int)) ∧ errC ds ds l0 = errC ds (ds.drop i) (lastD (ds.take i) l0)) ⟨rfl, rfl, rfl, SG, upd_same, (upd_ne naL).trans upd_same, rfl⟩ (fun i σ J _ pv => pv.2.2.2.2.1) ?_ ?_
    · rintro i x σ J J' hi ⟨lσ, t0, t1, s, ja, jl, je⟩ ⟨T0, k, v, q, hkv, rfl, nT, hq, rfl⟩
      rw [hlen] at hi
      obtain ⟨d, hd, ek, hv⟩ := L2.paired_get tb hkv
      have hmem : d ∈ ds := List.mem_of_getElem? hd
      obtain ⟨⟨da, sa, ka, ub, t, j, x, r, rfl, p1, p2, p3, p4, p5, pt, pj, pb, pd⟩, pf, _⟩ := parts_of hv (right d hmem)
      obtain ⟨n, rfl⟩ : ∃ n : Nat, j = (n : Int) := ⟨j.toNat, by omega⟩
      have hn : n < 4 := by omega
      rw [show k = kI [t, (n : Int)] from ek.trans (by rw [p5]), kI_V] at hq
      have s2 := s.trans (K0.same_upd (o := .tup [.ref q, .ref da]) nT)
      have hT := @upd_same J T0 (.tup [.ref q, .ref da])
      have ja2 : upd J T0 (.tup [.ref q, .ref da]) a = some (.frz od (.dT kvs)) := (upd_ne (ne_of_none ja nT)).trans ja
      have jl2 : upd J T0 (.tup [.ref q, .ref da]) L0 = some (.lst ((lastD (ds.take i) l0).map V.int)) := (upd_ne (ne_of_none jl nT)).trans jl
      have hq2 : upd J T0 (.tup [.ref q, .ref da]) q = some (.tup ([t, (n : Int)].map V.int)) := (upd_ne (ne_of_none hq nT)).trans hq
      generalize upd J T0 (.tup [.ref q, .ref da]) = J2 at s2 hT ja2 jl2 hq2 ⊢
      refine ⟨T0, _, rfl, .inl (.inl hT), rfl, _, _, rfl, _, _, rfl, rfl, ?_⟩
      have u0 : ((σ.set 2 (some (V.ref q))).set 3 (some (V.ref da)))[0]? = some (some (V.ref a)) := (List.getElem?_set_ne (by decide)).trans ((List.getElem?_set_ne (by decide)).trans t0)
      have u1 : ((σ.set 2 (some (V.ref q))).set 3 (some (V.ref da)))[1]? = some (some (V.ref L0)) := (List.getElem?_set_ne (by decide)).trans ((List.getElem?_set_ne (by decide)).trans t1)
      have u2 : ((σ.set 2 (some (V.ref q))).set 3 (some (V.ref da)))[2]? = some (some (V.ref q)) := (List.getElem?_set_ne (by decide)).trans (List.getElem?_set_self (by omega))
      have u3 : ((σ.set 2 (some (V.ref q))).set 3 (some (V.ref da)))[3]? = some (some (V.ref da)) := List.getElem?_set_self (by rw [List.length_set]; omega)
      have ul : ((σ.set 2 (some (V.ref q))).set 3 (some (V.ref da))).length = 7 := by rw [List.length_set, List.length_set]; exact lσ
      generalize (σ.set 2 (some (V.ref q))).set 3 (some (V.ref da)) = σ2 at u0 u1 u2 u3 ul ⊢
      refine ⟨_, u2, q, _, rfl, .inl (.inl hq2), rfl, _, _, rfl, _, _, rfl, rfl, ?_⟩
      have g0 : ((σ2.set 4 (some (V.int t))).set 5 (some (V.int (n : Int))))[0]? = some (some (V.ref a)) := (List.getElem?_set_ne (by decide)).trans ((List.getElem?_set_ne (by decide)).trans u0)
      have g1 : ((σ2.set 4 (some (V.int t))).set 5 (some (V.int (n : Int))))[1]? = some (some (V.ref L0)) := (List.getElem?_set_ne (by decide)).trans ((List.getElem?_set_ne (by decide)).trans u1)
      have g2 : ((σ2.set 4 (some (V.int t))).set 5 (some (V.int (n : Int))))[2]? = some (some (V.ref q)) := (List.getElem?_set_ne (by decide)).trans ((List.getElem?_set_ne (by decide)).trans u2)
      have g3 : ((σ2.set 4 (some (V.int t))).set 5 (some (V.int (n : Int))))[3]? = some (some (V.ref da)) := (List.getElem?_set_ne (by decide)).trans ((List.getElem?_set_ne (by decide)).trans u3)
      have g4 : ((σ2.set 4 (some (V.int t))).set 5 (some (V.int (n : Int))))[4]? = some (some (V.int t)) := (List.getElem?_set_ne (by decide)).trans (List.getElem?_set_self (by omega))
      have g5 : ((σ2.set 4 (some (V.int t))).set 5 (some (V.int (n : Int))))[5]? = some (some (V.int (n : Int))) := List.getElem?_set_self (by rw [List.length_set]; omega)
      have gl : ((σ2.set 4 (some (V.int t))).set 5 (some (V.int (n : Int)))).length = 7 := by rw [List.length_set, List.length_set]; exact ul
      generalize (σ2.set 4 (some (V.int t))).set 5 (some (V.int (n : Int))) = σ3 at g0 g1 g2 g3 g4 g5 gl ⊢
      obtain ⟨z0, z1, z2, z3, z4, z5, z6, rfl⟩ := list7 gl
      obtain rfl : z0 = some (V.ref a) := Option.some.inj g0
      obtain rfl : z1 = some (V.ref L0) := Option.some.inj g1
      obtain rfl : z2 = some (V.ref q) := Option.some.inj g2
      obtain rfl : z3 = some (V.ref da) := Option.some.inj g3
      obtain rfl : z4 = some (V.int t) := Option.some.inj g4
      obtain rfl : z5 = some (V.int (n : Int)) := Option.some.inj g5
      have edrop : ds.drop i = d :: ds.drop (i + 1) := by
        have hl := List.getElem?_eq_some_iff.mp hd
        rw [List.drop_eq_getElem_cons hl.1, hl.2]
      have etake : ds.take (i + 1) = ds.take i ++ [d] := by
        rw [List.take_succ, hd]
        rfl
      have eh : handD d = n := by
        unfold handD
        rw [p5]
        rfl
      have et : tmD d = t := by
        unfold tmD
        rw [p5]
        rfl
      rw [edrop] at je
      generalize hLi : lastD (ds.take i) l0 = li at jl2 je
      have ll : li.length = 4 := by rw [← hLi]; exact hl4 i
      have d1 := K0.seqT_same s2 p1
      have d3 := K0.seqT_same s2 p3
      -- the refusal of this deed
      have bad : ∀ b, errC ds ds l0 = some (b, d) → ∀ H' dd, Same J2 H' → H' dd = some (.xd [("told", V.ref q)]) → E (.ref (if b = true then Cc else Cu)) (some dd) H' := fun b e H' dd S hx => k2 b d e H' dd (.ref q) (s2.trans S) (by rw [p5]; exact .tup (.inl (.inl (S _ _ hq2))) (dqs_of_ints _)) hx
      refine ⟨_, rfl, da, _, _, _, rfl, rfl, d1, atI_nat (j := 1) rfl, _, rfl, ka, _, _, _, rfl, rfl, d3, at_int (by omega), _, rfl, _, rfl, L0, _, _, _, rfl, rfl, SqL.of jl2, at_int (by omega), rfl, _, rfl, ?_⟩
      have dn : decide (V.int ((snD d).getD n 0) = V.int (li.getD n 0)) = decide ((snD d).getD n 0 = li.getD n 0) := by
        rw [Bool.eq_iff_iff, decide_eq_true_eq, decide_eq_true_eq]
        exact ⟨fun z => V.int.inj z, fun z => by rw [z]⟩
      rw [dn]
      have own : ownOk ds li d = (decide ((snD d).getD n 0 = li.getD n 0) && closedD ds (snD d)) := by
        unfold ownOk
        rw [eh]
      have ebad : ownOk ds li d = false → errC ds ds l0 = some (true, d) := fun z => by
        rw [je]
        show (if ownOk ds li d = true then _ else _) = _
        rw [if_neg (by rw [z]; decide)]
      cases e1 : decide ((snD d).getD n 0 = li.getD n 0) with
      | false =>
        refine iteT (iteT ⟨_, rfl, _, rfl, fun J4 d4 S4 h4 => bad true (ebad (by rw [own, e1, Bool.false_and])) J4 d4 S4 h4⟩)
      | true =>
        refine iteF ⟨_, rfl, _, rfl, da, _, _, _, rfl, rfl, d1, atI_nat (j := 1) rfl, a, ka, kvs, ds, snD d, rfl, .inr ⟨od, ja2⟩, tb.to s2, right, d3, pf, fun J3 s3 => ⟨_, rfl, ?_⟩⟩
        cases e2 : closedD ds (snD d) with
        | false =>
          refine iteT ⟨_, rfl, _, rfl, fun J4 d4 S4 h4 => bad true (ebad (by rw [own, e1, e2]; rfl)) J4 d4 (s3.trans S4) h4⟩
        | true =>
          refine iteF ?_
          have d1' := K0.seqT_same s3 d1
          refine ⟨_, rfl, da, _, _, _, rfl, rfl, d1', atI_nat (j := 2) rfl, ub, x, r, rfl, p4.to (s2.trans s3), pb, fun pn us ks J4 s4 hpn hus hpw hks => ⟨pn, rfl, ⟨us, SqL.of hpn⟩, fun Dd nD => ?_⟩⟩
          have s24 := s3.trans s4
          have hlk : us.length = ks.length := by rw [hus.len, List.length_map]
          refine lc_list (K := K) (a := pn) (xs := us) (fun i H' => i ≤ us.length ∧ Same J4 H' ∧ H' Dd = some (.lst ((List.range i).map fun i => V.bl (oneOk ds d (ks.getD i []))))) ⟨Nat.zero_le _, K0.same_upd nD, upd_same⟩ (fun i H' _ ⟨_, S, _⟩ => S.seq (SqL.of hpn)) ?_ ?_
          · rintro m u H' hu ⟨hle, S, hD⟩
            refine ⟨rfl, ?_⟩
            obtain ⟨d', hd', hq'⟩ := hus.at hu
            have hml := (List.getElem?_eq_some_iff.mp hu).1
            rw [List.getElem?_map] at hd'
            obtain ⟨k', hk', rfl⟩ : ∃ k', ks[m]? = some k' ∧ pairD k' = d' := by
              cases ek' : ks[m]? with
              | none => rw [ek'] at hd'; cases hd'
              | some k' => rw [ek'] at hd'; exact ⟨k', rfl, Option.some.inj hd'⟩
            obtain ⟨dd, hdd1, hdd2⟩ := List.mem_filterMap.mp ((hks k').mp (List.mem_of_getElem? hk'))
            obtain ⟨a', b', _, rfl, ha', hb', _⟩ := key_pair (named_pairs pb dd hdd1) hdd2
            have eg : ks.getD m [] = [a', b'] := by
              rw [List.getD_eq_getElem?_getD, hk']
              rfl
            obtain ⟨q', rfl, hs'⟩ := DQ.pair (hq' : DQ K J4 u (.tuple [.int a', .int b']))
            have hs2 := K0.seqT_same S hs'
            have few := keys_few pb hpw hks
            have fin : ∀ H5, Same H' H5 → ∃ acc, H5 Dd = some (.lst acc) ∧ acc.length < sizeLine ∧ (m + 1 ≤ us.length ∧ Same J4 (upd H5 Dd (.lst (acc ++ [V.bl (oneOk ds d [a', b'])]))) ∧ (upd H5 Dd (.lst (acc ++ [V.bl (oneOk ds d [a', b'])]))) Dd = some (.lst ((List.range (m + 1)).map fun i => V.bl (oneOk ds d (ks.getD i []))))) := fun H5 S5 => by
              refine ⟨_, S5 _ _ hD, ?_, hml, K0.same_over (S.trans S5) nD, ?_⟩
              · rw [List.length_map, List.length_range, sizeLine_eq]
                omega
              · rw [upd_same, List.range_succ, List.map_append, List.map_cons, List.map_nil, eg]
            unfold tYes
            dsimp only
            rw [if_pos rfl]
            have s5 := (s2.trans s3).trans (s4.trans S)
            refine ⟨_, rfl, _, rfl, a, q', kvs, [a', b'], rfl, rfl, .inr ⟨od, S _ _ (s4 _ _ (s3 _ _ ja2))⟩, hs2, _, rfl, ?_⟩
            rcases tb_at (K := K) (H := H') [a', b'] (tb.to s5) with ⟨v', d', e1', e2', hv'⟩ | ⟨e1', e2'⟩
            · rw [e1']
              have hr' := right d' (atD_mem e2').1
              obtain ⟨⟨da', sa', ka', ub', t', j', x', r', _, p1', p2', p3', p4', p5', pt', pj', _⟩, _, _⟩ := parts_of hv' hr'
              have ej : [t', j'] = [a', b'] := by rw [← p5', (atD_mem e2').2]
              have ej2 : j' = b' := (List.cons.inj (List.cons.inj ej).2).1
              refine iteT ⟨_, rfl, _, rfl, .ref da, d, q', a', b', rfl, hv.to s5, right d hmem, hs2, hb'.1, by omega, fun H5 S5 => ?_⟩
              have z := fin H5 S5
              have eo : oneOk ds d [a', b'] = seenBy d [a', b'] := by
                unfold oneOk
                rw [e2']
                rfl
              rw [eo] at z
              exact z
            · rw [e1']
              have z := fin H' (Same.refl H')
              have eo : oneOk ds d [a', b'] = false := by
                unfold oneOk
                rw [e2']
                rfl
              rw [eo] at z
              exact iteF z
          · rintro H' ⟨_, S, hD⟩
            have en : nmOk ds d = ks.all (oneOk ds d) := by
              unfold nmOk
              rw [pd, namesD_is]
              exact all_same fun k => (hks k).symm
            have s5 := (s2.trans s3).trans (s4.trans S)
            have s6 := s3.trans (s4.trans S)
            refine ⟨Dd, (List.range us.length).map fun i => oneOk ds d (ks.getD i []), rfl, SqL.of (hD.trans (by rw [List.map_map]; rfl)), _, rfl, ?_⟩
            rw [hlk, all_rangeD, ← en]
            cases e3 : nmOk ds d with
            | false =>
              refine iteT ⟨_, rfl, _, rfl, fun J5 d5 S5 h5 => bad false ?_ J5 d5 (s6.trans S5) h5⟩
              rw [je]
              show (if ownOk ds li d = true then if nmOk ds d = true then _ else _ else _) = _
              rw [if_pos (by rw [own, e1, e2]; rfl), if_neg (by rw [e3]; decide)]
            | true =>
              have eL : lastD (ds.take (i + 1)) l0 = li.set n t := by
                rw [etake, lastD_app, hLi, eh, et]
              have jl3 := s6 _ _ jl2
              have ja3 := s6 _ _ ja2
              refine iteF ⟨_, rfl, _, rfl, _, rfl, L0, _, _, n, rfl, rfl, jl3, by rw [List.length_map, ll]; exact ixN4 hn, rfl, rfl, rfl, K0.same_over s5 nG, (upd_ne (Ne.symm naL)).trans ja3, ?_, ?_⟩
              · rw [upd_same, eL, List.map_set]
              · rw [eL, je]
                show (if ownOk ds li d = true then if nmOk ds d = true then errC ds (ds.drop (i + 1)) (li.set (handD d) (tmD d)) else _ else _) = _
                rw [if_pos (by rw [own, e1, e2]; rfl), if_pos e3, eh, et]
    · rintro σ J ⟨lσ, t0, t1, s, ja, jl, je⟩
      rw [hlen] at jl je
      rw [List.take_length] at jl
      rw [List.drop_length] at je
      refine ⟨ja, _, t1, L0, _, rfl, .inl ⟨SqL.of ((upd_ne naL).trans jl), fun q nq => k1 je q _ (fun b u e => ?_) upd_same⟩⟩
      by_cases hb : b = a
      · rw [hb] at e ⊢
        rw [upd_ne (fun z => by rw [← z, upd_same] at nq; cases nq), upd_same, ← ha, e]
      · have z := s b u (by rw [hid_ne hb]; exact e)
        have z2 : upd J a (.dT kvs) b = some u := (upd_ne hb).trans z
        rw [upd_ne (ne_of_none z2 nq)]
        exact z2
end
end K1
/-! a class with its own __contains__, __getitem__, __len__, __eq__ -/
namespace K1
open PySem L2 PySem.Spec PyProof.Rows
section
variable {X : Cx} {CX : CXT} {k : Nat} {f C : Addr} {fd : FuncData} {ps : List Str} {sp : Sp} {x m : Str} {p pos apos : Pos} {e o : Expr} {es : List Expr} {ta : TE} {t : TA}
theorem rr (a : Addr) : RelV (.ref a) (.ref a) := rfl
theorem rb (c : Bool) : RelV (.bl c) (.bool c) := rfl
theorem rn (i : Int) (t : Nat) : RelV (.int i) (.int i t) := ⟨t, rfl⟩
/-- the callee runs, wherever there is room -/
theorem run_fnA {A : Around} {E : XK} {pins : List (Addr × Obj)} {σ : L2.St} {H : Hp} {s : Shared} {Q : VK} {us : List Value} {vs : List V} (F : FnOk X.prog X.w X.K X.mg X.base CX k f fd ps sp) (hr : Room k A) (hfr : A.frames = X.A.frames) (hb : Binds X.K fd ps []) (hx : PassesAt CX X σ E)
    (I : Inv X pins σ H s) (r : Vals vs us) (h : sp vs H Q E) : wpAny (model X.prog X.w) A (call (.ref f) us) (EP X pins σ Q) X.xe s := by
  have hl : us.length = ps.length := by rw [← r.length]; exact F.len _ _ _ _ h
  have b := hb s us I.kIn (by rw [List.append_nil]; exact hl)
  rw [List.append_nil] at b
  have e0 : Env0 X.prog X.w X.K X.mg X.base A X.stack s H := by
    have e := I.env0
    exact ⟨by rw [hfr]; exact e.frames, e.mod, e.bs, e.bsz, e.funs, e.frf, e.hok, e.bare⟩
  refine wpAny_call (codeAny_mono (F.run A X.stack s H ⟨us, []⟩ us vs Q E hr e0 b r h) fun r s' hq => ?_)
  cases r with
  | error e => exact hx pins H s e s' I hq
  | ok fl =>
    cases fl with
    | ret u => exact I.after hq
    | next => exact False.elim hq
    | brk => exact False.elim hq
    | cont => exact False.elim hq
/-- a callee that is never to raise -/
theorem passN {σ : L2.St} : PassesAt (L2.CX X.prog X.w) X σ E0 := fun pins H s e s' I c => by
  obtain ⟨_, _, _, _, _, _, _, _, _, _, _, _, z⟩ := c
  exact z.elim
theorem ins_look {pins : List (Addr × Obj)} {σ : L2.St} {H : Hp} {s : Shared} {a dx : Addr} {fs : List (Str × V)} (I : Inv X pins σ H s) (h : H a = some (.ins C dx fs)) : ∃ od, PySem.W.InstAt s.heap a (PySem.W.instObj C dx) C (some od) := by
  obtain ⟨mA, J, _⟩ := ins_get I.hok h
  obtain ⟨od, J, _⟩ := J.look
  exact ⟨od, J⟩
/-! ### x in o -/
def rInO (C : Addr) (sp : Sp) (neg : Bool) : R2 := fun x y H Q => ∃ b dx fs, y = .ref b ∧ H b = some (.ins C dx fs) ∧ sp [.ref b, x] H (fun v H' => ∃ c, v = .bl c ∧ Q (.bl (neg != c)) H') E0
theorem op_inO (F : FnOk X.prog X.w X.K X.mg X.base CX0 k f fd ps sp) (hr : Room k X.A) (hb : Binds X.K fd ps []) (hs : PySem.W.findIn X.K (.ref C) "__contains__" = some (some (.ref f))) (hf : PySem.W.isFn X.K (.ref f) = true) : OpR X (compareOp .In) (rInO C sp false) := by
  intro pins s σ H x y v u Q I rx ry hq
  obtain ⟨b, dx, fs, rfl, hb', q⟩ := hq
  cases ry
  obtain ⟨od, J⟩ := ins_look I hb'
  obtain ⟨m, hF⟩ := I.fr
  refine PySem.W.in_K hF I.ok.mod.kin J hs hf (wpAny_mono (run_fnA F hr rfl hb (fun pins H s e s' I c => pass0 pins σ H s e s' I c) I (.cons (rr _) (.cons rx .nil)) q) (fun r s' z => ?_) fun _ _ z => z)
  obtain ⟨v', H', I', rv, c, rfl, q'⟩ := z
  cases rv
  rw [Bool.false_bne] at q'
  exact wpAny_truthy_bool ⟨_, H', I', rb _, q'⟩
theorem op_notInO (F : FnOk X.prog X.w X.K X.mg X.base CX0 k f fd ps sp) (hr : Room k X.A) (hb : Binds X.K fd ps []) (hs : PySem.W.findIn X.K (.ref C) "__contains__" = some (some (.ref f))) (hf : PySem.W.isFn X.K (.ref f) = true) : OpR X (compareOp .NotIn) (rInO C sp true) := by
  intro pins s σ H x y v u Q I rx ry hq
  obtain ⟨b, dx, fs, rfl, hb', q⟩ := hq
  cases ry
  obtain ⟨od, J⟩ := ins_look I hb'
  obtain ⟨m, hF⟩ := I.fr
  refine PySem.W.notIn_K hF I.ok.mod.kin J hs hf (wpAny_mono (run_fnA F hr rfl hb (fun pins H s e s' I c => pass0 pins σ H s e s' I c) I (.cons (rr _) (.cons rx .nil)) q) (fun r s' z => ?_) fun _ _ z => z)
  obtain ⟨v', H', I', rv, c, rfl, q'⟩ := z
  cases rv
  rw [Bool.true_bne] at q'
  exact wpAny_truthy_bool ⟨_, H', I', rb _, q'⟩
/-! ### o[i] -/
def tGetO (C : Addr) (sp : Sp) (E : L2.St → XK) (to ti : TE) : TE := fun σ H Q => to σ H fun x H1 => ti σ H1 fun y H2 => ∃ a dx fs, x = .ref a ∧ H2 a = some (.ins C dx fs) ∧ sp [.ref a, y] H2 Q (E σ)
theorem pe_getO {i : Expr} {ti : TE} {E : L2.St → XK} (F : FnOk X.prog X.w X.K X.mg X.base CX k f fd ps sp) (hr : Room (k + 1) X.A) (hb : Binds X.K fd ps []) (hx : ∀ σ, PassesAt CX X σ (E σ)) (hs : PySem.W.findIn X.K (.ref C) "__getitem__" = some (some (.ref f))) (hfn : PySem.W.fnIn X.K f = true) (hf : PySem.W.isFn X.K (.ref f) = true)
    (ho : PE X o ta) (hi : PE X i ti) (hS : ∀ ov iv, subscripted i true ov iv = runValue (.builtin "lifetime.subscript" ⟨[ov, iv], []⟩) := by intro _ _; with_unfolding_all rfl) : PE X (.Subscript o i pos) (tGetO C sp E ta ti) := by
  refine ⟨fun pins s σ H Q I h => ?_⟩
  refine Subscript_ (thn (ho.run pins s σ H _ I h) fun u s1 ⟨x, H1, I1, rx, q1⟩ => thn (hi.run pins s1 σ H1 _ I1 q1) fun iv s2 ⟨y, H2, I2, ry, a, dx, fs, ex, hb', q⟩ => ?_)
  subst ex
  obtain rfl : u = Value.ref a := rx
  obtain ⟨od, J⟩ := ins_look I2 hb'
  obtain ⟨m, hF⟩ := I2.fr
  exact PySem.W.sub_K hF I2.ok.mod.kin J hs hfn hf (run_fnA F hr.in1 rfl hb (hx σ) I2 (.cons (rr _) (.cons ry .nil)) q) (hS _ _)
/-! ### len(o) -/
def rLenO (C : Addr) (sp : Sp) : List V → Hp → VK → Prop := fun xs H Q => ∃ b dx fs, xs = [.ref b] ∧ H b = some (.ins C dx fs) ∧ sp [.ref b] H (fun v H' => ∃ n : Nat, v = .int n ∧ n < 2 ^ 62 ∧ Q (.int n) H') E0
theorem call_lenO (F : FnOk X.prog X.w X.K X.mg X.base CX0 k f fd ps sp) (hr : Room (k + 1) X.A) (hb : Binds X.K fd ps []) (hs : PySem.W.findIn X.K (.ref C) "__len__" = some (some (.ref f))) (hf : PySem.W.isFn X.K (.ref f) = true) : CallR X (.builtin "len") (rLenO C sp) := by
  intro pins s σ H xs us Q I r hq
  obtain ⟨b, dx, fs, rfl, hb', q⟩ := hq
  obtain ⟨u, rfl, ru⟩ := r.one
  cases ru
  obtain ⟨od, J⟩ := ins_look I hb'
  obtain ⟨m, hF⟩ := I.fr
  refine PySem.W.len_K hF I.ok.mod.kin J hs hf (wpAny_mono (run_fnA F hr.in1 rfl hb (fun pins H s e s' I c => pass0 pins σ H s e s' I c) I (.cons (rr _) .nil) q) (fun r s' z => ?_) fun _ _ z => z)
  obtain ⟨v', H', I', rv, n, rfl, hn, q'⟩ := z
  obtain ⟨t, rfl⟩ := rv
  exact ⟨⟨by omega, by omega⟩, ⟨_, H', I'.tok _, rn _ _, q'⟩⟩
/-! ### o == o -/
def rEqO (C : Addr) (sp : Sp) : R2 := fun x y H Q => ∃ a b dx dy fs gs, x = .ref a ∧ y = .ref b ∧ H a = some (.ins C dx fs) ∧ H b = some (.ins C dy gs) ∧ sp [.ref a, .ref b] H (fun v H' => ∃ c, v = .bl c ∧ Q (.bl c) H') E0
theorem op_eqO (F : FnOk X.prog X.w X.K X.mg X.base CX0 k f fd ps sp) (hr : Room k X.A) (hb : Binds X.K fd ps []) (hs : PySem.W.findIn X.K (.ref C) "__eq__" = some (some (.ref f))) (hf : PySem.W.isFn X.K (.ref f) = true) : OpR X (compareOp .Eq) (rEqO C sp) := by
  intro pins s σ H x y v u Q I rx ry hq
  obtain ⟨a, b, dx, dy, fs, gs, rfl, rfl, ha, hb', q⟩ := hq
  cases rx
  cases ry
  obtain ⟨od, J⟩ := ins_look I ha
  obtain ⟨od', J'⟩ := ins_look I hb'
  obtain ⟨m, hF⟩ := I.fr
  show wpAny (model X.prog X.w) X.A (richCompare .Eq (.ref a) (.ref b)) (EP X pins σ Q) X.xe s
  refine PySem.W.cmp_K (op := .Eq) (tb := .ref C) hr.units0 hF I.ok.mod.kin J J'.type (by simp [PySem.W.notFirst]) hs hf (wpAny_mono (run_fnA F hr rfl hb (fun pins H s e s' I c => pass0 pins σ H s e s' I c) I (.cons (rr _) (.cons (rr _) .nil)) q) (fun r s' z => ?_) fun _ _ z => z)
  obtain ⟨v', H', I', rv, c, rfl, q'⟩ := z
  cases rv
  exact ⟨_, H', I', rb _, q'⟩
/-! ### C(..), which may raise -/
theorem run_makeS {E : XK} {dvs : List V} {ds : List Value} {pins : List (Addr × Obj)} {σ : L2.St} {H : Hp} {s : Shared} {Q : VK} {us : List Value} {vs : List V} (M : Mk X.K C f) (F : FnOk X.prog X.w X.K X.mg X.base CX k f fd ps sp) (hr : Room (k + 1) X.A) (hb : Binds X.K fd ps ds) (hd : Vals dvs ds)
    (hx : PassesAt CX X σ E) (I : Inv X pins σ H s) (r : Vals vs us)
    (h : ∀ x dx, H x = none → H dx = none → dx ≠ x → sp (.ref x :: (vs ++ dvs)) (upd (upd H dx (.own x)) x (.ins C dx [])) (fun v H2 => v = .non ∧ Q (.ref x) H2) E) :
    wpAny (model X.prog X.w) X.A (call (.ref C) us) (EP X pins σ Q) X.xe s := by
  have hq := h (s.heap.objs.size + 1) s.heap.objs.size (I.hok.fresh (Nat.le_succ _)) (I.hok.fresh (Nat.le_refl _)) (Nat.ne_of_lt (Nat.lt_succ_self _))
  have I2 := Inv.made (C := C) I
  have r2 : Vals (V.ref (s.heap.objs.size + 1) :: (vs ++ dvs)) (Value.ref (s.heap.objs.size + 1) :: (us ++ ds)) := .cons rfl (r.append hd)
  have hl : (Value.ref (s.heap.objs.size + 1) :: us ++ ds).length = ps.length := by
    have e := r2.length
    rw [F.len _ _ _ _ hq] at e
    exact e.symm
  refine wpAny_call (make_map (f := f) I.kIn M.makes M.init (beq_iff_eq.mp M.fn) (codeAny_mono (F.run _ X.stack _ _ ⟨Value.ref (s.heap.objs.size + 1) :: us, []⟩ (Value.ref (s.heap.objs.size + 1) :: (us ++ ds)) _ _ E (hr.make C us [])
    (I2.env0.make C us []) (hb _ (Value.ref (s.heap.objs.size + 1) :: us) I2.kIn hl) r2 hq) fun r s' hq' => ?_))
  cases r with
  | error e => exact hx pins _ _ e s' I2 hq'
  | ok fl =>
    cases fl with
    | ret u =>
      obtain ⟨v, H', I3, rv, ev, q3⟩ := I2.after hq'
      subst ev
      exact ⟨rv, ⟨V.ref (s.heap.objs.size + 1), H', I3, rfl, q3⟩⟩
    | next => exact False.elim hq'
    | brk => exact False.elim hq'
    | cont => exact False.elim hq'
def tMakeS (C : Addr) (sp : Sp) (dvs : List V) (E : L2.St → XK) (t : TA) : TE := fun σ H Q => t σ H fun vs H1 => ∀ x dx, H1 x = none → H1 dx = none → dx ≠ x →
  sp (.ref x :: (vs ++ dvs)) (upd (upd H1 dx (.own x)) x (.ins C dx [])) (fun v H2 => v = .non ∧ Q (.ref x) H2) (E σ)
theorem pe_makeS {E : L2.St → XK} {dvs : List V} {ds : List Value} (M : Mk X.K C f) (F : FnOk X.prog X.w X.K X.mg X.base CX k f fd ps sp) (hr : Room (k + 1) X.A) (hg : Gl X x) (hm : X.mg x = some (.ref C)) (hb : Binds X.K fd ps ds) (hd : Vals dvs ds) (hx : ∀ σ, PassesAt CX X σ (E σ))
    (ha : PA X (e :: es) t) (hdb : (x == ("__debug__" : Str)) = false := by decide) (he : starEach (e :: es) X.env = (false, eval e X.env) :: starEach es X.env := by rfl) (hpl : (backTo pos (starEach es X.env)).any (·.1) = false := by rfl) :
    PE X (.Call (.Name x p) (e :: es) [] pos) (tMakeS C sp dvs E t) := by
  refine ⟨fun pins s σ H Q I h => ?_⟩
  refine wpAny_Call_Name_kw (ld_glob I hg hm ?_ hdb)
  refine PySem.W.callWith_K (h₀ := X.base) I.ok.mod.kin M.kp (thn (ha.run pos pins s σ H _ I h) fun us s1 ⟨vs, H1, I1, r, q⟩ => ⟨I1.kIn, ?_⟩) he hpl
  exact run_makeS M F hr hb hd (hx σ) I1 r q
theorem pe_makeS0 {E : L2.St → XK} {dvs : List V} {ds : List Value} (M : Mk X.K C f) (F : FnOk X.prog X.w X.K X.mg X.base CX k f fd ps sp) (hr : Room (k + 1) X.A) (hg : Gl X x) (hm : X.mg x = some (.ref C)) (hb : Binds X.K fd ps ds) (hd : Vals dvs ds) (hx : ∀ σ, PassesAt CX X σ (E σ))
    (hdb : (x == ("__debug__" : Str)) = false := by decide) : PE X (.Call (.Name x p) [] [] pos) (tMakeS C sp dvs E tNil) := by
  refine ⟨fun pins s σ H Q I h => ?_⟩
  refine wpAny_Call_Name_kw (ld_glob I hg hm ?_ hdb)
  exact PySem.W.callWith_K0 I.kIn M.kp (run_makeS (us := []) M F hr hb hd (hx σ) I .nil h)
end
end K1
/-! TooMany: an own class over OverflowError -/
namespace K1
open PySem L2
/-- an error class of the program that tells: most -/
structure ErM (K : PySem.W.Frag) (mg : Str → Option Value) (x : Str) (C fI : Addr) : Prop where
  mg : mg x = some (.ref C)
  ec : PySem.K0X.EC K "most" C fI
  ini : PySem.K0X.IniMost K fI
  tyC : PySem.W.typeIn K (.ref C) = some (.type "type")
  xf : XfC K C
  te : PySem.W.exmOne K (.ref C) (.ref C) = some true
/-- what stands between the object's place and the whole object with its dict -/
theorem un_made {X : Cx} {pins : List (Addr × Obj)} {σ : St} {H : Hp} {s : Shared} {fld : Str} {C e d : Addr} {v : V} {u : Value} {h' : Heap} (I : Inv X pins σ H s) (M : PySem.K0X.Made fld s.heap h' e C d u) :
    Un (frs X.stack) [] (upd H e (exo e C none)) (upd (upd H d (exd d [(fld, v)])) e (exo e C (some d))) s.heap h' := by
  have he : H e = none := I.hok.fresh M.new
  have hd : H d = none := I.hok.fresh M.dbig
  have ze : ∀ {b : Addr} {o : Obj}, s.heap.get? b = some o → b ≠ e := fun q => Nat.ne_of_lt (Nat.lt_of_lt_of_le (Heap.lt_size q) M.new)
  have zd : ∀ {b : Addr} {o : Obj}, s.heap.get? b = some o → b ≠ d := fun q => Nat.ne_of_lt (Nat.lt_of_lt_of_le (Heap.lt_size q) M.dbig)
  have two : ∀ {b : Addr} {o : HO}, upd H e (exo e C none) b = some o → o ≠ exo e C none → H b = some o := fun {b o} q n => by
    by_cases z : b = e
    · rw [z, upd_same] at q
      exact absurd (Option.some.inj q).symm n
    · rwa [upd_ne z] at q
  have on : ∀ {b : Addr} {o : HO}, H b = some o → upd (upd H d (exd d [(fld, v)])) e (exo e C (some d)) b = some o := fun q => by
    rw [upd_ne (ne_of_none q he), upd_ne (ne_of_none q hd)]
    exact q
  exact ⟨fun b o q _ _ _ => M.keep b o q, fun b o q _ _ _ => ⟨o.slots, M.keep b o q⟩, fun b o q n _ => by rw [upd_ne (ze q), upd_ne (zd q)]; rwa [upd_ne (ze q)] at n, fun b o q _ => ⟨o, M.keep b o q⟩,
    fun b xs q => on (two q fun z => exo_tup z.symm), fun b o w q => on (two q fun z => exo_frz z.symm), fun b ps q => ⟨#[], by rw [on (two q fun z => exo_tbl z.symm)]; simp⟩⟩
/-- X(e), to be raised -/
def tErrM (C : Addr) (ta : TA) : St → Hp → XK → Prop := fun σ H Q => ta σ H fun vs H1 => ∃ v, vs = [v] ∧ ∀ H2 d, Same H1 H2 → H2 d = some (.xd [("most", v)]) → Q (.ref C) (some d) H2
theorem pmk_errM {X : Cx} {x : Str} {C fI : Addr} {e : Expr} {ta : TA} {p pos : Pos} {k : Nat} (R : ErM X.K X.mg x C fI) (hr : Room k X.A) (hk : 2 ≤ k) (ha : PA X [e] ta) (hg : Gl X x := by rfl) (hdb : (x == ("__debug__" : Str)) = false := by decide)
    (he : starEach (e :: []) X.env = (false, eval e X.env) :: starEach [] X.env := by rfl) (hpl : (backTo pos (starEach [] X.env)).any (·.1) = false := by rfl) : PMk X (.Call (.Name x p) [e] [] pos) (tErrM C ta) := by
  intro pins s σ H Q I h
  refine wpAny_Call_Name_kw (ld_glob I hg R.mg ?_ hdb)
  refine PySem.W.callWith_K (h₀ := X.base) I.ok.mod.kin R.ec.kC (thn (ha.run pos pins s σ H _ I h) fun us s1 hh => ?_) he hpl
  obtain ⟨vs, H1, I1, r1, v, ev, q1⟩ := hh
  subst ev
  refine ⟨I1.kIn, ?_⟩
  cases r1 with
  | cons rv rn =>
    rename_i v' us'
    cases rn
    show wpAny _ _ (call (.ref C) [v']) _ _ _
    have hlim := I1.nolimit
    refine wpAny_call (PySem.K0X.low_made R.ec (PySem.K0X.iniMost_pos R.ec R.ini) (PySem.K0X.one_size v') I1.kIn hlim (by have := hr.dp; omega) fun h' tk' e d M => ?_)
    have un := un_made (v := v) I1 M
    obtain ⟨I2, ne, nd, nde⟩ := inv_made (tk := tk') I1 M rv
    obtain ⟨hp, g, dr, tk, os⟩ := s1
    refine mk_end (raises_own R.ec.exC R.tyC) I1 M.new (fun _ _ z => z) un I2.hok rfl I2.bare upd_same (by rw [upd_ne nde, upd_same]) nd (q1 _ d (fun b o hb => ?_) upd_same)
    have h1 : b ≠ e := ne_of_none hb ne
    have h2 : b ≠ d := ne_of_none hb nd
    rw [upd_ne h2, del_ne h1, upd_ne h1, upd_ne h2]
    exact hb
end K1
set_option maxHeartbeats 4000000
/-! data without lists and dicts: a list that is written to does not touch it -/
namespace K1
open PySem L2
mutual
inductive Flat : PyData → Prop
  | non : Flat .none
  | bl (b : Bool) : Flat (.bool b)
  | int (i : Int) : Flat (.int i)
  | str (x : Str) : Flat (.str x)
  | tup {ds : List PyData} : Flats ds → Flat (.tuple ds)
inductive Flats : List PyData → Prop
  | nil : Flats []
  | cons {d : PyData} {ds : List PyData} : Flat d → Flats ds → Flats (d :: ds)
end
theorem Flats.of : ∀ {ds : List PyData}, (∀ d ∈ ds, Flat d) → Flats ds
  | [], _ => .nil
  | d :: ds, h => .cons (h d List.mem_cons_self) (Flats.of fun e he => h e (List.mem_cons_of_mem _ he))
theorem hideT {K : PySem.W.Frag} {H : Hp} {a b : Addr} {us xs : List V} (ha : H a = some (.lst us)) (h : SqT K H b xs) : SqT K (hid a H) b xs := by
  rcases h with (h | ⟨o, h⟩) | h
  · refine .inl (.inl ?_)
    rw [hid_ne (fun z => by rw [z, ha] at h; cases h)]
    exact h
  · refine .inl (.inr ⟨o, ?_⟩)
    rw [hid_ne (fun z => by rw [z, ha] at h; cases h)]
    exact h
  · exact .inr h
mutual
theorem Flat.hide {K : PySem.W.Frag} {H : Hp} {a : Addr} {us : List V} (ha : H a = some (.lst us)) : ∀ (d : PyData) (v : V), Flat d → DQ K H v d → DQ K (hid a H) v d
  | .none, _, _, h => by
    cases h
    exact .non
  | .bool b, _, _, h => by
    cases h
    exact .bl b
  | .int i, _, _, h => by
    cases h
    exact .int i
  | .str x, _, _, h => by
    cases h with
    | str _ h => exact .str x h
  | .list ds, _, f, _ => by cases f
  | .tuple ds, _, f, h => by
    cases f with
    | tup f =>
      cases h with
      | tup h1 h2 => exact .tup (hideT ha h1) (Flats.hide ha ds _ f h2)
  | .dict ps, _, f, _ => by cases f
theorem Flats.hide {K : PySem.W.Frag} {H : Hp} {a : Addr} {us : List V} (ha : H a = some (.lst us)) : ∀ (ds : List PyData) (vs : List V), Flats ds → DQs K H vs ds → DQs K (hid a H) vs ds
  | [], _, _, h => by
    cases h
    exact .nil
  | d :: ds, _, f, h => by
    cases f with
    | cons f1 f2 =>
      cases h with
      | cons h1 h2 => exact .cons (Flat.hide ha d _ f1 h1) (Flats.hide ha ds _ f2 h2)
end
theorem flat_thing {d : PyData} (h : thingD d = true) : Flat d := by
  obtain ⟨a, b, rfl, _⟩ := thing_int h
  exact .tup (.cons (.int a) (.cons (.int b) .nil))
theorem flat_name {d : PyData} (h : nameD d = true) : Flat d := by
  cases d with
  | str x => exact .str x
  | _ => cases h
theorem flat_from {lo hi : Int} {d : PyData} (h : fromD lo hi d = true) : Flat d := by
  obtain ⟨i, rfl, _⟩ := from_int h
  exact .int i
theorem flat_none {d : PyData} (h : noneD d = true) : Flat d := by
  cases d with
  | none => exact .non
  | _ => cases h
theorem flat_binder {d : PyData} (h : binderD d = true) : Flat d := by
  cases e : noneD d with
  | true => exact flat_none e
  | false =>
    rw [binder_some e] at h
    exact flat_thing h
theorem flat_content {k c : PyData} (h : contentD k c = true) : Flat k ∧ Flat c := by
  cases k with
  | str x =>
    refine ⟨.str x, ?_⟩
    have e : (if x = "let" then nameD c else if x = "use" then binderD c else if x = "number" then fromD 0 99 c else holdsD (.str x) && noneD c) = true := h
    by_cases c1 : x = "let"
    · rw [if_pos c1] at e
      exact flat_name e
    · rw [if_neg c1] at e
      by_cases c2 : x = "use"
      · rw [if_pos c2] at e
        exact flat_binder e
      · rw [if_neg c2] at e
        by_cases c3 : x = "number"
        · rw [if_pos c3] at e
          exact flat_from e
        · rw [if_neg c3, Bool.and_eq_true] at e
          exact flat_none e.2
  | _ => cases h
theorem flat_write {x : Str} {c : PyData} (h : writeD (.str x) c = true) : Flat c := by
  have e : (if x = "wish" then nameD c else if x = "point" then binderD c else decide (x = "set") && fromD 0 99 c) = true := h
  by_cases c1 : x = "wish"
  · rw [if_pos c1] at e
    exact flat_name e
  · rw [if_neg c1] at e
    by_cases c2 : x = "point"
    · rw [if_pos c2] at e
      exact flat_binder e
    · rw [if_neg c2, Bool.and_eq_true] at e
      exact flat_from e.2
theorem flat_body {x : Str} {r : List PyData} (h : bodyR x r = true) : Flats (PyData.str x :: r) := by
  refine .cons (.str x) ?_
  unfold bodyR at h
  by_cases c1 : x = "make"
  · rw [if_pos c1] at h
    have z : r.length = 4 := Classical.byContradiction fun z => by
      rw [makeR_ne z] at h
      cases h
    obtain ⟨d1, d2, d3, d4, rfl⟩ := list4 z
    have em : makeR [d1, d2, d3, d4] = (thingD d2 && (fromD 0 999 d3 && contentD d1 d4)) := rfl
    rw [em, Bool.and_eq_true, Bool.and_eq_true] at h
    obtain ⟨n1, n4⟩ := flat_content h.2.2
    exact .cons n1 (.cons (flat_thing h.1) (.cons (flat_from h.2.1) (.cons n4 .nil)))
  · rw [if_neg c1] at h
    by_cases c2 : x = "move"
    · rw [if_pos c2] at h
      have z : r.length = 3 := Classical.byContradiction fun z => by
        rw [moveR_ne z] at h
        cases h
      obtain ⟨d1, d2, d3, rfl⟩ := list3 z
      have em : moveR [d1, d2, d3] = (thingD d1 && (thingD d2 && fromD 0 999 d3)) := rfl
      rw [em, Bool.and_eq_true, Bool.and_eq_true] at h
      exact .cons (flat_thing h.1) (.cons (flat_thing h.2.1) (.cons (flat_from h.2.2) .nil))
    · rw [if_neg c2] at h
      by_cases c3 : x = "drop"
      · rw [if_pos c3] at h
        have z : r.length = 1 := Classical.byContradiction fun z => by
          rw [dropR_ne z] at h
          cases h
        obtain ⟨d1, rfl⟩ := list1 z
        exact .cons (flat_thing h) .nil
      · rw [if_neg c3] at h
        by_cases c4 : x = "undo" ∨ x = "redo"
        · rw [if_pos c4] at h
          have z : r.length = 1 := Classical.byContradiction fun z => by
            rw [markR_ne z] at h
            cases h
          obtain ⟨d1, rfl⟩ := list1 z
          have hs : stampD d1 = true := h
          refine .cons (flat_thing ?_) .nil
          unfold thingD
          rw [hs, Bool.true_or]
        · rw [if_neg c4] at h
          have z : r.length = 2 := Classical.byContradiction fun z => by
            rw [writeR_ne z] at h
            cases h
          obtain ⟨d1, d2, rfl⟩ := list2 z
          have em : writeR x [d1, d2] = (thingD d1 && writeD (.str x) d2) := rfl
          rw [em, Bool.and_eq_true] at h
          exact .cons (flat_thing h.1) (.cons (flat_write h.2) .nil)
theorem flat_deed {d : PyData} (h : deedD d = true) : Flat d := by
  obtain ⟨t, j, a, b, c, e, x, r, rfl, ht, hj, hk, hb⟩ := deed_shape h
  have f : ∀ d ∈ [a, b, c, e], Flat d := fun d hd => flat_from (List.all_eq_true.mp hk d hd)
  exact .tup (.cons (.tup (.cons (.int t) (.cons (.int j) .nil))) (.cons (.tup (Flats.of f)) (.cons (.tup (flat_body hb)) .nil)))
theorem flat_deeds {ds : List PyData} (h : ∀ d ∈ ds, deedD d = true) : Flats ds := Flats.of fun d hd => flat_deed (h d hd)
end K1
/-! Book: what stands, and __init__ -/
namespace K1
open PySem L2 PySem.Spec PyProof.Rows RZ
def flds (rA tA sA lA : Addr) : List (Str × V) := putF "_last" (.ref lA) (putF "_stamps" (.ref sA) (putF "_table" (.ref tA) (putF "_rows" (.ref rA) [])))
theorem ne1 : ¬ (("_rows" : Str) = "_table") := by decide +kernel
theorem ne2 : ¬ (("_rows" : Str) = "_stamps") := by decide +kernel
theorem ne3 : ¬ (("_rows" : Str) = "_last") := by decide +kernel
theorem ne4 : ¬ (("_table" : Str) = "_stamps") := by decide +kernel
theorem ne5 : ¬ (("_table" : Str) = "_last") := by decide +kernel
theorem ne6 : ¬ (("_stamps" : Str) = "_last") := by decide +kernel
theorem ne7 : ¬ (("_table" : Str) = "_rows") := by decide +kernel
section
variable {rA tA sA lA : Addr}
theorem fl_rows : (flds rA tA sA lA).lookup ("_rows" : Str) = some (.ref rA) := by
  unfold flds
  rw [lookup_putF, if_neg ne3, lookup_putF, if_neg ne2, lookup_putF, if_neg ne1, lookup_putF, if_pos rfl]
theorem fl_table : (flds rA tA sA lA).lookup ("_table" : Str) = some (.ref tA) := by
  unfold flds
  rw [lookup_putF, if_neg ne5, lookup_putF, if_neg ne4, lookup_putF, if_pos rfl]
theorem fl_stamps : (flds rA tA sA lA).lookup ("_stamps" : Str) = some (.ref sA) := by
  unfold flds
  rw [lookup_putF, if_neg ne6, lookup_putF, if_pos rfl]
theorem fl_last : (flds rA tA sA lA).lookup ("_last" : Str) = some (.ref lA) := by
  unfold flds
  rw [lookup_putF, if_pos rfl]
theorem fl_no {m : Str} (h1 : ¬ m = "_rows") (h2 : ¬ m = "_table") (h3 : ¬ m = "_stamps") (h4 : ¬ m = "_last") : (flds rA tA sA lA).lookup m = none := by
  unfold flds
  rw [lookup_putF, if_neg h4, lookup_putF, if_neg h3, lookup_putF, if_neg h2, lookup_putF, if_neg h1]
  rfl
end
/-- the class as the top has made it -/
structure Bk (K : PySem.W.Frag) (mg : Str → Option Value) (C : Addr) : Prop where
  cl : Cls K C
  nR : NoAttr K C "_rows"
  nT : NoAttr K C "_table"
  nS : NoAttr K C "_stamps"
  nL : NoAttr K C "_last"
  mgC : mg "Book" = some (.ref C)
def stOf (d : PyData) : PyData := .tuple ((keyD d).map .int)
/-- its stamp's tuple is no written one -/
def StT (K : PySem.W.Frag) (H : Hp) (v : V) (d : PyData) : Prop := ∃ (a s : Addr) (x y : V) (t j : Int), v = .ref a ∧ SqT K H a [.ref s, x, y] ∧ H s = some (.tup [.int t, .int j]) ∧ keyD d = [t, j] ∧ ∃ e f : PyData, d = .tuple [.tuple [.int t, .int j], e, f] ∧ DQ K H x e ∧ DQ K H y f
theorem StT.to {K : PySem.W.Frag} {H H' : Hp} {v : V} {d : PyData} (h : StT K H v d) (s : Same H H') : StT K H' v d := by
  obtain ⟨a, b, x, y, t, j, e, h1, h2, h3, e', f', h4, h5, h6⟩ := h
  exact ⟨a, b, x, y, t, j, e, K0.seqT_same s h1, s _ _ h2, h3, e', f', h4, h5.to s, h6.to s⟩
/-- a table of deeds whose stamps are no written tuples -/
def TbS (K : PySem.W.Frag) (H : Hp) (kvs : List (List Key × V)) (ds : List PyData) : Prop := Paired (fun (p : List Key × V) d => p.1 = kI (keyD d) ∧ DQ K H p.2 d ∧ StT K H p.2 d) kvs ds
theorem TbS.tb {K : PySem.W.Frag} {H : Hp} {kvs : List (List Key × V)} {ds : List PyData} (h : TbS K H kvs ds) : Tb K H kvs ds := paired_imp (fun _ _ r => ⟨r.1, r.2.1⟩) h
theorem TbS.to {K : PySem.W.Frag} {H H' : Hp} {kvs : List (List Key × V)} {ds : List PyData} (h : TbS K H kvs ds) (s : Same H H') : TbS K H' kvs ds := paired_imp (fun _ _ r => ⟨r.1, r.2.1.to s, r.2.2.to s⟩) h
theorem tbS_val {K : PySem.W.Frag} {H : Hp} {k : List Int} : ∀ {kvs : List (List Key × V)} {ds : List PyData} {v : V} {d : PyData}, TbS K H kvs ds → valV kvs (kI k) = some v → atD ds k = some d → StT K H v d
  | [], _, _, _, h, e, _ => by cases e
  | p :: kvs, _, v, d, h, e1, e2 => by
    cases h with
    | @cons _ d0 _ ds h1 h2 =>
      by_cases e : keyD d0 = k
      · have a1 : valV (p :: kvs) (kI k) = some p.2 := by
          unfold valV
          rw [List.find?_cons_of_pos (by rw [decide_eq_true_eq, h1.1, e])]
          rfl
        have a2 : atD (d0 :: ds) k = some d0 := by
          unfold atD
          rw [List.find?_cons_of_pos (by rw [decide_eq_true_eq, e])]
        rw [a1] at e1
        rw [a2] at e2
        cases e1
        cases e2
        exact h1.2.2
      · have a1 : valV (p :: kvs) (kI k) = valV kvs (kI k) := by
          unfold valV
          rw [List.find?_cons_of_neg (by rw [decide_eq_true_eq, h1.1]; exact fun z => e (kI_inj z))]
        have a2 : atD (d0 :: ds) k = atD ds k := by
          unfold atD
          rw [List.find?_cons_of_neg (by rw [decide_eq_true_eq]; exact e)]
        rw [a1] at e1
        rw [a2] at e2
        exact tbS_val h2 e1 e2
theorem tbS_at {K : PySem.W.Frag} {H : Hp} (k : List Int) : ∀ {kvs : List (List Key × V)} {ds : List PyData}, TbS K H kvs ds → (∃ v d, valV kvs (kI k) = some v ∧ atD ds k = some d ∧ DQ K H v d ∧ StT K H v d) ∨ (valV kvs (kI k) = none ∧ atD ds k = none)
  | kvs, ds, h => by
    rcases tb_at k h.tb with ⟨v, d, e1, e2, hv⟩ | z
    · refine .inl ⟨v, d, e1, e2, hv, ?_⟩
      exact tbS_val h e1 e2
    · exact .inr z
/-- a Book of these deeds stands at p -/
structure BookAt (K : PySem.W.Frag) (C : Addr) (H : Hp) (p : Addr) (ds : List PyData) : Prop where
  ex : ∃ dx rA tA sA lA us kvs ss, H p = some (.ins C dx (flds rA tA sA lA)) ∧ H rA = some (.lst us) ∧ DQs K H us ds ∧ H tA = some (.dT kvs) ∧ TbS K H kvs ds ∧ H sA = some (.lst ss) ∧ DQs K H ss (ds.map stOf) ∧ H lA = some (.tup ((lastD ds l0).map V.int)) ∧
    ∀ (i : Nat) (u : V) (e : PyData), us[i]? = some u → ds[i]? = some e → StT K H u e
  right : ∀ d ∈ ds, deedD d = true
  few : ds.length ≤ 60
  up : ds.Pairwise fun a b => lt1000 (keyD a) (keyD b)
  good : errC ds ds l0 = none
theorem BookAt.to {K : PySem.W.Frag} {C p : Addr} {H H' : Hp} {ds : List PyData} (b : BookAt K C H p ds) (s : Same H H') : BookAt K C H' p ds := by
  obtain ⟨⟨dx, rA, tA, sA, lA, us, kvs, ss, h1, h2, h3, h4, h5, h6, h7, h8, h9⟩, r, f, u, g⟩ := b
  exact ⟨⟨dx, rA, tA, sA, lA, us, kvs, ss, s _ _ h1, s _ _ h2, h3.to s, s _ _ h4, h5.to s, s _ _ h6, h7.to s, s _ _ h8, fun i u e hu he => (h9 i u e hu he).to s⟩, r, f, u, g⟩
/-- the items of a list or tuple of deeds whose stamps are no written ones -/
def Its (K : PySem.W.Frag) (H : Hp) (v : V) (ds : List PyData) : Prop := ∃ a us, v = .ref a ∧ (SqL K H a us ∨ SqT K H a us) ∧ DQs K H us ds ∧ ∀ (i : Nat) (u : V) (e : PyData), us[i]? = some u → ds[i]? = some e → StT K H u e
abbrev UpD (ds : List PyData) : Prop := ds.Pairwise fun a b => lt1000 (keyD a) (keyD b)
def spBook (K : PySem.W.Frag) (C Cb Cm Cc Cu : Addr) : Sp := fun vs H Q E => ∃ p dx v d, vs = [.ref p, v] ∧ H p = some (.ins C dx []) ∧ DQ K (hid p H) v d ∧ (listD d = true → (itemsD d).length ≤ 62) ∧
  (listD d = true → badAt (itemsD d) = none → Its K (hid p H) v (itemsD d)) ∧
  (listD d = false → ∀ H' dd, Same (hid p H) H' → H' dd = some (.xd [("told", .non)]) → E (.ref Cb) (some dd) H') ∧
  (∀ i : Nat, listD d = true → badAt (itemsD d) = some i → ∀ H' dd, Same (hid p H) H' → H' dd = some (.xd [("told", .int i)]) → E (.ref Cb) (some dd) H') ∧
  (listD d = true → badAt (itemsD d) = none → 60 < (itemsD d).length → ∀ H' dd, Same (hid p H) H' → H' dd = some (.xd [("most", .int 60)]) → E (.ref Cm) (some dd) H') ∧
  ∀ ds, listD d = true → badAt (itemsD d) = none → (itemsD d).length ≤ 60 → ds.Perm (itemsD d) → UpD ds →
    (errC ds ds l0 = none → ∀ H', Same (hid p H) H' → BookAt K C H' p ds → (∀ a us, H a = some (.lst us) → BookAt K C (hid a H') p ds) → Q .non H') ∧
    ∀ b e, errC ds ds l0 = some (b, e) → ∀ H' dd v', Same (hid p H) H' → DQ K H' v' (stOf e) → H' dd = some (.xd [("told", v')]) → E (.ref (if b = true then Cc else Cu)) (some dd) H'
theorem flat_sts {ds : List PyData} (h : ∀ d ∈ ds, deedD d = true) : Flats (ds.map stOf) := Flats.of fun d hd => by
  obtain ⟨e, he, rfl⟩ := List.mem_map.mp hd
  exact .tup (Flats.of fun x hx => by
    obtain ⟨i, _, rfl⟩ := List.mem_map.mp hx
    exact .int i)
theorem tb_hide {K : PySem.W.Frag} {H : Hp} {a : Addr} {us : List V} (ha : H a = some (.lst us)) : ∀ {kvs : List (List Key × V)} {ds : List PyData}, (∀ d ∈ ds, deedD d = true) → Tb K H kvs ds → Tb K (hid a H) kvs ds
  | [], [], _, _ => .nil
  | _ :: _, [], _, h => by cases h
  | [], _ :: _, _, h => by cases h
  | p :: kvs, d :: ds, r, h => by
    cases h with
    | cons h1 h2 => exact .cons ⟨h1.1, Flat.hide ha d _ (flat_deed (r d List.mem_cons_self)) h1.2⟩ (tb_hide ha (fun e he => r e (List.mem_cons_of_mem _ he)) h2)
theorem stT_hide {K : PySem.W.Frag} {H : Hp} {a : Addr} {us : List V} {v : V} {d : PyData} (ha : H a = some (.lst us)) (r : deedD d = true) (h : StT K H v d) : StT K (hid a H) v d := by
  obtain ⟨b, s, x, y, t, j, e, h1, h2, h3, e', f', h4, h5, h6⟩ := h
  have fl := flat_deed r
  rw [h4] at fl
  cases fl with
  | tup fl =>
    cases fl with
    | cons f1 fl =>
      cases fl with
      | cons f2 fl =>
        cases fl with
        | cons f3 _ => exact ⟨b, s, x, y, t, j, e, hideT ha h1, (hid_ne (fun z => by rw [z, ha] at h2; cases h2)).trans h2, h3, e', f', h4, Flat.hide ha _ _ f2 h5, Flat.hide ha _ _ f3 h6⟩
theorem bad_none : ∀ {ds : List PyData} {seen : List (List Int)} {i : Nat}, badFrom seen ds i = none → (∀ d ∈ ds, deedD d = true) ∧ (ds.map keyD).Nodup ∧ ∀ d ∈ ds, keyD d ∉ seen
  | [], _, _, _ => ⟨fun _ h => absurd h List.not_mem_nil, List.nodup_nil, fun _ h => absurd h List.not_mem_nil⟩
  | d :: ds, seen, i, h => by
    unfold badFrom at h
    by_cases c : deedD d = true ∧ keyD d ∉ seen
    · rw [if_pos c] at h
      obtain ⟨h1, h2, h3⟩ := bad_none h
      refine ⟨fun e he => ?_, ?_, fun e he => ?_⟩
      · rcases List.mem_cons.mp he with z | z
        · rw [z]
          exact c.1
        · exact h1 e z
      · rw [List.map_cons, List.nodup_cons]
        refine ⟨fun hm => ?_, h2⟩
        obtain ⟨e, he, ee⟩ := List.mem_map.mp hm
        exact h3 e he (by rw [ee]; exact List.mem_cons_self)
      · rcases List.mem_cons.mp he with z | z
        · rw [z]
          exact c.2
        · exact fun hm => h3 e z (List.mem_cons_of_mem _ hm)
    · rw [if_neg c] at h
      cases h
theorem same_hid {a : Addr} {G J : Hp} (s : Same G J) (n : G a = none) : Same G (hid a J) := fun b u e => by
  rw [hid_ne (ne_of_none e n)]
  exact s b u e
theorem same_put {p : Addr} {H J : Hp} {o : HO} (s : Same (hid p H) J) : Same (hid p H) (upd J p o) := fun b u e => by
  rw [upd_ne (hid_at e).1]
  exact s b u e
theorem st_dq {K : PySem.W.Frag} {H : Hp} {s : Addr} {t j : Int} {d : PyData} (h : H s = some (.tup [.int t, .int j])) (e : keyD d = [t, j]) : DQ K H (.ref s) (stOf d) := by
  unfold stOf
  rw [e]
  exact .tup (.inl (.inl h)) (.cons (.int t) (.cons (.int j) .nil))
theorem dqs_by {K : PySem.W.Frag} {H : Hp} : ∀ {us : List V} {ds : List PyData}, us.length = ds.length → (∀ (i : Nat) (u : V) (e : PyData), us[i]? = some u → ds[i]? = some e → DQ K H u e) → DQs K H us ds
  | [], [], _, _ => .nil
  | u :: us, d :: ds, hl, h => .cons (h 0 u d rfl rfl) (dqs_by (Nat.succ.inj hl) fun i u e hu he => h (i + 1) u e hu he)
/-- no key of those ahead -/
theorem tbS_hide {K : PySem.W.Frag} {H : Hp} {a : Addr} {us : List V} (ha : H a = some (.lst us)) : ∀ {kvs : List (List Key × V)} {ds : List PyData}, (∀ d ∈ ds, deedD d = true) → TbS K H kvs ds → TbS K (hid a H) kvs ds
  | [], [], _, _ => .nil
  | _ :: _, [], _, h => by cases h
  | [], _ :: _, _, h => by cases h
  | p :: kvs, d :: ds, r, h => by
    cases h with
    | cons h1 h2 => exact .cons ⟨h1.1, Flat.hide ha d _ (flat_deed (r d List.mem_cons_self)) h1.2.1, stT_hide ha (r d List.mem_cons_self) h1.2.2⟩ (tbS_hide ha (fun e he => r e (List.mem_cons_of_mem _ he)) h2)
theorem up_fresh {K : PySem.W.Frag} {H : Hp} {ds : List PyData} {i : Nat} {d : PyData} {kvs : List (List Key × V)} (u : UpD ds) (h : ds[i]? = some d) (tb : Tb K H kvs (ds.take i)) : valV kvs (kI (keyD d)) = none := by
  rcases tb_at (K := K) (H := H) (keyD d) tb with ⟨v, e, e1, e2, _⟩ | ⟨e1, _⟩
  · exfalso
    obtain ⟨hm, hk⟩ := atD_mem e2
    obtain ⟨j, hj⟩ := List.getElem?_of_mem hm
    have hji : j < i := by
      have := (List.getElem?_eq_some_iff.mp hj).1
      rw [List.length_take] at this
      omega
    rw [List.getElem?_take_of_lt hji] at hj
    obtain ⟨l1, g1⟩ := List.getElem?_eq_some_iff.mp hj
    obtain ⟨l2, g2⟩ := List.getElem?_eq_some_iff.mp h
    have := List.pairwise_iff_getElem.mp u j i l1 l2 hji
    rw [g1, g2, hk] at this
    exact Int.lt_irrefl _ this
  · exact e1
/-- a def that has defaults -/
structure FunD (K : PySem.W.Frag) (x qual : Str) (st : Stmt) (f : Addr) (fd : FuncData) : Prop where
  ex : ∃ oc od dV kV doc pm an cdv ct osl, fd = PySem.W.fnOf x qual (defArgs st) (defBody st) (defScope st) dV kV doc pm an cdv ct ∧ K.lookup f = some ⟨oc, od, .func fd, osl⟩ ∧ PySem.W.codeIn K cdv qual = true
theorem FunD.okX {P : Program} {w : World} {K : PySem.W.Frag} {mg : Str → Option Value} {base : Heap} {x qual : Str} {st : Stmt} {f : Addr} {fd : FuncData} {N ps : List Str} {k : Nat} {sp : Sp} (F : FunD K x qual st f fd) (S : FnScope N ps (defScope st)) (len : ∀ vs H Q E, sp vs H Q E → vs.length = ps.length)
    (hbody : ∀ (cdv : Value) (A : Around) (outer : List Env) (s : Shared) (H : Hp) (vs : List V) (Q : VK) (E : XK), Room k (A.deeper (PyProof.Rows.envOfC qual (defScope st) s.heap.objs.size f cdv)) → sp vs H Q E →
      ∃ t, PSs (cxOf (L2.CX P w) P w K mg base N qual (defScope st) f cdv A outer s H E) (defBody st) t ∧ t { nx := fun _ H' => Q .non H', rt := Q } (start N vs) H) : FnOk P w K mg base (L2.CX P w) (k + 1) f fd ps sp := by
  obtain ⟨oc, od, dV, kV, doc, pm, an, cdv, ct, osl, rfl, lk, hcd⟩ := F.ex
  refine ⟨len, fun A outer s H args us vs Q E hr e0 hb r h => ?_⟩
  obtain ⟨t, ht, q⟩ := hbody cdv A outer s H vs Q E (hr.deeper _) h
  exact run_at lk hcd S (len _ _ _ _ h) hr e0 hb r ⟨t, ht, q⟩
section
variable {P : Program} {w : World} {K : PySem.W.Frag} {mg : Str → Option Value} {base : Heap}
theorem sc_binit : FnScope ["self", "deeds", "deed"] ["self", "deeds"] (defScope (inClass (top 40) 0)) := ⟨rfl, rfl, rfl, by decide +kernel, rfl, by decide +kernel, by decide +kernel⟩
theorem ok_book {f C Cb fb Cm fm Cc fc Cu fu : Addr} {fd : FuncData} (F : FunD K "__init__" "Book.__init__" (inClass (top 40) 0) f fd) (T : All K mg) (M2 : Nms2 mg) (B : Bk K mg C) (Rb : Er K mg "NoBook" Cb fb) (Rm : ErM K mg "TooMany" Cm fm) (Rc : Er K mg "NotClosed" Cc fc) (Ru : Er K mg "Unseen" Cu fu)
    {aR : Addr} (mR : mg "ROOT" = some (.ref aR)) (tR : ∀ H, SqT K H aR [.int 0, .int 0]) (hsort : mg "sorted" = none) (hzip : mg "zip" = none) (hen : mg "enumerate" = none) (hset : mg "set" = none) {tM : Nat} (hMD : mg "MOST_DEEDS" = some (.int 60 tM)) :
    FnOk P w K mg base (L2.CX P w) 13 f fd ["self", "deeds"] (spBook K C Cb Cm Cc Cu) := by
  refine F.okX sc_binit (fun vs H Q E h => ?_) (fun cdv A outer s H vs Q E hr h => ?_)
  · obtain ⟨p, dx, v, d, rfl, _⟩ := h
    rfl
  · obtain ⟨p, dx, v, d, rfl, hp, hd, hz, hst, k0, k1, k2, k3⟩ := h
    have hu : (A.deeper (envOfC "Book.__init__" (defScope (inClass (top 40) 0)) s.heap.objs.size f cdv)).units + 1 < cLine := hu_of hr
    have hu6 : (A.deeper (envOfC "Book.__init__" (defScope (inClass (top 40) 0)) s.heap.objs.size f cdv)).units + 6 < cLine := by have := hr.units; omega
    refine ⟨_, (pss_cons (ps_if (pt_not (pt_val (pe_cl (cl_listing T M2) hr (by decide) (pa_cons (pv 1) pa_nil)))) (pss_one (ps_raise rfl (takes_of rfl rfl rfl rfl) (pmk_err Rb hr (by decide) (pa_cons pe_non pa_nil)))) pss_nil)
      (pss_cons (ps_expr (pe_clX (cl_single T Rb hen hset) hr (takes_of rfl rfl rfl rfl) (by decide) (pa_cons (pv 1) pa_nil)))
      (pss_cons (ps_if (pt_cmpR op_gt (pe_callB call_len_seq (by rfl) T.bi.len PySem.boot_len (pa_cons (pv 1) pa_nil)) (pe_glob (v := .int 60) rfl hMD (rn 60 tM) rfl) (nomark _)) (pss_one (ps_raise rfl (takes_of rfl rfl rfl rfl) (pmk_errM Rm hr (by decide) (pa_cons (pe_glob (v := .int 60) rfl hMD (rn 60 tM) rfl) pa_nil)))) pss_nil)
      (pss_cons (ps_fld (pv 0) (pe_callB (call_sortD hu6) (by rfl) hsort (by decide +kernel) (pa_cons (pv 1) pa_nil)) rfl)
      (pss_cons (ps_fld (pv 0) (pe_dcT (own := [("deed", 2)]) (g := gName 2) (tt := tYes) (tk := tOp (rIxT K) (tVar 2) (tC (.int 0))) (tv := tVar 2) rfl hu sc_binit.nd (pi_list (pe_fld (pv 0) rfl)) (blkOk_by (own := [("deed", 2)]) (N := ["self", "deeds", "deed"]) (sc := defScope (inClass (top 40) 0)) (by decide +kernel)) (fun _ _ _ _ _ => pg_name (i := 2) sc_binit.nd rfl (Or.inl rfl)) (fun _ _ _ _ _ => pts_nil) (fun _ _ _ _ _ => (pe_ix ix_tup (pv 2) pe_int (fun _ _ => rfl))) (fun _ _ _ _ _ => pv 2)) rfl)
      (pss_cons (ps_fld (pv 0) (pe_lc (own := [("deed", 2)]) (g := gName 2) (tt := tYes) (te := tOp (rIxT K) (tVar 2) (tC (.int 0))) rfl sc_binit.nd (pi_list (pe_fld (pv 0) rfl)) (blkOk_by (own := [("deed", 2)]) (N := ["self", "deeds", "deed"]) (sc := defScope (inClass (top 40) 0)) (by decide +kernel)) (fun _ _ _ _ _ => pg_name (i := 2) sc_binit.nd rfl (Or.inl rfl)) (fun _ _ _ _ _ => pts_nil) (fun _ _ _ _ _ => (pe_ix ix_tup (pv 2) pe_int (fun _ _ => rfl)))) rfl)
      (pss_one (ps_fld (pv 0) (pe_clX (cl_times T Rc Ru mR tR hsort hzip hen) hr (takes_of rfl rfl rfl rfl) (by decide) (pa_cons (pe_fld (pv 0) rfl) pa_nil)) rfl)))))))), ?_⟩
    have SG : Same (hid p H) H := hid_same p H
    refine ⟨_, rfl, v, d, rfl, hd.to SG, fun H1 S1 => ⟨_, rfl, ?_⟩⟩
    have S01 := SG.trans S1
    cases eL : listD d with
    | false => exact iteT ⟨_, rfl, fun H2 dd S2 h2 => k0 eL H2 dd (S01.trans S2) h2⟩
    | true =>
      refine iteF ⟨_, rfl, v, d, rfl, hd.to S01, eL, hz eL, fun hn H2 S2 => ?_, fun i hi H2 dd S2 h2 => k1 i eL hi H2 dd (S01.trans S2) h2⟩
      have S02 := S01.trans S2
      obtain ⟨a, xs, rfl, hseq, hxs, hst'⟩ := hst eL hn
      have hp2 : H2 p = some (.ins C dx []) := S2 _ _ (S1 _ _ hp)
      have hseq2 : SqL K H2 a xs ∨ SqT K H2 a xs := hseq.imp (fun z => S02.seq z) fun z => K0.seqT_same S02 z
      have hlen := hxs.len
      refine ⟨_, rfl, a, xs, rfl, hseq2, _, _, rfl, rfl, _, rfl, ?_⟩
      by_cases h60 : (60 : Int) < (xs.length : Int)
      · rw [decide_eq_true h60]
        exact iteT ⟨_, rfl, fun H3 dd S3 h3 => k2 eL hn (by omega) H3 dd (S02.trans S3) h3⟩
      · rw [decide_eq_false h60]
        obtain ⟨right, nd, _⟩ := bad_none hn
        refine iteF ⟨_, rfl, a, xs, itemsD d, rfl, hseq2, hxs.to S02, right, nd, by omega, fun rA us ds nR hus hperm hup hpair => ?_⟩
        have npR : p ≠ rA := ne_of_none hp2 nR
        refine ⟨_, rfl, p, C, dx, [], rfl, (upd_ne npR).trans hp2, B.cl, B.nR, by show 0 < 1000; decide, ?_⟩
        have nGR : hid p H rA = none := old_none S02 nR
        have SG1 := same_put (p := p) (o := .ins C dx (putF "_rows" (.ref rA) [])) (K0.same_over S02 nGR (o := .lst us))
        have hp1 := @upd_same (upd H2 rA (.lst us)) p (.ins C dx (putF "_rows" (.ref rA) []))
        have hR1 : (upd (upd H2 rA (.lst us)) p (.ins C dx (putF "_rows" (.ref rA) []))) rA = some (.lst us) := (upd_ne (Ne.symm npR)).trans upd_same
        generalize upd (upd H2 rA (.lst us)) p (.ins C dx (putF "_rows" (.ref rA) [])) = J1 at SG1 hp1 hR1 ⊢
        have hlu : us.length = ds.length := hus.len
        have hG : DQs K (hid p H) us ds := dqs_by hlu fun i u e hu he => by
          obtain ⟨j, h1, h2⟩ := hpair i u e hu he
          obtain ⟨d', e1, e2⟩ := hxs.at h1
          rw [h2] at e1
          cases e1
          exact e2
        have hS : ∀ (i : Nat) (u : V) (e : PyData), us[i]? = some u → ds[i]? = some e → StT K (hid p H) u e := fun i u e hu he => by
          obtain ⟨j, h1, h2⟩ := hpair i u e hu he
          exact hst' j u e h1 h2
        have few : ds.length ≤ 60 := by rw [hperm.length_eq]; omega
        have right' : ∀ e ∈ ds, deedD e = true := fun e he => right e (hperm.mem_iff.mp he)
        -- the table
        refine ⟨_, rfl, p, C, dx, _, _, rfl, hp1, B.cl, B.nR, by rw [lookup_putF, if_pos rfl], rA, rfl, ⟨us, SqL.of hR1⟩, fun tA nT => ?_⟩
        refine dct_it (walk_list (K := K) (a := rA) (xs := us)) (fun i H' => Same J1 H' ∧ ∃ kvs, H' tA = some (.dT kvs) ∧ TbS K (hid p H) kvs (ds.take i)) ⟨K0.same_upd nT, [], upd_same, .nil⟩ (fun i H' _ ⟨S, _⟩ => S.seq (SqL.of hR1)) ?_ ?_
        · rintro i u H' H'' hi ⟨S, kvs, hkv, tb⟩ ⟨rfl, hu⟩
          refine ⟨rfl, ?_⟩
          obtain ⟨e, he, hq⟩ := hG.at hu
          have hSu := hS i u e hu he
          obtain ⟨da, sa, x, y, t, j, rfl, p1, p2, p3, _⟩ := (hS i u e hu he).to (SG1.trans S)
          have lk : kvs.length = (ds.take i).length := Paired.length tb
          rw [List.length_take] at lk
          have fr := up_fresh hup he tb.tb
          unfold tYes
          dsimp only
          rw [if_pos rfl]
          refine ⟨_, rfl, da, _, _, _, rfl, rfl, p1, atI_nat (j := 0) rfl, _, rfl, sa, kvs, [t, j], rfl, hkv, p2, by rw [sizeLine_eq]; omega, K0.same_over S nT, _, upd_same, ?_⟩
          rw [← p3, putK_new _ fr]
          have tk : ds.take (i + 1) = ds.take i ++ [e] := by
            rw [List.take_succ, he]
            rfl
          rw [tk]
          exact K0.paired_append (.cons ⟨rfl, hq, hSu⟩ .nil) tb
        · rintro H3 ⟨S3, kvs, hkv, tb⟩
          rw [hlu, List.take_length] at tb
          have nGT : hid p H tA = none := old_none SG1 nT
          have npT : p ≠ tA := ne_of_none hp1 nT
          have hp3 := S3 _ _ hp1
          have hR3 := S3 _ _ hR1
          have nRT : rA ≠ tA := ne_of_none hR1 nT
          refine ⟨_, rfl, p, C, dx, _, rfl, hp3, B.cl, B.nT, by show 1 < 1000; decide, ?_⟩
          have ef2 : putF "_table" (V.ref tA) (putF "_rows" (.ref rA) []) = [(("_rows" : Str), V.ref rA), ("_table", .ref tA)] := by
            show (if ("_rows" : Str) = "_table" then _ else (("_rows" : Str), V.ref rA) :: putF "_table" (V.ref tA) []) = _
            rw [if_neg ne1]
            rfl
          have SG4 := same_put (p := p) (o := .ins C dx (putF "_table" (.ref tA) (putF "_rows" (.ref rA) []))) (SG1.trans S3)
          have hp4 := @upd_same H3 p (.ins C dx (putF "_table" (.ref tA) (putF "_rows" (.ref rA) [])))
          have hR4 : (upd H3 p (.ins C dx (putF "_table" (.ref tA) (putF "_rows" (.ref rA) [])))) rA = some (.lst us) := (upd_ne (Ne.symm npR)).trans hR3
          have hT4 : (upd H3 p (.ins C dx (putF "_table" (.ref tA) (putF "_rows" (.ref rA) [])))) tA = some (.dT kvs) := (upd_ne (Ne.symm npT)).trans hkv
          generalize upd H3 p (.ins C dx (putF "_table" (.ref tA) (putF "_rows" (.ref rA) []))) = J4 at SG4 hp4 hR4 hT4 ⊢
          -- the stamps
          refine ⟨_, rfl, p, C, dx, _, _, rfl, hp4, B.cl, B.nR, by rw [lookup_putF, if_neg ne1, lookup_putF, if_pos rfl], rA, rfl, ⟨us, SqL.of hR4⟩, fun sA nS => ?_⟩
          refine lc_list (K := K) (a := rA) (xs := us) (fun i H' => Same J4 H' ∧ ∃ acc, H' sA = some (.lst acc) ∧ DQs K (hid p H) acc ((ds.take i).map stOf)) ⟨K0.same_upd nS, [], upd_same, .nil⟩ (fun i H' _ ⟨S, _⟩ => S.seq (SqL.of hR4)) ?_ ?_
          · rintro i u H' hu ⟨S, acc, hacc, hq⟩
            refine ⟨rfl, ?_⟩
            obtain ⟨e, he, _⟩ := hG.at hu
            have hsu := hS i u e hu he
            obtain ⟨da, sa, x, y, t, j, rfl, p1, p2, p3, _⟩ := hsu
            replace p1 := K0.seqT_same (SG4.trans S) p1
            have la := hq.len
            rw [List.length_map, List.length_take] at la
            unfold tYes
            dsimp only
            rw [if_pos rfl]
            refine ⟨_, rfl, da, _, _, _, rfl, rfl, p1, atI_nat (j := 0) rfl, acc, hacc, by rw [sizeLine_eq]; omega, K0.same_over S nS, _, upd_same, ?_⟩
            have tk : ds.take (i + 1) = ds.take i ++ [e] := by
              rw [List.take_succ, he]
              rfl
            rw [tk, List.map_append]
            exact hq.app (.cons (st_dq p2 p3) .nil)
          · rintro H5 ⟨S5, ss, hss, hqs⟩
            rw [hlu, List.take_length] at hqs
            have nGS : hid p H sA = none := old_none SG4 nS
            have npS : p ≠ sA := ne_of_none hp4 nS
            have nTS : tA ≠ sA := ne_of_none hT4 nS
            refine ⟨_, rfl, p, C, dx, _, rfl, S5 _ _ hp4, B.cl, B.nS, by rw [ef2]; show 2 < 1000; decide, ?_⟩
            have ef3 : putF "_stamps" (V.ref sA) (putF "_table" (V.ref tA) (putF "_rows" (.ref rA) [])) = [(("_rows" : Str), V.ref rA), ("_table", .ref tA), ("_stamps", .ref sA)] := by
              rw [ef2]
              show (if ("_rows" : Str) = "_stamps" then _ else (("_rows" : Str), V.ref rA) :: (if ("_table" : Str) = "_stamps" then _ else (("_table" : Str), V.ref tA) :: putF "_stamps" (V.ref sA) [])) = _
              rw [if_neg ne2, if_neg ne4]
              rfl
            have SG6 := same_put (p := p) (o := .ins C dx (putF "_stamps" (.ref sA) (putF "_table" (.ref tA) (putF "_rows" (.ref rA) [])))) (SG4.trans S5)
            have hp6 := @upd_same H5 p (.ins C dx (putF "_stamps" (.ref sA) (putF "_table" (.ref tA) (putF "_rows" (.ref rA) []))))
            have hR6 : (upd H5 p (.ins C dx (putF "_stamps" (.ref sA) (putF "_table" (.ref tA) (putF "_rows" (.ref rA) []))))) rA = some (.lst us) := (upd_ne (Ne.symm npR)).trans (S5 _ _ hR4)
            have hT6 : (upd H5 p (.ins C dx (putF "_stamps" (.ref sA) (putF "_table" (.ref tA) (putF "_rows" (.ref rA) []))))) tA = some (.dT kvs) := (upd_ne (Ne.symm npT)).trans (S5 _ _ hT4)
            have hS6 : (upd H5 p (.ins C dx (putF "_stamps" (.ref sA) (putF "_table" (.ref tA) (putF "_rows" (.ref rA) []))))) sA = some (.lst ss) := (upd_ne (Ne.symm npS)).trans hss
            generalize upd H5 p (.ins C dx (putF "_stamps" (.ref sA) (putF "_table" (.ref tA) (putF "_rows" (.ref rA) [])))) = J6 at SG6 hp6 hR6 hT6 hS6 ⊢
            -- the times
            have kk := k3 ds eL hn (by omega) hperm hup
            refine ⟨_, rfl, p, C, dx, _, _, rfl, hp6, B.cl, B.nT, by rw [lookup_putF, if_neg ne4, lookup_putF, if_pos rfl], tA, kvs, ds, rfl, hT6, tb.tb.to (same_hid SG6 nGT), right', fun hnone lA H7 S7 hL => ?_, fun b e he H7 dd v' S7 hv hx => kk.2 b e he H7 dd v' ((same_hid SG6 nGT).trans S7) hv hx⟩
            refine ⟨_, rfl, p, C, dx, _, rfl, S7 _ _ hp6, B.cl, B.nL, by rw [ef3]; show 3 < 1000; decide, ?_⟩
            have npL : p ≠ lA := fun z => by
              have := S7 _ _ hp6
              rw [z, hL] at this
              cases this
            have SG8 := same_put (p := p) (o := .ins C dx (flds rA tA sA lA)) (SG6.trans S7)
            have hp8 := @upd_same H7 p (.ins C dx (flds rA tA sA lA))
            have hR8 : (upd H7 p (.ins C dx (flds rA tA sA lA))) rA = some (.lst us) := (upd_ne (Ne.symm npR)).trans (S7 _ _ hR6)
            have hT8 : (upd H7 p (.ins C dx (flds rA tA sA lA))) tA = some (.dT kvs) := (upd_ne (Ne.symm npT)).trans (S7 _ _ hT6)
            have hS8 : (upd H7 p (.ins C dx (flds rA tA sA lA))) sA = some (.lst ss) := (upd_ne (Ne.symm npS)).trans (S7 _ _ hS6)
            have hL8 : (upd H7 p (.ins C dx (flds rA tA sA lA))) lA = some (.tup ((lastD ds l0).map V.int)) := (upd_ne (Ne.symm npL)).trans hL
            have hqs8 := hqs.to SG8
            refine kk.1 hnone _ SG8 ⟨⟨dx, rA, tA, sA, lA, us, kvs, ss, hp8, hR8, hG.to SG8, hT8, tb.to SG8, hS8, hqs8, hL8, fun i u e hu he => (hS i u e hu he).to SG8⟩, right', few, hup, hnone⟩ fun a0 us0 ha0 => ?_
            have npa : a0 ≠ p := fun z => by
              rw [z, hp] at ha0
              cases ha0
            have hG0 : hid p H a0 = some (.lst us0) := by
              rw [hid_ne npa]
              exact ha0
            have ha8 := SG8 _ _ hG0
            have zR : rA ≠ a0 := fun z => by
              rw [z, hG0] at nGR
              cases nGR
            have zT : tA ≠ a0 := fun z => by
              rw [z, hG0] at nGT
              cases nGT
            have zS : sA ≠ a0 := fun z => by
              rw [z, hG0] at nGS
              cases nGS
            have zL : lA ≠ a0 := fun z => by
              have y : some (HO.lst us0) = some (.tup ((lastD ds l0).map V.int)) := by
                rw [← ha8, ← z]
                exact hL8
              cases y
            exact ⟨⟨dx, rA, tA, sA, lA, us, kvs, ss, (hid_ne (Ne.symm npa)).trans hp8, (hid_ne zR).trans hR8, Flats.hide ha8 _ _ (flat_deeds right') (hG.to SG8), (hid_ne zT).trans hT8, tbS_hide ha8 right' (tb.to SG8), (hid_ne zS).trans hS8, Flats.hide ha8 _ _ (flat_sts right') hqs8, (hid_ne zL).trans hL8,
              fun i u e hu he => stT_hide ha8 (right' e (List.mem_of_getElem? he)) ((hS i u e hu he).to SG8)⟩, right', few, hup, hnone⟩
end
end K1
namespace K1
open PySem L2
/-- it names none but these -/
def NmIn (S : List (List Int)) (c : PyData) : Prop := ∀ k, keyOf c = some k → k ∈ S
theorem nm_root (S : List (List Int)) : NmIn S (.tuple [.int 0, .int 0]) := fun k h => by
  have z : (if (0 : Int) = 0 ∧ (0 : Int) = 0 then none else some [(0 : Int), 0]) = some k := h
  rw [if_pos ⟨rfl, rfl⟩] at z
  cases z
theorem nm_none (S : List (List Int)) : NmIn S .none := fun k h => by cases h
theorem nm_stamp {ds : List PyData} {d sd kd b : PyData} (hd : d ∈ ds) (e : d = .tuple [sd, kd, b]) (st : stampD sd = true) : NmIn (ds.map keyD) sd := fun k h => by
  obtain ⟨t, j, rfl, _⟩ := stamp_int st
  have z : (if t = 0 ∧ j = 0 then none else some [t, j]) = some k := h
  by_cases c : t = 0 ∧ j = 0
  · rw [if_pos c] at z
    cases z
  · rw [if_neg c] at z
    rw [← Option.some.inj z]
    refine List.mem_map.mpr ⟨d, hd, ?_⟩
    rw [e]
    rfl
theorem NmIn.mono {S S' : List (List Int)} {c : PyData} (h : NmIn S c) (s : ∀ k ∈ S, k ∈ S') : NmIn S' c := fun k hk => s k (h k hk)
/-- right deeds in a list at a, beside the source -/
structure Some (K : PySem.W.Frag) (p : Addr) (H : Hp) (a : Addr) (us : List V) (ds : List PyData) : Prop where
  src : Src H p
  seq : SqL K (hid p H) a us
  all : DQs K (hid p H) us ds
  right : ∀ d ∈ ds, deedD d = true
  few : ds.length ≤ 30
theorem Some.to {K : PySem.W.Frag} {p : Addr} {H H' : Hp} {a : Addr} {us : List V} {ds : List PyData} (h : Some K p H a us ds) (b : Bt p H H') : Some K p H' a us ds := ⟨b.src, b.same.seq h.seq, h.all.to b.same, h.right, h.few⟩
/-- a list of data at q, beside the source -/
structure LstOf (K : PySem.W.Frag) (p : Addr) (H : Hp) (q : Addr) (vs : List V) (es : List PyData) : Prop where
  at_ : H q = some (.lst vs)
  ne : q ≠ p
  all : DQs K (hid p H) vs es
theorem LstOf.to {K : PySem.W.Frag} {p : Addr} {H H' : Hp} {q : Addr} {vs : List V} {es : List PyData} (h : LstOf K p H q vs es) (b : Bt p H H') : LstOf K p H' q vs es := ⟨b.at h.ne h.at_, h.ne, h.all.to b.same⟩
theorem Bt.ne {p q : Addr} {H H' : Hp} (b : Bt p H H') (n : H' q = none) : q ≠ p := fun e => by
  obtain ⟨x, y, z, _⟩ := b.src
  rw [e, z] at n
  cases n
/-- the parts of a right deed -/
theorem deed_parts {K : PySem.W.Frag} {H : Hp} {v : V} {d : PyData} (h : DQ K H v d) (r : deedD d = true) : ∃ (a : Addr) (xs : List V) (us ub : V) (s k : PyData) (x : Str) (l : List PyData), v = .ref a ∧ SqT K H a xs ∧ atI xs 0 = some us ∧ atI xs 2 = some ub ∧ DQ K H us s ∧ stampD s = true ∧ DQ K H ub (.tuple (.str x :: l)) ∧ bodyR x l = true ∧ d = .tuple [s, k, .tuple (.str x :: l)] := by
  obtain ⟨t, j, a, b, c, e, x, l, rfl, ht, hj, hk, hb⟩ := deed_shape r
  cases h with
  | tup h1 h2 =>
    cases h2 with
    | cons q1 h2 =>
      cases h2 with
      | cons q2 h2 =>
        cases h2 with
        | cons q3 h2 =>
          refine ⟨_, _, _, _, _, _, x, l, rfl, h1, atI_nat (j := 0) rfl, atI_nat (j := 2) rfl, q1, ?_, q3, hb, rfl⟩
          rw [stamp_of]
          show ((decide (1 ≤ t) && decide (t ≤ 999)) && (decide (0 ≤ j) && decide (j ≤ 3))) = true
          rw [decide_eq_true ht.1, decide_eq_true ht.2, decide_eq_true hj.1, decide_eq_true hj.2]
          rfl
theorem stamp_thing {d : PyData} (h : stampD d = true) : thingD d = true := by
  unfold thingD
  rw [h, Bool.true_or]
/-- the kind of a right make -/
theorem make_kind {l : List PyData} (h : bodyR "make" l = true) : ∃ y u k c, l = [.str y, u, k, c] ∧ thingD u = true ∧ fromD 0 999 k = true ∧ contentD (.str y) c = true := by
  have hm : makeR l = true := h
  have z : l.length = 4 := Classical.byContradiction fun z => by
    rw [makeR_ne z] at hm
    cases hm
  obtain ⟨d1, d2, d3, d4, rfl⟩ := list4 z
  have em : makeR [d1, d2, d3, d4] = (thingD d2 && (fromD 0 999 d3 && contentD d1 d4)) := rfl
  rw [em, Bool.and_eq_true, Bool.and_eq_true] at hm
  cases d1 with
  | str y => exact ⟨y, d2, d3, d4, rfl, hm.1, hm.2.1, hm.2.2⟩
  | _ => cases hm.2.2
/-- the list that is being made, one more in it -/
theorem Bt.over {p D : Addr} {H H' : Hp} {o : HO} (b : Bt p H H') (n : H D = none) (ne : D ≠ p) : Bt p H (upd H' D o) := by
  obtain ⟨x, y, e, r⟩ := b.src
  refine ⟨fun c u hc => ?_, x, y, by rw [upd_ne (Ne.symm ne)]; exact e, r⟩
  obtain ⟨c1, c2⟩ := hid_at hc
  rw [hid_ne c1, upd_ne (ne_of_none c2 n)]
  exact b.at c1 c2
def spHolders (K : PySem.W.Frag) : Sp := fun vs H Q _ => ∃ p a us ds, vs = [.ref a] ∧ Some K p H a us ds ∧ ∀ H' q vs' es, Bt p H H' → LstOf K p H' q vs' es → (∀ e ∈ es, thingD e = true ∧ NmIn (ds.map keyD) e) → 0 < es.length → es.length ≤ ds.length + 1 → Q (.ref q) H'
section
variable {P : Program} {w : World} {K : PySem.W.Frag} {mg : Str → Option Value} {base : Heap}
theorem sc_hold2 : FnScope ["_law_some", "_law_kinds", "_law_deed"] ["_law_some"] (defScope (top 69)) := ⟨rfl, rfl, rfl, by decide +kernel, rfl, by decide +kernel, by decide +kernel⟩
theorem cl_holders (T : All K mg) : Cl P w K mg base 1 "_law_holders" ["_law_some"] (spHolders K) := by
  obtain ⟨g, fd, D⟩ := T.dn 69 _ _ rfl
  refine D.cl (D.fn.ok sc_hold2 (fun vs H Q E h => ?_) (fun cdv A outer s H vs Q E hr h => ?_))
  · obtain ⟨p, a, us, ds, rfl, _⟩ := h
    rfl
  · obtain ⟨p, a, us, ds, rfl, hs, k⟩ := h
    refine ⟨_, (pss_cons (ps_set (i := 1) sc_hold2.nd rfl (Or.inr rfl) (pe_lst (pa_cons pe_str (pa_cons pe_str (pa_cons pe_str (pa_cons pe_str pa_nil))))))
      (pss_one (ps_ret (pe_op op_cat (pe_lst (pa_cons (pe_tup (pa_cons pe_int (pa_cons pe_int pa_nil))) pa_nil)) (pe_lc (own := [("_law_deed", 2)]) (g := gName 2) (te := tOp (rIxT K) (tVar 2) (tC (.int 0))) (tt := tAnd (tTest (tOp rEq (tOp (rIxT K) (tOp (rIxT K) (tVar 2) (tC (.int 2))) (tC (.int 0))) (tC (.str "make")))) (tTest (tOp (rIn K false) (tOp (rIxT K) (tOp (rIxT K) (tVar 2) (tC (.int 2))) (tC (.int 1))) (tVar 1)))) rfl sc_hold2.nd (pi_list (pv 0)) (blkOk_by (own := [("_law_deed", 2)]) (N := [("_law_some" : Str), ("_law_kinds" : Str), ("_law_deed" : Str)]) (sc := defScope (top 69)) (by decide +kernel)) (fun _ _ _ _ _ => pg_name (i := 2) sc_hold2.nd rfl (Or.inl rfl)) (fun _ _ _ _ _ => pts_one (PW.pt (pw_and (pt_cmpR op_eq (pe_ix ix_tup (pe_ix ix_tup (pv 2) pe_int (fun _ _ => rfl)) pe_int (fun _ _ => rfl)) pe_str (nomark _)) (pw_and1 (pt_cmpR op_in_seq (pe_ix ix_tup (pe_ix ix_tup (pv 2) pe_int (fun _ _ => rfl)) pe_int (fun _ _ => rfl)) (pv 1) rfl))))) (fun _ _ _ _ _ => (pe_ix ix_tup (pv 2) pe_int (fun _ _ => rfl)))))))), ?_⟩
    refine ⟨(by show 4 ≤ sizeLine; rw [sizeLine_eq]; decide), fun q1 n1 => ?_⟩
    have b1 := (Bt.refl hs.src).new (o := .lst [.str "block", .str "let", .str "sum", .str "product"]) n1
    have e1 := @upd_same H q1 (.lst [.str "block", .str "let", .str "sum", .str "product"])
    generalize upd H q1 (.lst [.str "block", .str "let", .str "sum", .str "product"]) = H1 at b1 e1 ⊢
    have ne1 := (Bt.refl hs.src).ne n1
    refine ⟨(by show 2 ≤ sizeLine; rw [sizeLine_eq]; decide), fun q2 n2 => ⟨(by show 1 ≤ sizeLine; rw [sizeLine_eq]; decide), fun q3 n3 => ?_⟩⟩
    have b2 := b1.new (o := .tup [.int 0, .int 0]) n2
    have e2 := @upd_same H1 q2 (.tup [.int 0, .int 0])
    have ne2 := b1.ne n2
    have c12 := (Bt.refl b1.src).new (o := .tup [.int 0, .int 0]) n2
    generalize upd H1 q2 (.tup [.int 0, .int 0]) = H2 at b2 e2 c12 n3 ⊢
    have b3 := b2.new (o := .lst [.ref q2]) n3
    have e3 := @upd_same H2 q3 (.lst [.ref q2])
    have ne3 := b2.ne n3
    have c23 := (Bt.refl b2.src).new (o := .lst [.ref q2]) n3
    generalize upd H2 q3 (.lst [.ref q2]) = H3 at b3 e3 c23 ⊢
    have k3 : H3 q1 = some (.lst [.str "block", .str "let", .str "sum", .str "product"]) := c23.at ne1 (c12.at ne1 e1)
    have t3 : H3 q2 = some (.tup [.int 0, .int 0]) := c23.at ne2 e2
    have s3 := hs.to b3
    refine ⟨_, rfl, a, rfl, ⟨us, (hid_same p H3).seq s3.seq⟩, fun Dd nD => ?_⟩
    have neD := b3.ne nD
    refine lc_list (K := K) (a := a) (xs := us) (fun i H' => Bt p H3 H' ∧ ∃ acc es, H' Dd = some (.lst acc) ∧ DQs K (hid p H3) acc es ∧ (∀ e ∈ es, thingD e = true ∧ NmIn (ds.map keyD) e) ∧ es.length ≤ i) ⟨(Bt.refl b3.src).new nD, [], [], upd_same, .nil, fun e he => absurd he List.not_mem_nil, Nat.le_refl _⟩
      (fun i H' _ ⟨b, _⟩ => (hid_same p H').seq (b.same.seq s3.seq)) ?_ ?_
    · rintro i u H' hu ⟨b, acc, es, hl, hes, hth, hlen⟩
      refine ⟨rfl, ?_⟩
      obtain ⟨d, hd, hq⟩ := s3.all.at hu
      have hi := (List.getElem?_eq_some_iff.mp hu).1
      have lu := s3.all.len
      have hf := s3.few
      have hr := s3.right d (List.mem_of_getElem? hd)
      obtain ⟨ad, xs, uS, uB, sd, kd, x, l, rfl, ht, i0, i2, qs, st, qb, hb, ed⟩ := deed_parts hq hr
      have Sv := b.same.trans (hid_same p H')
      have ht' := K0.seqT_same Sv ht
      obtain ⟨ab, ys, u0, rfl, hy, j0, qx⟩ := (qb.to Sv).item (i := 0) rfl
      cases qx
      refine ⟨_, rfl, ad, xs, _, _, rfl, rfl, ht', i2, ab, ys, _, _, rfl, rfl, hy, j0, rfl, _, rfl, ?_⟩
      rw [dec_str]
      have stay : Bt p H3 H' ∧ ∃ acc es, H' Dd = some (.lst acc) ∧ DQs K (hid p H3) acc es ∧ (∀ e ∈ es, thingD e = true ∧ NmIn (ds.map keyD) e) ∧ es.length ≤ i + 1 := ⟨b, acc, es, hl, hes, hth, Nat.le_succ_of_le hlen⟩
      by_cases c1 : x = "make"
      · rw [decide_eq_true c1]
        subst c1
        obtain ⟨y, tu, ky, cc, rfl, _⟩ := make_kind hb
        obtain ⟨ab', ys', u1, e', hy', j1, qk⟩ := (qb.to Sv).item (i := 1) rfl
        cases e'
        cases qk
        refine iteT ⟨_, rfl, ad, xs, _, _, rfl, rfl, ht', i2, ab, ys', _, _, rfl, rfl, hy', j1, _, rfl, q1, _, rfl, .inl (SqL.of (b.at ne1 k3)), rfl, rfl, _, rfl, ?_⟩
        refine ite2 (fun _ => ?_) (fun _ => stay)
        refine ⟨_, rfl, ad, xs, _, _, rfl, rfl, ht', i0, acc, hl, by rw [hes.len, sizeLine_eq]; omega, b.over nD neD, _, es ++ [sd], upd_same, hes.app (.cons qs .nil), fun e he => ?_, by rw [List.length_append]; exact Nat.succ_le_succ hlen⟩
        rcases List.mem_append.mp he with z | z
        · exact hth e z
        · rw [List.mem_singleton.mp z]
          exact ⟨stamp_thing st, nm_stamp (List.mem_of_getElem? hd) ed st⟩
      · rw [decide_eq_false c1]
        exact iteF stay
    · rintro H' ⟨b, acc, es, hl, hes, hth, hlen⟩
      have lu := s3.all.len
      have hf := s3.few
      refine ⟨q3, Dd, _, acc, rfl, rfl, b.at ne3 e3, hl, by rw [hes.len, sizeLine_eq]; show 1 + es.length ≤ _; omega, fun q4 n4 => ?_⟩
      have b4 := (b3.trans b).new (o := .lst ([.ref q2] ++ acc)) n4
      have c4 := b.new (o := .lst ([.ref q2] ++ acc)) n4
      refine k _ q4 _ (.tuple [.int 0, .int 0] :: es) b4 ⟨upd_same, b.ne n4, .cons (.tup (.inl (.inl ?_)) (.cons (.int 0) (.cons (.int 0) .nil))) (hes.to c4.same)⟩ (fun e he => ?_) (Nat.succ_pos _) (by show es.length + 1 ≤ ds.length + 1; omega)
      · rw [hid_ne ne2]
        exact c4.at ne2 t3
      · rcases List.mem_cons.mp he with z | z
        · rw [z]
          exact ⟨by decide +kernel, nm_root _⟩
        · exact hth e z
end
end K1
namespace K1
open PySem L2
/-- the first two items of a right body: plain, for == -/
def two (x : Str) (l : List PyData) : PyData := .tuple ((PyData.str x :: l).take 2)
theorem shaped_two {x : Str} {d : PyData} {l : List PyData} (h1 : PyData.strOk x = true) (h2 : d.canLay0 = true) (h3 : d.depth ≤ 3) : SeqAt.shaped (two x (d :: l)) = true := by
  show (PyData.canLay0 (.tuple [.str x, d]) && decide (PyData.depth (.tuple [.str x, d]) ≤ 64)) = true
  have e1 : PyData.canLay0 (.tuple [.str x, d]) = true := by
    show (PyData.strOk x && (d.canLay0 && true)) = true
    rw [h1, h2]
    rfl
  have e2 : PyData.depth (.tuple [.str x, d]) ≤ 64 := by
    show max 0 (max d.depth 0) + 1 ≤ 64
    omega
  rw [e1, decide_eq_true e2]
  rfl
theorem lay_thing {d : PyData} (h : thingD d = true) : d.canLay0 = true ∧ d.depth ≤ 3 ∧ d.hasDict = false := by
  obtain ⟨a, b, rfl, _⟩ := thing_int h
  exact ⟨rfl, by show 1 ≤ 3; decide, rfl⟩
theorem lay_kind {y : Str} {c : PyData} (h : contentD (.str y) c = true) : PyData.strOk y = true := by
  have e : (if y = "let" then nameD c else if y = "use" then binderD c else if y = "number" then fromD 0 99 c else holdsD (.str y) && noneD c) = true := h
  by_cases c1 : y = "let"
  · rw [c1]
    decide +kernel
  · rw [if_neg c1] at e
    by_cases c2 : y = "use"
    · rw [c2]
      decide +kernel
    · rw [if_neg c2] at e
      by_cases c3 : y = "number"
      · rw [c3]
        decide +kernel
      · rw [if_neg c3, Bool.and_eq_true] at e
        have hh : (y == ("block" : Str) || y == ("let" : Str) || y == ("sum" : Str) || y == ("product" : Str)) = true := e.1
        simp only [Bool.or_eq_true, beq_iff_eq] at hh
        rcases hh with ((z | z) | z) | z <;>
          · rw [z]
            decide +kernel
/-- .. of any right body -/
theorem two_ok {x : Str} {l : List PyData} (h : bodyR x l = true) : SeqAt.shaped (two x l) = true ∧ (two x l).hasDict = false := by
  have pure : (two x l).hasDict = false := (Pure.tuple fun d hd => pure_body h d (List.mem_of_mem_take hd)).1
  refine ⟨?_, pure⟩
  unfold bodyR at h
  by_cases c1 : x = "make"
  · subst c1
    rw [if_pos rfl] at h
    obtain ⟨y, u, k, c, rfl, h1, h2, h3⟩ := make_kind (by unfold bodyR; rw [if_pos rfl]; exact h)
    exact shaped_two (by decide +kernel) (lay_kind h3) (by show 0 ≤ 3; decide)
  · rw [if_neg c1] at h
    by_cases c2 : x = "move"
    · rw [if_pos c2] at h
      have z : l.length = 3 := Classical.byContradiction fun z => by
        rw [moveR_ne z] at h
        cases h
      obtain ⟨d1, d2, d3, rfl⟩ := list3 z
      have em : moveR [d1, d2, d3] = (thingD d1 && (thingD d2 && fromD 0 999 d3)) := rfl
      rw [em, Bool.and_eq_true, Bool.and_eq_true] at h
      obtain ⟨q1, q2, _⟩ := lay_thing h.1
      exact shaped_two (by rw [c2]; decide +kernel) q1 q2
    · rw [if_neg c2] at h
      by_cases c3 : x = "drop"
      · rw [if_pos c3] at h
        have z : l.length = 1 := Classical.byContradiction fun z => by
          rw [dropR_ne z] at h
          cases h
        obtain ⟨d1, rfl⟩ := list1 z
        have ht : thingD d1 = true := h
        obtain ⟨q1, q2, _⟩ := lay_thing ht
        exact shaped_two (by rw [c3]; decide +kernel) q1 q2
      · rw [if_neg c3] at h
        by_cases c4 : x = "undo" ∨ x = "redo"
        · rw [if_pos c4] at h
          have z : l.length = 1 := Classical.byContradiction fun z => by
            rw [markR_ne z] at h
            cases h
          obtain ⟨d1, rfl⟩ := list1 z
          have hs : stampD d1 = true := h
          obtain ⟨q1, q2, _⟩ := lay_thing (stamp_thing hs)
          refine shaped_two ?_ q1 q2
          rcases c4 with z | z <;>
            · rw [z]
              decide +kernel
        · rw [if_neg c4] at h
          have z : l.length = 2 := Classical.byContradiction fun z => by
            rw [writeR_ne z] at h
            cases h
          obtain ⟨d1, d2, rfl⟩ := list2 z
          have em : writeR x [d1, d2] = (thingD d1 && writeD (.str x) d2) := rfl
          rw [em, Bool.and_eq_true] at h
          obtain ⟨q1, q2, _⟩ := lay_thing h.1
          refine shaped_two ?_ q1 q2
          have e : (if x = "wish" then nameD d2 else if x = "point" then binderD d2 else decide (x = "set") && fromD 0 99 d2) = true := h.2
          by_cases c5 : x = "wish"
          · rw [c5]
            decide +kernel
          · rw [if_neg c5] at e
            by_cases c6 : x = "point"
            · rw [c6]
              decide +kernel
            · rw [if_neg c6, Bool.and_eq_true, decide_eq_true_eq] at e
              rw [e.1]
              decide +kernel
end K1
namespace K1
open PySem L2
/-- a comprehension of the stamps of deeds, by any test -/
theorem lc_stamps {K : PySem.W.Frag} {p a : Addr} {us : List V} {ds : List PyData} {tt : TT} {j : Nat} {σ : St} {H3 : Hp} {D : Addr} {Qd : Hp → Prop} (s3 : Some K p H3 a us ds) (nD : H3 D = none) (hw : ∀ x, wipe ((wipe σ [j]).set j (some x)) [j] = wipe σ [j])
    (hget : ∀ u, ((wipe σ [j]).set j (some u))[j]? = some (some u))
    (ht : ∀ (u : V) (d : PyData) (H' : Hp) (Qb : Bool → Hp → Prop), (d ∈ ds ∧ deedD d = true) → DQ K (hid p H3) u d → Bt p H3 H' → (∀ b H'', Bt p H' H'' → Qb b H'') → tt ((wipe σ [j]).set j (some u)) H' Qb)
    (hd : ∀ H' acc es, Bt p H3 H' → H' D = some (.lst acc) → DQs K (hid p H3) acc es → (∀ e ∈ es, stampD e = true ∧ NmIn (ds.map keyD) e) → es.length ≤ ds.length → Qd H') :
    ∃ W : Nat → Nat → Hp → Prop, (∃ m, W 0 m (upd H3 D (.lst []))) ∧ ∀ i m H, W i m H →
      ((Itl K a).stop i H ∧ Qd H) ∨ ((Itl K a).go i H ∧ ∃ Nx : Hp → Prop, (∀ H', Nx H' → ∃ m', m' < m ∧ W (i + 1) m' H') ∧ ∀ x H', (Itl K a).yld i H x H' → (gName j) x (wipe σ [j]) H' fun σ2 H2 => wipe σ2 [j] = wipe σ [j] ∧ tt σ2 H2 fun b H3 =>
        if b = true then (tOp (rIxT K) (tVar j) (tC (.int 0))) σ2 H3 fun y H4 => ∃ acc, H4 D = some (.lst acc) ∧ acc.length < sizeLine ∧ Nx (upd H4 D (.lst (acc ++ [y]))) else Nx H3) := by
  have b3 := Bt.refl s3.src
  have neD := b3.ne nD
  refine lc_list (K := K) (a := a) (xs := us) (fun i H' => Bt p H3 H' ∧ ∃ acc es, H' D = some (.lst acc) ∧ DQs K (hid p H3) acc es ∧ (∀ e ∈ es, stampD e = true ∧ NmIn (ds.map keyD) e) ∧ es.length ≤ i) ⟨b3.new nD, [], [], upd_same, .nil, fun e he => absurd he List.not_mem_nil, Nat.le_refl _⟩
    (fun i H' _ ⟨b, _⟩ => (hid_same p H').seq (b.same.seq s3.seq)) ?_ (fun H' ⟨b, acc, es, h1, h2, h3, h4⟩ => hd H' acc es b h1 h2 h3 (by rw [← s3.all.len]; exact h4))
  rintro i u H' hu ⟨b, acc, es, hl, hes, hth, hlen⟩
  obtain ⟨d, hdi, hq⟩ := s3.all.at hu
  have hi := (List.getElem?_eq_some_iff.mp hu).1
  have lu := s3.all.len
  have hf := s3.few
  have hr := s3.right d (List.mem_of_getElem? hdi)
  refine ⟨hw u, ht u d H' _ ⟨List.mem_of_getElem? hdi, hr⟩ hq b fun b' H'' b2 => ?_⟩
  have b13 := b.trans b2
  have hl2 := b2.at neD hl
  refine ite2 (fun _ => ?_) (fun _ => ⟨b13, acc, es, hl2, hes, hth, Nat.le_succ_of_le hlen⟩)
  obtain ⟨ad, xs, uS, uB, sd, kd, x, l, rfl, ht', i0, i2, qs, st, qb, hb, ed⟩ := deed_parts hq hr
  refine ⟨_, hget _, ad, xs, _, _, rfl, rfl, K0.seqT_same (b13.same.trans (hid_same p H'')) ht', i0, acc, hl2, by rw [hes.len, sizeLine_eq]; omega, b13.over nD neD, _, es ++ [sd], upd_same, hes.app (.cons qs .nil), fun e he => ?_, by rw [List.length_append]; exact Nat.succ_le_succ hlen⟩
  rcases List.mem_append.mp he with z | z
  · exact hth e z
  · rw [List.mem_singleton.mp z]
    exact ⟨st, nm_stamp (List.mem_of_getElem? hdi) ed st⟩
/-- whether a body begins so: the answer does not matter -/
theorem begins {K : PySem.W.Frag} {p : Addr} {H' : Hp} {u : V} {d : PyData} {Q : VK} (src : Src H' p) (hr : deedD d = true) (hq : DQ K (hid p H') u d) (k : ∀ b H'', Bt p H' H'' → Q (.bl b) H'') :
    ∃ a xs m z, u = .ref a ∧ V.int 2 = .int m ∧ SqT K H' a xs ∧ atI xs m = some z ∧ rSlA K z none (some 2) H' fun y H1 => [V.str "make", V.str "let"].length ≤ sizeLine ∧ ∀ q, H1 q = none → rEqD K y (.ref q) (upd H1 q (.tup [.str "make", .str "let"])) Q := by
  obtain ⟨ad, xs, uS, uB, sd, kd, x, l, rfl, ht', i0, i2, qs, st, qb, hb, ed⟩ := deed_parts hq hr
  refine ⟨ad, xs, _, uB, rfl, rfl, K0.seqT_same (hid_same p H') ht', i2, slice_ask src qb fun H1 y b1 qy => ⟨(by show 2 ≤ sizeLine; rw [sizeLine_eq]; decide), fun q nq => ?_⟩⟩
  have b2 := b1.new (o := .tup [.str "make", .str "let"]) nq
  have c2 := (Bt.refl b1.src).new (o := .tup [.str "make", .str "let"]) nq
  have et : PyData.tuple (cutD (.str x :: l) none (some 2)) = two x l := by
    unfold cutD two
    rw [HT.sIx_none, List.drop_zero, Nat.sub_zero, show (2 : Int) = ((2 : Nat) : Int) from rfl, HT.sIx_nat]
    congr 1
    rcases l with _ | ⟨e, l⟩ <;> simp
  rw [et] at qy
  obtain ⟨sh, pu⟩ := two_ok hb
  exact ⟨_, .tuple [.str "make", .str "let"], K0.dp_same (c2.same.trans (hid_same p _)) _ _ (DQ.dp _ _ pu qy), .tup (.inl (.inl upd_same)) (.cons (.str _) (.cons (.str _) .nil)), sh, by decide +kernel, k _ _ b2⟩
end K1
namespace K1
open PySem L2
/-- what the law draws as a content of a kind -/
def contF (y : Str) (d : PyData) : Bool := if y = "let" then nameD d else if y = "number" then fromD 0 99 d else if y = "use" then binderD d else noneD d
def spContent (K : PySem.W.Frag) : Sp := fun vs H Q _ => ∃ p y a us ds, vs = [.ref p, .str y, .ref a] ∧ Some K p H a us ds ∧ ∀ H' u d, contF y d = true → (y = "use" → NmIn (ds.map keyD) d) → Bt p H H' → DQ K (hid p H') u d → Q u H'
section
variable {P : Program} {w : World} {K : PySem.W.Frag} {mg : Str → Option Value} {base : Heap}
theorem one_lit {p q : Addr} {H H' : Hp} {vs : List V} {ds : List PyData} {Q : VK} {E : XK} (src : Src H p) (S : Same H H') (n : H q = none) (e : H' q = some (.lst vs)) (d : DQs K (nw H H') vs ds) (h0 : 0 < ds.length) (h1 : ds.length ≤ 1000)
    (k : ∀ H'' u x, x ∈ ds → Bt p H H'' → DQ K (hid p H'') u x → Q u H'') : spOne K [.ref p, .ref q] H' Q E := by
  have b := (Bt.refl src).grow S
  exact ⟨p, q, vs, ds, rfl, b.src, SqL.of (nw_hid src _ _ (nw_of n e)), d.to (nw_hid src), h0, by omega, fun H'' u x hx b2 hq => k H'' u x hx (b.trans b2) hq⟩
theorem sc_content : FnScope [("_law_source" : Str), ("_law_kind" : Str), ("_law_some" : Str), ("_law_lets" : Str), ("_law_odd" : Str), ("_law_deed" : Str)] ["_law_source", "_law_kind", "_law_some"] (defScope (top 68)) := ⟨rfl, rfl, rfl, by decide +kernel, rfl, by decide +kernel, by decide +kernel⟩
theorem cl_content (T : All K mg) (M : Nms mg) : Cl P w K mg base 3 "_law_content" ["_law_source", "_law_kind", "_law_some"] (spContent K) := by
  obtain ⟨g, fd, D⟩ := T.dn 68 _ _ rfl
  refine D.cl (D.fn.ok sc_content (fun vs H Q E h => ?_) (fun cdv A outer s H vs Q E hr h => ?_))
  · obtain ⟨p, y, a, us, ds, rfl, _⟩ := h
    rfl
  · obtain ⟨p, y, a, us, ds, rfl, hs, k⟩ := h
    refine ⟨_, (pss_cons (ps_if (pt_cmpR op_eq (pv 1) pe_str (nomark _)) (pss_one (ps_ret (pe_cl (cl_one T M) hr (by decide) (pa_cons (pv 0) (pa_cons (li_list (ds := [.str "x", .str "x", .str "y", .str "abcd"]) (las_cons (li_str (by decide +kernel)) (las_cons (li_str (by decide +kernel)) (las_cons (li_str (by decide +kernel)) (las_cons (li_str (by decide +kernel)) las_nil)))) (by decide)) pa_nil))))) pss_nil)
      (pss_cons (ps_if (pt_cmpR op_eq (pv 1) pe_str (nomark _)) (pss_one (ps_ret (pe_cl (cl_one T M) hr (by decide) (pa_cons (pv 0) (pa_cons (li_list (ds := [.int 0, .int 1, .int 2, .int 7, .int 99]) (las_cons li_int (las_cons li_int (las_cons li_int (las_cons li_int (las_cons li_int las_nil))))) (by decide)) pa_nil))))) pss_nil)
      (pss_cons (ps_if (pt_cmpR op_eq (pv 1) pe_str (nomark _)) (pss_cons (ps_setLc (i := 3) (own := [("_law_deed", 5)]) (g := gName 5) (te := tOp (rIxT K) (tVar 5) (tC (.int 0))) (tt := tTest (tOp (rEqD K) (tSl (rSlA K) (tOp (rIxT K) (tVar 5) (tC (.int 2))) tNoPart (tPart (tC (.int 2)))) (tTup (tCons (tC (.str "make")) (tCons (tC (.str "let")) tNil))))) rfl sc_content.nd rfl rfl (sw_true rfl rfl rfl (by decide +kernel)) (pi_list (pv 2)) (blkOk_by (own := [("_law_deed", 5)]) (N := [("_law_source" : Str), ("_law_kind" : Str), ("_law_some" : Str), ("_law_lets" : Str), ("_law_odd" : Str), ("_law_deed" : Str)]) (sc := defScope (top 68)) (by decide +kernel)) (fun _ _ _ _ _ => pg_name (i := 5) sc_content.nd rfl (Or.inl rfl)) (fun _ _ _ _ _ => pts_one (pt_cmpR (op_eqD hr.units) (pe_slice sl_tupA (pe_ix ix_tup (pv 5) pe_int (fun _ _ => rfl)) po_none (po_some pe_int)) (pe_tup (pa_cons pe_str (pa_cons pe_str pa_nil))) (nomark _))) (fun _ _ _ _ _ => (pe_ix ix_tup (pv 5) pe_int (fun _ _ => rfl))))
      (pss_cons (ps_set (i := 4) sc_content.nd rfl (Or.inl rfl) (pe_op op_cat (li_list (ds := [.none, .tuple [.int 0, .int 0]]) (las_cons li_non (las_cons (li_tup (las_cons li_int (las_cons li_int las_nil)) (by decide)) las_nil)) (by decide)) (pe_slice sl_list (pe_lc (own := [("_law_deed", 5)]) (g := gName 5) (te := tOp (rIxT K) (tVar 5) (tC (.int 0))) (tt := tYes) rfl sc_content.nd (pi_list (pv 2)) (blkOk_by (own := [("_law_deed", 5)]) (N := [("_law_source" : Str), ("_law_kind" : Str), ("_law_some" : Str), ("_law_lets" : Str), ("_law_odd" : Str), ("_law_deed" : Str)]) (sc := defScope (top 68)) (by decide +kernel)) (fun _ _ _ _ _ => pg_name (i := 5) sc_content.nd rfl (Or.inl rfl)) (fun _ _ _ _ _ => pts_nil) (fun _ _ _ _ _ => (pe_ix ix_tup (pv 5) pe_int (fun _ _ => rfl)))) po_none (po_some pe_int))))
      (pss_one (ps_ret (pe_cl (cl_one T M) hr (by decide) (pa_cons (pv 0) (pa_cons (pe_op op_cat (pe_op op_cat (pe_op op_cat (pv 3) (pv 3)) (pv 3)) (pv 4)) pa_nil))))))) pss_nil)
      (pss_one (ps_ret pe_non))))), ?_⟩
    unfold contF at k
    refine ⟨_, rfl, rfl, _, rfl, ?_⟩
    rw [dec_str]
    by_cases c1 : y = "let"
    · simp only [if_pos c1] at k
      rw [decide_eq_true c1]
      refine iteT ⟨_, rfl, fun H1 q1 v1 S1 n1 e1 d1 => one_lit (E := E0) hs.src S1 n1 e1 d1 (by decide) (by decide) fun H2 u x hx b hq => k H2 u x (List.all_eq_true.mp (show ([.str "x", .str "x", .str "y", .str "abcd"] : List PyData).all nameD = true by decide +kernel) x hx) (fun z => absurd (c1.symm.trans z) (by decide +kernel)) b hq⟩
    · simp only [if_neg c1] at k
      rw [decide_eq_false c1]
      refine iteF ⟨_, rfl, rfl, _, rfl, ?_⟩
      rw [dec_str]
      by_cases c2 : y = "number"
      · simp only [if_pos c2] at k
        rw [decide_eq_true c2]
        refine iteT ⟨_, rfl, fun H1 q1 v1 S1 n1 e1 d1 => one_lit (E := E0) hs.src S1 n1 e1 d1 (by decide) (by decide) fun H2 u x hx b hq => k H2 u x (List.all_eq_true.mp (show ([.int 0, .int 1, .int 2, .int 7, .int 99] : List PyData).all (fromD 0 99) = true by decide +kernel) x hx) (fun z => absurd (c2.symm.trans z) (by decide +kernel)) b hq⟩
      · simp only [if_neg c2] at k
        rw [decide_eq_false c2]
        refine iteF ⟨_, rfl, rfl, _, rfl, ?_⟩
        rw [dec_str]
        by_cases c3 : y = "use"
        · simp only [if_pos c3] at k
          rw [decide_eq_true c3]
          refine iteT ⟨_, rfl, a, rfl, ⟨us, (hid_same p H).seq hs.seq⟩, fun D1 nD1 => ?_⟩
          refine lc_stamps (j := 5) hs nD1 (fun _ => rfl) (fun _ => rfl) (fun u d H' Qb hr' hq b kb => ?_) (fun H1 acc1 es1 b1 e1 q1 st1 l1 => ?_)
          · obtain ⟨a', xs, m, z, rfl, hm, ht, hi, hsl⟩ := begins (Q := fun v H'' => ∃ c, v = .bl c ∧ Qb c H'') b.src hr'.2 (hq.to b.same) (fun c H'' b2 => ⟨c, rfl, kb c H'' b2⟩)
            exact ⟨_, rfl, a', xs, m, z, rfl, hm, ht, hi, _, rfl, hsl⟩
          · have ne1 := (Bt.refl hs.src).ne nD1
            refine fun H2 q2 v2 S2 n2 e2 d2 => ?_
            have b2 := b1.grow S2
            have src2 := b2.src
            have hs2 := hs.to b2
            refine ⟨_, rfl, a, rfl, ⟨us, (hid_same p H2).seq hs2.seq⟩, fun D2 nD2 => ?_⟩
            refine lc_stamps (j := 5) hs2 nD2 (fun _ => rfl) (fun _ => rfl) (fun u d H' Qb hr' hq b kb => kb true H' (Bt.refl b.src)) (fun H3 acc3 es3 b3 e3 q3 st3 l3 => ?_)
            have c13 := b2.trans b3
            refine ⟨_, rfl, D2, acc3, rfl, SqL.of e3, fun p3 n3 => ?_⟩
            have b4 := b3.new (o := .lst (cutV acc3 none (some 1))) n3
            have e4 := @upd_same H3 p3 (.lst (cutV acc3 none (some 1)))
            have ecut : cutV acc3 none (some 1) = acc3.take 1 := by
              unfold cutV
              rw [HT.sIx_none, List.drop_zero, Nat.sub_zero, show (1 : Int) = ((1 : Nat) : Int) from rfl, HT.sIx_nat]
              rcases acc3 with _ | ⟨x, l⟩ <;> simp
            rw [ecut] at b4 e4 ⊢
            have ne2 := b2.ne nD2
            have ne3 := b3.ne n3
            have nq2 : q2 ≠ p := b1.ne n2
            generalize upd H3 p3 (.lst (acc3.take 1)) = H4 at b4 e4 ⊢
            have d14 := b2.trans b4
            have k2 : H4 q2 = some (.lst v2) := b4.at nq2 e2
            have f1 : H4 D1 = some (.lst acc1) := b4.at ne1 (S2 _ _ e1)
            have all2 : DQs K (hid p H4) v2 [.none, .tuple [.int 0, .int 0]] := (d2.to (nw_hid b1.src)).to b4.same
            have all3 : DQs K (hid p H4) (acc3.take 1) (es3.take 1) := (q3.take 1).to b4.same
            have all1 : DQs K (hid p H4) acc1 es1 := q1.to d14.same
            have few := hs.few
            have L1 := all1.len
            have L2 := all2.len
            have L3 := all3.len
            have l31 : (es3.take 1).length ≤ 1 := by
              rw [List.length_take]
              omega
            have L2' : v2.length = 2 := L2
            refine ⟨q2, p3, v2, _, rfl, rfl, k2, e4, by rw [sizeLine_eq]; omega, fun p5 n5 => ?_⟩
            have b5 := d14.new (o := .lst (v2 ++ acc3.take 1)) n5
            have c5 := (Bt.refl d14.src).new (o := .lst (v2 ++ acc3.take 1)) n5
            have e5 := @upd_same H4 p5 (.lst (v2 ++ acc3.take 1))
            have ne5 := d14.ne n5
            have f1' := c5.at ne1 f1
            have all5 := (all2.app all3).to c5.same
            have all1' := all1.to c5.same
            generalize upd H4 p5 (.lst (v2 ++ acc3.take 1)) = H5 at b5 e5 f1' all5 all1' ⊢
            refine ⟨_, rfl, _, rfl, _, rfl, D1, D1, acc1, acc1, rfl, rfl, f1', f1', by rw [sizeLine_eq]; omega, fun p6 n6 => ?_⟩
            have b6 := b5.new (o := .lst (acc1 ++ acc1)) n6
            have c6 := (Bt.refl b5.src).new (o := .lst (acc1 ++ acc1)) n6
            have e6 := @upd_same H5 p6 (.lst (acc1 ++ acc1))
            have f6 := c6.at ne1 f1'
            have k6 := c6.at ne5 e5
            generalize upd H5 p6 (.lst (acc1 ++ acc1)) = H6 at b6 c6 e6 f6 k6 ⊢
            refine ⟨_, rfl, p6, D1, _, acc1, rfl, rfl, e6, f6, by rw [List.length_append, sizeLine_eq]; omega, fun p7 n7 => ?_⟩
            have b7 := b6.new (o := .lst ((acc1 ++ acc1) ++ acc1)) n7
            have c7 := c6.new (o := .lst ((acc1 ++ acc1) ++ acc1)) n7
            have e7 := @upd_same H6 p7 (.lst ((acc1 ++ acc1) ++ acc1))
            have x7 := (Bt.refl b6.src).new (o := .lst ((acc1 ++ acc1) ++ acc1)) n7
            have k7 := x7.at ne5 k6
            generalize upd H6 p7 (.lst ((acc1 ++ acc1) ++ acc1)) = H7 at b7 c7 e7 k7 ⊢
            refine ⟨_, rfl, p7, p5, _, _, rfl, rfl, e7, k7, by rw [List.length_append, List.length_append, List.length_append, sizeLine_eq]; omega, fun p8 n8 => ?_⟩
            have b8 := b7.new (o := .lst (((acc1 ++ acc1) ++ acc1) ++ (v2 ++ acc3.take 1))) n8
            have c8 := c7.new (o := .lst (((acc1 ++ acc1) ++ acc1) ++ (v2 ++ acc3.take 1))) n8
            have ne8 := b7.ne n8
            have a1 := all1'.to c8.same
            have a5 := all5.to c8.same
            refine ⟨p, p8, _, _, rfl, b8.src, SqL.of (by rw [hid_ne ne8]; exact upd_same), ((a1.app a1).app a1).app a5, ?_, ?_, fun H9 u x hx b9 hq => (fun (z : binderD x = true ∧ NmIn (ds.map keyD) x) => k H9 u x z.1 (fun _ => z.2) (b8.trans b9) hq) ?_⟩
            · simp only [List.length_append, List.length_cons]
              omega
            · simp only [List.length_append, List.length_cons, List.length_nil]
              omega
            · have stb : ∀ e, stampD e = true ∧ NmIn (ds.map keyD) e → binderD e = true ∧ NmIn (ds.map keyD) e := fun e he => by
                refine ⟨?_, he.2⟩
                replace he := he.1
                obtain ⟨t, j, rfl, _⟩ := stamp_int he
                exact stamp_thing he
              rcases List.mem_append.mp hx with z | z
              · have z' : x ∈ es1 := by
                  rcases List.mem_append.mp z with z | z
                  · rcases List.mem_append.mp z with z | z <;> exact z
                  · exact z
                exact stb x (st1 x z')
              · rcases List.mem_append.mp z with z | z
                · rcases List.mem_cons.mp z with z | z
                  · rw [z]
                    exact ⟨rfl, nm_none _⟩
                  · rw [List.mem_singleton.mp z]
                    exact ⟨by decide +kernel, nm_root _⟩
                · exact stb x (st3 x (List.mem_of_mem_take z))
        · simp only [if_neg c3] at k
          rw [decide_eq_false c3]
          exact iteF (k H _ _ rfl (fun z => absurd z c3) (Bt.refl hs.src) .non)
end
end K1
namespace K1
open PySem L2
def kindL : List PyData := [.str "let", .str "let", .str "use", .str "use", .str "number", .str "block", .str "sum", .str "product"]
theorem kind_cont {d : PyData} (h : d ∈ kindL) : ∃ y : Str, d = .str y ∧ ∀ c, contF y c = true → contentD (.str y) c = true := by
  have go : ∀ y : Str, (y = "let" ∨ y = "use" ∨ y = "number" ∨ holdsD (.str y) = true) → ∀ c, contF y c = true → contentD (.str y) c = true := fun y hy c hc => by
    unfold contF at hc
    show (if y = "let" then nameD c else if y = "use" then binderD c else if y = "number" then fromD 0 99 c else holdsD (.str y) && noneD c) = true
    by_cases c1 : y = "let"
    · rw [if_pos c1] at hc ⊢
      exact hc
    · rw [if_neg c1] at hc ⊢
      by_cases c2 : y = "use"
      · rw [if_pos c2]
        have n : ¬ y = "number" := by
          rw [c2]
          decide +kernel
        rw [if_neg n, if_pos c2] at hc
        exact hc
      · rw [if_neg c2]
        by_cases c3 : y = "number"
        · rw [if_pos c3] at hc ⊢
          exact hc
        · rw [if_neg c3] at hc ⊢
          rw [if_neg c2] at hc
          rw [hc, Bool.and_true]
          rcases hy with z | z | z | z
          · exact absurd z c1
          · exact absurd z c2
          · exact absurd z c3
          · exact z
  have each : ∀ d ∈ kindL, ∃ y : Str, d = .str y ∧ (y = "let" ∨ y = "use" ∨ y = "number" ∨ holdsD (.str y) = true) := fun d h => by
    unfold kindL at h
    simp only [List.mem_cons, List.not_mem_nil, or_false] at h
    rcases h with z | z | z | z | z | z | z | z
    · exact ⟨_, z, .inl rfl⟩
    · exact ⟨_, z, .inl rfl⟩
    · exact ⟨_, z, .inr (.inl rfl)⟩
    · exact ⟨_, z, .inr (.inl rfl)⟩
    · exact ⟨_, z, .inr (.inr (.inl rfl))⟩
    · exact ⟨_, z, .inr (.inr (.inr (by decide +kernel)))⟩
    · exact ⟨_, z, .inr (.inr (.inr (by decide +kernel)))⟩
    · exact ⟨_, z, .inr (.inr (.inr (by decide +kernel)))⟩
  obtain ⟨y, e, hy⟩ := each d h
  exact ⟨y, e, go y hy⟩
def spMadeBody (K : PySem.W.Frag) : Sp := fun vs H Q _ => ∃ p a us ds, vs = [.ref p, .ref a] ∧ Some K p H a us ds ∧ ∀ H' u x l, bodyR x l = true → (∀ k ∈ keysOf (namedD x l), k ∈ ds.map keyD) → Bt p H H' → DQ K (hid p H') u (.tuple (.str x :: l)) → Q u H'
/-- what is named is in S -/
theorem keys_in {S : List (List Int)} {l : List PyData} (h : ∀ c ∈ l, NmIn S c) : ∀ k ∈ keysOf l, k ∈ S := fun k hk => by
  obtain ⟨c, hc, e⟩ := List.mem_filterMap.mp hk
  exact h c hc k e
theorem make_names {S : List (List Int)} {y : Str} {x6 x8 x9 : PyData} (h6 : NmIn S x6) (h9 : y = "use" → NmIn S x9) : ∀ k ∈ keysOf (namedD "make" [.str y, x6, x8, x9]), k ∈ S := by
  refine keys_in fun c hc => ?_
  have e : namedD "make" [.str y, x6, x8, x9] = if isUse (.str y) = true then [x6, x9] else [x6] := rfl
  rw [e] at hc
  by_cases u : isUse (.str y) = true
  · rw [if_pos u] at hc
    have hy : y = "use" := of_decide_eq_true u
    rcases List.mem_cons.mp hc with z | z
    · rw [z]
      exact h6
    · rw [List.mem_singleton.mp z]
      exact h9 hy
  · rw [if_neg u] at hc
    rw [List.mem_singleton.mp hc]
    exact h6
section
variable {P : Program} {w : World} {K : PySem.W.Frag} {mg : Str → Option Value} {base : Heap}
theorem sc_made : FnScope ["_law_source", "_law_some", "_law_kind", "_law_under"] ["_law_source", "_law_some"] (defScope (top 70)) := ⟨rfl, rfl, rfl, by decide +kernel, rfl, by decide +kernel, by decide +kernel⟩
theorem cl_made (T : All K mg) (M : Nms mg) : Cl P w K mg base 4 "_law_made_body" ["_law_source", "_law_some"] (spMadeBody K) := by
  obtain ⟨g, fd, D⟩ := T.dn 70 _ _ rfl
  refine D.cl (D.fn.ok sc_made (fun vs H Q E h => ?_) (fun cdv A outer s H vs Q E hr h => ?_))
  · obtain ⟨p, a, us, ds, rfl, _⟩ := h
    rfl
  · obtain ⟨p, a, us, ds, rfl, hs, k⟩ := h
    refine ⟨_, (pss_cons (ps_set (i := 2) sc_made.nd rfl (Or.inl rfl) (pe_cl (cl_one T M) hr (by decide) (pa_cons (pv 0) (pa_cons (li_list (ds := [.str "let", .str "let", .str "use", .str "use", .str "number", .str "block", .str "sum", .str "product"]) (las_cons (li_str (by decide +kernel)) (las_cons (li_str (by decide +kernel)) (las_cons (li_str (by decide +kernel)) (las_cons (li_str (by decide +kernel)) (las_cons (li_str (by decide +kernel)) (las_cons (li_str (by decide +kernel)) (las_cons (li_str (by decide +kernel)) (las_cons (li_str (by decide +kernel)) las_nil)))))))) (by decide)) pa_nil))))
      (pss_cons (ps_set (i := 3) sc_made.nd rfl (Or.inl rfl) (pe_cl (cl_one T M) hr (by decide) (pa_cons (pv 0) (pa_cons (pe_op op_cat (pe_cl (cl_holders T) hr (by decide) (pa_cons (pv 1) pa_nil)) (li_list (ds := [.tuple [.int 0, .int 0]]) (las_cons (li_tup (las_cons li_int (las_cons li_int las_nil)) (by decide)) las_nil) (by decide))) pa_nil))))
      (pss_one (ps_ret (pe_tup (pa_cons pe_str (pa_cons (pv 2) (pa_cons (pv 3) (pa_cons (pe_cl (cl_one T M) hr (by decide) (pa_cons (pv 0) (pa_cons (li_list (ds := [.int 0, .int 1, .int 2, .int 2, .int 5, .int 999]) (las_cons li_int (las_cons li_int (las_cons li_int (las_cons li_int (las_cons li_int (las_cons li_int las_nil)))))) (by decide)) pa_nil))) (pa_cons (pe_cl (cl_content T M) hr (by decide) (pa_cons (pv 0) (pa_cons (pv 2) (pa_cons (pv 1) pa_nil)))) pa_nil)))))))))), ?_⟩
    refine ⟨_, rfl, fun H1 q1 v1 S1 n1 e1 d1 => one_lit (E := E0) hs.src S1 n1 e1 d1 (by decide) (by decide) fun H2 uk dk hk b2 qk => ?_⟩
    obtain ⟨y, rfl, hc⟩ := kind_cont hk
    cases qk
    refine ⟨_, rfl, _, rfl, p, a, us, ds, rfl, hs.to b2, fun H3 q3 v3 es3 b3 l3 h3 h30 h31 => fun H4 q4 v4 S4 n4 e4 d4 => ?_⟩
    have b34 := b3.grow S4
    have c4 := (Bt.refl b3.src).grow S4
    have f3 : H4 q3 = some (.lst v3) := S4 _ _ l3.at_
    have a3 := l3.all.to c4.same
    have a4 := d4.to (nw_hid (H' := H4) b3.src)
    have few := hs.few
    have L3 := a3.len
    have L4 : v4.length = 1 := d4.len
    refine ⟨q3, q4, v3, v4, rfl, rfl, f3, e4, by rw [sizeLine_eq]; omega, fun q5 n5 => ?_⟩
    have b5 := b34.new (o := .lst (v3 ++ v4)) n5
    have c5 := (Bt.refl b34.src).new (o := .lst (v3 ++ v4)) n5
    have ne5 := b34.ne n5
    refine ⟨p, q5, _, _, rfl, b5.src, SqL.of (by rw [hid_ne ne5]; exact upd_same), (a3.app a4).to c5.same, by rw [List.length_append]; exact Nat.lt_of_lt_of_le h30 (Nat.le_add_right _ _), by rw [List.length_append]; show es3.length + 1 < _; omega, fun H6 u6 x6 hx6 b6 q6 => ?_⟩
    obtain ⟨hth, hnm⟩ : thingD x6 = true ∧ NmIn (ds.map keyD) x6 := by
      rcases List.mem_append.mp hx6 with z | z
      · exact h3 x6 z
      · rw [List.mem_singleton.mp z]
        exact ⟨by decide +kernel, nm_root _⟩
    have b26 := b5.trans b6
    have bH6 := b2.trans b26
    refine ⟨_, rfl, _, rfl, _, rfl, fun H7 q7 v7 S7 n7 e7 d7 => one_lit (E := E0) b26.src S7 n7 e7 d7 (by decide) (by decide) fun H8 u8 x8 hx8 b8 q8 => ?_⟩
    have bH8 := bH6.trans b8
    have hkey : fromD 0 999 x8 = true := List.all_eq_true.mp (show ([.int 0, .int 1, .int 2, .int 2, .int 5, .int 999] : List PyData).all (fromD 0 999) = true by decide +kernel) x8 hx8
    refine ⟨_, rfl, _, rfl, _, rfl, p, y, a, us, ds, rfl, hs.to bH8, fun H9 u9 x9 hx9 hn9 b9 q9 => ⟨(by show 5 ≤ sizeLine; rw [sizeLine_eq]; decide), fun q10 n10 => ?_⟩⟩
    have b10 := (bH8.trans b9).new (o := .tup [.str "make", .str y, u6, u8, u9]) n10
    have c10 := (Bt.refl b9.src).new (o := .tup [.str "make", .str y, u6, u8, u9]) n10
    have ne10 := b9.ne n10
    refine k _ _ "make" [.str y, x6, x8, x9] ?_ ?_ b10 (.tup (.inl (.inl (by rw [hid_ne ne10]; exact upd_same))) (.cons (.str _ (by decide +kernel)) (.cons (.str _ ?_) (.cons ((q6.to b8.same).to (b9.same.trans c10.same)) (.cons (q8.to (b9.same.trans c10.same)) (.cons (q9.to c10.same) .nil))))))
    · show makeR [.str y, x6, x8, x9] = true
      show (thingD x6 && (fromD 0 999 x8 && contentD (.str y) x9)) = true
      rw [hth, hkey, hc x9 hx9]
      rfl
    · exact make_names hnm hn9
    · assumption
end
end K1
namespace K1
open PySem L2
/-- a comprehension of some of the deeds themselves: those of which R is known -/
theorem lc_deeds {K : PySem.W.Frag} {p a : Addr} {us : List V} {ds : List PyData} {tt : TT} {j : Nat} {σ : St} {H3 : Hp} {D : Addr} {Qd : Hp → Prop} (R : PyData → Prop) (s3 : Some K p H3 a us ds) (nD : H3 D = none) (hw : ∀ x, wipe ((wipe σ [j]).set j (some x)) [j] = wipe σ [j])
    (hget : ∀ u, ((wipe σ [j]).set j (some u))[j]? = some (some u))
    (ht : ∀ (u : V) (d : PyData) (H' : Hp) (Qb : Bool → Hp → Prop), deedD d = true → DQ K (hid p H3) u d → Bt p H3 H' → (∀ b H'', Bt p H' H'' → (b = true → R d) → Qb b H'') → tt ((wipe σ [j]).set j (some u)) H' Qb)
    (hd : ∀ H' acc es, Bt p H3 H' → H' D = some (.lst acc) → DQs K (hid p H3) acc es → (∀ e ∈ es, e ∈ ds ∧ R e) → es.length ≤ ds.length → Qd H') :
    ∃ W : Nat → Nat → Hp → Prop, (∃ m, W 0 m (upd H3 D (.lst []))) ∧ ∀ i m H, W i m H →
      ((Itl K a).stop i H ∧ Qd H) ∨ ((Itl K a).go i H ∧ ∃ Nx : Hp → Prop, (∀ H', Nx H' → ∃ m', m' < m ∧ W (i + 1) m' H') ∧ ∀ x H', (Itl K a).yld i H x H' → (gName j) x (wipe σ [j]) H' fun σ2 H2 => wipe σ2 [j] = wipe σ [j] ∧ tt σ2 H2 fun b H3 =>
        if b = true then (tVar j) σ2 H3 fun y H4 => ∃ acc, H4 D = some (.lst acc) ∧ acc.length < sizeLine ∧ Nx (upd H4 D (.lst (acc ++ [y]))) else Nx H3) := by
  have b3 := Bt.refl s3.src
  have neD := b3.ne nD
  refine lc_list (K := K) (a := a) (xs := us) (fun i H' => Bt p H3 H' ∧ ∃ acc es, H' D = some (.lst acc) ∧ DQs K (hid p H3) acc es ∧ (∀ e ∈ es, e ∈ ds ∧ R e) ∧ es.length ≤ i) ⟨b3.new nD, [], [], upd_same, .nil, fun e he => absurd he List.not_mem_nil, Nat.le_refl _⟩
    (fun i H' _ ⟨b, _⟩ => (hid_same p H').seq (b.same.seq s3.seq)) ?_ (fun H' ⟨b, acc, es, h1, h2, h3, h4⟩ => hd H' acc es b h1 h2 h3 (by rw [← s3.all.len]; exact h4))
  rintro i u H' hu ⟨b, acc, es, hl, hes, hth, hlen⟩
  obtain ⟨d, hdi, hq⟩ := s3.all.at hu
  have hi := (List.getElem?_eq_some_iff.mp hu).1
  have lu := s3.all.len
  have hf := s3.few
  have hm := List.mem_of_getElem? hdi
  refine ⟨hw u, ht u d H' _ (s3.right d hm) hq b fun b' H'' b2 hR => ?_⟩
  have b13 := b.trans b2
  have hl2 := b2.at neD hl
  refine ite2 (fun e => ?_) (fun _ => ⟨b13, acc, es, hl2, hes, hth, Nat.le_succ_of_le hlen⟩)
  refine ⟨_, hget _, acc, hl2, by rw [hes.len, sizeLine_eq]; omega, b13.over nD neD, _, es ++ [d], upd_same, hes.app (.cons hq .nil), fun x hx => ?_, by rw [List.length_append]; exact Nat.succ_le_succ hlen⟩
  rcases List.mem_append.mp hx with z | z
  · exact hth x z
  · rw [List.mem_singleton.mp z]
    exact ⟨hm, hR e⟩
/-- a make -/
def IsMake (d : PyData) : Prop := ∃ s k l, d = .tuple [s, k, .tuple (.str "make" :: l)]
/-- a list of right deeds is one again, what was made of it stands beside the source -/
theorem Some.sub {K : PySem.W.Frag} {p D : Addr} {H H' : Hp} {acc : List V} {ds es : List PyData} (b : Bt p H H') (nD : H D = none) (ne : D ≠ p) (h : H' D = some (.lst acc)) (hes : DQs K (hid p H) acc es) (sub : ∀ e ∈ es, deedD e = true) (few : es.length ≤ 30) : Some K p H' D acc es :=
  ⟨b.src, SqL.of (by rw [hid_ne ne]; exact h), hes.to b.same, sub, few⟩
end K1
namespace K1
open PySem L2
def wordL : List PyData := [.str "make", .str "make", .str "make", .str "make", .str "move", .str "move", .str "drop", .str "wish", .str "point", .str "set", .str "undo", .str "redo"]
/-- the stamps of all deeds -/
theorem lc_stampsA {K : PySem.W.Frag} {p a : Addr} {us : List V} {ds : List PyData} {j : Nat} {σ : St} {H3 : Hp} {D : Addr} {Qd : Hp → Prop} (s3 : Some K p H3 a us ds) (nD : H3 D = none) (hw : ∀ x, wipe ((wipe σ [j]).set j (some x)) [j] = wipe σ [j])
    (hget : ∀ u, ((wipe σ [j]).set j (some u))[j]? = some (some u))
    (hd : ∀ H' acc es, Bt p H3 H' → H' D = some (.lst acc) → DQs K (hid p H3) acc es → (∀ e ∈ es, stampD e = true ∧ NmIn (ds.map keyD) e) → es.length = ds.length → Qd H') :
    ∃ W : Nat → Nat → Hp → Prop, (∃ m, W 0 m (upd H3 D (.lst []))) ∧ ∀ i m H, W i m H →
      ((Itl K a).stop i H ∧ Qd H) ∨ ((Itl K a).go i H ∧ ∃ Nx : Hp → Prop, (∀ H', Nx H' → ∃ m', m' < m ∧ W (i + 1) m' H') ∧ ∀ x H', (Itl K a).yld i H x H' → (gName j) x (wipe σ [j]) H' fun σ2 H2 => wipe σ2 [j] = wipe σ [j] ∧ tYes σ2 H2 fun b H3 =>
        if b = true then (tOp (rIxT K) (tVar j) (tC (.int 0))) σ2 H3 fun y H4 => ∃ acc, H4 D = some (.lst acc) ∧ acc.length < sizeLine ∧ Nx (upd H4 D (.lst (acc ++ [y]))) else Nx H3) := by
  have b3 := Bt.refl s3.src
  have neD := b3.ne nD
  refine lc_list (K := K) (a := a) (xs := us) (fun i H' => Bt p H3 H' ∧ ∃ acc es, H' D = some (.lst acc) ∧ DQs K (hid p H3) acc es ∧ (∀ e ∈ es, stampD e = true ∧ NmIn (ds.map keyD) e) ∧ es.length = i) ⟨b3.new nD, [], [], upd_same, .nil, fun e he => absurd he List.not_mem_nil, rfl⟩
    (fun i H' _ ⟨b, _⟩ => (hid_same p H').seq (b.same.seq s3.seq)) ?_ (fun H' ⟨b, acc, es, h1, h2, h3, h4⟩ => hd H' acc es b h1 h2 h3 (by rw [← s3.all.len]; exact h4))
  rintro i u H' hu ⟨b, acc, es, hl, hes, hth, hlen⟩
  obtain ⟨d, hdi, hq⟩ := s3.all.at hu
  have hi := (List.getElem?_eq_some_iff.mp hu).1
  have lu := s3.all.len
  have hf := s3.few
  have hr := s3.right d (List.mem_of_getElem? hdi)
  obtain ⟨ad, xs, uS, uB, sd, kd, x, l, rfl, ht', i0, i2, qs, st, qb, hb, ed⟩ := deed_parts hq hr
  refine ⟨hw _, ?_⟩
  unfold tYes
  dsimp only
  rw [if_pos rfl]
  refine ⟨_, hget _, ad, xs, _, _, rfl, rfl, K0.seqT_same (b.same.trans (hid_same p H')) ht', i0, acc, hl, by rw [hes.len, sizeLine_eq]; omega, b.over nD neD, _, es ++ [sd], upd_same, hes.app (.cons qs .nil), fun e he => ?_, by rw [List.length_append, hlen]; rfl⟩
  rcases List.mem_append.mp he with z | z
  · exact hth e z
  · rw [List.mem_singleton.mp z]
    exact ⟨st, nm_stamp (List.mem_of_getElem? hdi) ed st⟩
theorem nm_other {S : List (List Int)} {x : Str} {l : List PyData} (c1 : ¬ x = "make") (h1 : ∀ c ∈ l.take 1, NmIn S c) (h2 : x = "move" ∨ x = "point" → ∀ c ∈ l.take 2, NmIn S c) : ∀ k ∈ keysOf (namedD x l), k ∈ S := by
  refine keys_in fun c hc => ?_
  unfold namedD at hc
  rw [if_neg c1] at hc
  match l, h1, h2, hc with
  | [], _, _, hc => exact absurd hc List.not_mem_nil
  | [a], h1, _, hc => exact h1 c hc
  | a :: b :: r, h1, h2, hc =>
    have hc' : c ∈ (if x = "move" ∨ x = "point" then [a, b] else [a]) := hc
    by_cases e : x = "move" ∨ x = "point"
    · rw [if_pos e] at hc'
      exact h2 e c hc'
    · rw [if_neg e] at hc'
      exact h1 c hc'
theorem nm_one {S : List (List Int)} {x : Str} {a : PyData} (c1 : ¬ x = "make") (h : NmIn S a) : ∀ k ∈ keysOf (namedD x [a]), k ∈ S :=
  nm_other c1 (fun c hc => by rw [List.mem_singleton.mp hc]; exact h) fun _ c hc => by rw [List.mem_singleton.mp hc]; exact h
theorem nm_two {S : List (List Int)} {x : Str} {a b : PyData} {r : List PyData} (c1 : ¬ x = "make") (h : NmIn S a) (h2 : x = "move" ∨ x = "point" → NmIn S b) : ∀ k ∈ keysOf (namedD x (a :: b :: r)), k ∈ S :=
  nm_other c1 (fun c hc => by rw [List.mem_singleton.mp hc]; exact h) fun e c hc => by
    rcases List.mem_cons.mp hc with z | z
    · rw [z]
      exact h
    · rw [List.mem_singleton.mp z]
      exact h2 e
theorem use_of {x y : Str} (c4 : ¬ x = "move") (hy : (x = "wish" ∧ y = "let") ∨ (x = "point" ∧ y = "use") ∨ (x = "set" ∧ y = "number")) (hm : x = "move" ∨ x = "point") : y = "use" := by
  rcases hm with z | z
  · exact absurd z c4
  · rcases hy with ⟨z1, _⟩ | ⟨_, z2⟩ | ⟨z1, _⟩
    · exact absurd (z.symm.trans z1) (by decide +kernel)
    · exact z2
    · exact absurd (z.symm.trans z1) (by decide +kernel)
theorem word_of {d : PyData} (h : d ∈ wordL) : ∃ x : Str, d = .str x ∧ (x = "make" ∨ x = "undo" ∨ x = "redo" ∨ x = "move" ∨ x = "drop" ∨ x = "wish" ∨ x = "point" ∨ x = "set") := by
  unfold wordL at h
  simp only [List.mem_cons, List.not_mem_nil, or_false] at h
  rcases h with z | z | z | z | z | z | z | z | z | z | z | z
  all_goals exact ⟨_, z, by simp⟩
section
variable {P : Program} {w : World} {K : PySem.W.Frag} {mg : Str → Option Value} {base : Heap}
theorem sc_lbody : FnScope [("_law_source" : Str), ("_law_some" : Str), ("_law_makes" : Str), ("_law_words" : Str), ("_law_word" : Str), ("_law_kind" : Str), ("_law_things" : Str), ("_law_odd" : Str), ("_law_thing" : Str), ("_law_under" : Str), ("_law_deed" : Str)] ["_law_source", "_law_some"] (defScope (top 71)) := ⟨rfl, rfl, rfl, by decide +kernel, rfl, by decide +kernel, by decide +kernel⟩
theorem cl_lbody (T : All K mg) (M : Nms mg) : Cl P w K mg base 5 "_law_body" ["_law_source", "_law_some"] (spMadeBody K) := by
  obtain ⟨g, fd, D⟩ := T.dn 71 _ _ rfl
  refine D.cl (D.fn.ok sc_lbody (fun vs H Q E h => ?_) (fun cdv A outer s H vs Q E hr h => ?_))
  · obtain ⟨p, a, us, ds, rfl, _⟩ := h
    rfl
  · obtain ⟨p, a, us, ds, rfl, hs, k⟩ := h
    refine ⟨_, (pss_cons (ps_setLc (i := 2) (own := [("_law_deed", 10)]) (g := gName 10) (te := tVar 10) (tt := tTest (tOp rEq (tOp (rIxT K) (tOp (rIxT K) (tVar 10) (tC (.int 2))) (tC (.int 0))) (tC (.str "make")))) rfl sc_lbody.nd rfl rfl (sw_true rfl rfl rfl (by decide +kernel)) (pi_list (pv 1)) (blkOk_by (own := [("_law_deed", 10)]) (N := [("_law_source" : Str), ("_law_some" : Str), ("_law_makes" : Str), ("_law_words" : Str), ("_law_word" : Str), ("_law_kind" : Str), ("_law_things" : Str), ("_law_odd" : Str), ("_law_thing" : Str), ("_law_under" : Str), ("_law_deed" : Str)]) (sc := defScope (top 71)) (by decide +kernel)) (fun _ _ _ _ _ => pg_name (i := 10) sc_lbody.nd rfl (Or.inl rfl)) (fun _ _ _ _ _ => pts_one (pt_cmpR op_eq (pe_ix ix_tup (pe_ix ix_tup (pv 10) pe_int (fun _ _ => rfl)) pe_int (fun _ _ => rfl)) pe_str (nomark _))) (fun _ _ _ _ _ => pv 10))
      (pss_cons (ps_set (i := 3) sc_lbody.nd rfl (Or.inl rfl) (li_list (ds := wordL) (las_cons (li_str (by decide +kernel)) (las_cons (li_str (by decide +kernel)) (las_cons (li_str (by decide +kernel)) (las_cons (li_str (by decide +kernel)) (las_cons (li_str (by decide +kernel)) (las_cons (li_str (by decide +kernel)) (las_cons (li_str (by decide +kernel)) (las_cons (li_str (by decide +kernel)) (las_cons (li_str (by decide +kernel)) (las_cons (li_str (by decide +kernel)) (las_cons (li_str (by decide +kernel)) (las_cons (li_str (by decide +kernel)) las_nil)))))))))))) (by decide)))
      (pss_cons (ps_set (i := 4) sc_lbody.nd rfl (Or.inl rfl) (pe_cl (cl_one T M) hr (by decide) (pa_cons (pv 0) (pa_cons (pv 3) pa_nil))))
      (pss_cons (ps_if (PW.pt (pw_or (pt_cmpR op_eq (pv 4) pe_str (nomark _)) (pw_or1 (pt_cmpR (op_eqE hr.units) (pv 2) (pe_lst pa_nil) (nomark _))))) (pss_one (ps_ret (pe_cl (cl_made T M) hr (by decide) (pa_cons (pv 0) (pa_cons (pv 1) pa_nil))))) pss_nil)
      (pss_cons (ps_if (pt_cmpR op_in_seq (pv 4) (pe_lst (pa_cons pe_str (pa_cons pe_str pa_nil))) rfl) (pss_one (ps_ret (pe_tup (pa_cons (pv 4) (pa_cons (pe_cl (cl_one T M) hr (by decide) (pa_cons (pv 0) (pa_cons (pe_lc (own := [("_law_deed", 10)]) (g := gName 10) (te := tOp (rIxT K) (tVar 10) (tC (.int 0))) (tt := tYes) rfl sc_lbody.nd (pi_list (pv 1)) (blkOk_by (own := [("_law_deed", 10)]) (N := [("_law_source" : Str), ("_law_some" : Str), ("_law_makes" : Str), ("_law_words" : Str), ("_law_word" : Str), ("_law_kind" : Str), ("_law_things" : Str), ("_law_odd" : Str), ("_law_thing" : Str), ("_law_under" : Str), ("_law_deed" : Str)]) (sc := defScope (top 71)) (by decide +kernel)) (fun _ _ _ _ _ => pg_name (i := 10) sc_lbody.nd rfl (Or.inl rfl)) (fun _ _ _ _ _ => pts_nil) (fun _ _ _ _ _ => (pe_ix ix_tup (pv 10) pe_int (fun _ _ => rfl)))) pa_nil))) pa_nil))))) pss_nil)
      (pss_cons (ps_set (i := 5) sc_lbody.nd rfl (Or.inr rfl) (pe_dget2 (hu_of hr) (pe_disp (pps_cons pe_str pe_str (pps_cons pe_str pe_str (pps_cons pe_str pe_str pps_nil))) (by rfl) (by rfl) (fun z => by cases z) (by decide)) (pv 4) pe_non ⟨by rfl, by rfl, by rfl, by rfl⟩))
      (pss_cons (ps_setLc (i := 6) (own := [("_law_deed", 10)]) (g := gName 10) (te := tOp (rIxT K) (tVar 10) (tC (.int 0))) (tt := tOr (tTest (tOp rIsN (tVar 5) (tC .non))) (tTest (tOp rEq (tOp (rIxT K) (tOp (rIxT K) (tVar 10) (tC (.int 2))) (tC (.int 1))) (tVar 5)))) rfl sc_lbody.nd rfl rfl (sw_true rfl rfl rfl (by decide +kernel)) (pi_list (pv 2)) (blkOk_by (own := [("_law_deed", 10)]) (N := [("_law_source" : Str), ("_law_some" : Str), ("_law_makes" : Str), ("_law_words" : Str), ("_law_word" : Str), ("_law_kind" : Str), ("_law_things" : Str), ("_law_odd" : Str), ("_law_thing" : Str), ("_law_under" : Str), ("_law_deed" : Str)]) (sc := defScope (top 71)) (by decide +kernel)) (fun _ _ _ _ _ => pg_name (i := 10) sc_lbody.nd rfl (Or.inl rfl)) (fun _ _ _ _ _ => pts_one (PW.pt (pw_or (pt_cmpR op_isN1 (pv 5) pe_non (nomark _)) (pw_or1 (pt_cmpR op_eq (pe_ix ix_tup (pe_ix ix_tup (pv 10) pe_int (fun _ _ => rfl)) pe_int (fun _ _ => rfl)) (pv 5) (nomark _)))))) (fun _ _ _ _ _ => (pe_ix ix_tup (pv 10) pe_int (fun _ _ => rfl))))
      (pss_cons (ps_set (i := 7) sc_lbody.nd rfl (Or.inl rfl) (pe_op op_cat (li_list (ds := [.tuple [.int 0, .int 0]]) (las_cons (li_tup (las_cons li_int (las_cons li_int las_nil)) (by decide)) las_nil) (by decide)) (pe_lc (own := [("_law_deed", 10)]) (g := gName 10) (te := tOp (rIxT K) (tVar 10) (tC (.int 0))) (tt := tYes) rfl sc_lbody.nd (pi_list (pv 1)) (blkOk_by (own := [("_law_deed", 10)]) (N := [("_law_source" : Str), ("_law_some" : Str), ("_law_makes" : Str), ("_law_words" : Str), ("_law_word" : Str), ("_law_kind" : Str), ("_law_things" : Str), ("_law_odd" : Str), ("_law_thing" : Str), ("_law_under" : Str), ("_law_deed" : Str)]) (sc := defScope (top 71)) (by decide +kernel)) (fun _ _ _ _ _ => pg_name (i := 10) sc_lbody.nd rfl (Or.inl rfl)) (fun _ _ _ _ _ => pts_nil) (fun _ _ _ _ _ => (pe_ix ix_tup (pv 10) pe_int (fun _ _ => rfl))))))
      (pss_cons (ps_set (i := 8) sc_lbody.nd rfl (Or.inl rfl) (pe_cl (cl_one T M) hr (by decide) (pa_cons (pv 0) (pa_cons (pe_ifExp (PW.pt (pw_and (pt_cmpR (op_neE hr.units) (pv 6) (pe_lst pa_nil) (nomark _)) (pw_and1 (pt_cmpR op_gt (pe_cl (cl_takeB T M) hr (by decide) (pa_cons (pv 0) (pa_cons pe_int pa_nil))) pe_int (nomark _))))) (pv 6) (pv 7)) pa_nil))))
      (pss_cons (ps_if (pt_cmpR op_eq (pv 4) pe_str (nomark _)) (pss_one (ps_ret (pe_tup (pa_cons (pv 4) (pa_cons (pv 8) pa_nil))))) pss_nil)
      (pss_cons (ps_if (pt_cmpR op_eq (pv 4) pe_str (nomark _)) (pss_cons (ps_set (i := 9) sc_lbody.nd rfl (Or.inl rfl) (pe_cl (cl_one T M) hr (by decide) (pa_cons (pv 0) (pa_cons (pe_ifExp (pt_cmpR op_gt (pe_cl (cl_takeB T M) hr (by decide) (pa_cons (pv 0) (pa_cons pe_int pa_nil))) pe_int (nomark _)) (pe_cl (cl_holders T) hr (by decide) (pa_cons (pv 1) pa_nil)) (pv 7)) pa_nil))))
      (pss_one (ps_ret (pe_tup (pa_cons (pv 4) (pa_cons (pv 8) (pa_cons (pv 9) (pa_cons (pe_cl (cl_one T M) hr (by decide) (pa_cons (pv 0) (pa_cons (li_list (ds := [.int 0, .int 1, .int 2, .int 5, .int 999]) (las_cons li_int (las_cons li_int (las_cons li_int (las_cons li_int (las_cons li_int las_nil))))) (by decide)) pa_nil))) pa_nil)))))))) pss_nil)
      (pss_one (ps_ret (pe_tup (pa_cons (pv 4) (pa_cons (pv 8) (pa_cons (pe_cl (cl_content T M) hr (by decide) (pa_cons (pv 0) (pa_cons (pv 5) (pa_cons (pv 1) pa_nil)))) pa_nil))))))))))))))))), ?_⟩
    have few := hs.few
    refine ⟨_, rfl, a, rfl, ⟨us, (hid_same p H).seq hs.seq⟩, fun D1 nD1 => ?_⟩
    refine lc_deeds (j := 10) IsMake hs nD1 (fun _ => rfl) (fun _ => rfl) (fun u d H' Qb hr' hq b kb => ?_) (fun H1 acc1 es1 b1 e1 q1 st1 l1 => ?_)
    · obtain ⟨ad, xs, uS, uB, sd, kd, x, l, rfl, ht, i0, i2, qs, st, qb, hb, ed⟩ := deed_parts hq hr'
      have Sv := b.same.trans (hid_same p H')
      obtain ⟨ab, ys, u0, rfl, hy, j0, qx⟩ := (qb.to Sv).item (i := 0) rfl
      cases qx
      refine ⟨_, rfl, ad, xs, _, _, rfl, rfl, K0.seqT_same Sv ht, i2, ab, ys, _, _, rfl, rfl, hy, j0, rfl, _, rfl, kb _ H' (Bt.refl b.src) fun e => ?_⟩
      rw [dec_str, decide_eq_true_eq] at e
      subst e
      exact ⟨_, _, _, ed⟩
    · have ne1 := (Bt.refl hs.src).ne nD1
      have mk1 : Some K p H1 D1 acc1 es1 := Some.sub (ds := ds) b1 nD1 ne1 e1 q1 (fun e he => hs.right e (st1 e he).1) (by omega)
      refine fun H2 q2 v2 S2 n2 e2 d2 => ?_
      have b2 := b1.grow S2
      have ne2 := b1.ne n2
      refine ⟨_, rfl, _, rfl, p, q2, v2, wordL, rfl, b2.src, SqL.of (by rw [hid_ne ne2]; exact e2), d2.to (nw_hid b1.src), by decide, by decide, fun H3 u3 d3 hx b3 q3 => ?_⟩
      obtain ⟨x, rfl, hw⟩ := word_of hx
      cases q3
      have bH3 := b2.trans b3
      have made : ∀ J, Bt p H J → ∀ (Dn : Ends), Dn.rt = Q → ∃ p' a' us' ds', [V.ref p, V.ref a] = [.ref p', .ref a'] ∧ Some K p' J a' us' ds' ∧ ∀ H' u x l, bodyR x l = true → (∀ k ∈ keysOf (namedD x l), k ∈ ds'.map keyD) → Bt p' J H' → DQ K (hid p' H') u (.tuple (.str x :: l)) → Dn.rt u H' := fun J bJ Dn hD =>
        ⟨p, a, us, ds, rfl, hs.to bJ, fun H' u x l hb hn b q => by rw [hD]; exact k H' u x l hb hn (bJ.trans b) q⟩
      refine ⟨_, rfl, rfl, _, rfl, ?_⟩
      rw [dec_str]
      by_cases c1 : x = "make"
      · rw [decide_eq_true c1]
        exact iteT (iteT ⟨_, rfl, _, rfl, made H3 bH3 _ rfl⟩)
      · rw [decide_eq_false c1]
        have f3 : H3 D1 = some (.lst acc1) := b3.at ne1 (S2 _ _ e1)
        refine iteF ⟨_, rfl, Nat.zero_le _, fun q4 n4 => ⟨D1, q4, acc1, rfl, rfl, .inl ⟨SqL.of ((upd_ne (ne_of_none f3 n4)).trans f3), SqL.of upd_same⟩, _, rfl, ?_⟩⟩
        have b4 := bH3.new (o := .lst []) n4
        have f4 : upd H3 q4 (.lst []) D1 = some (.lst acc1) := (upd_ne (ne_of_none f3 n4)).trans f3
        have mk4 := (mk1.to (Bt.refl b1.src |>.grow S2)).to b3
        have c34 := (Bt.refl b3.src).new (o := .lst []) n4
        have mk5 := mk4.to c34
        generalize upd H3 q4 (.lst []) = H4 at b4 f4 mk5 ⊢
        cases em : acc1.isEmpty with
        | true => exact iteT ⟨_, rfl, _, rfl, made H4 b4 _ rfl⟩
        | false =>
          have pos : 0 < ds.length := by
            have z : acc1 ≠ [] := fun z => by
              rw [z] at em
              cases em
            have y := mk5.all.len
            have := List.length_pos_iff.mpr z
            omega
          refine iteF ⟨_, rfl, (by show 2 ≤ sizeLine; rw [sizeLine_eq]; decide), fun q5 n5 => ⟨q5, _, rfl, .inl (SqL.of upd_same), rfl, rfl, _, rfl, ?_⟩⟩
          have b5 := b4.new (o := .lst [.str "undo", .str "redo"]) n5
          have mk6 := mk5.to ((Bt.refl b4.src).new (o := .lst [.str "undo", .str "redo"]) n5)
          generalize upd H4 q5 (.lst [.str "undo", .str "redo"]) = H5 at b5 mk6 ⊢
          have hs5 := hs.to b5
          show if inV (.str x) _ = true then _ else _
          rw [in_marks]
          by_cases c2 : x = "undo" ∨ x = "redo"
          · rw [decide_eq_true c2]
            refine iteT ⟨_, rfl, _, rfl, _, rfl, a, rfl, ⟨us, (hid_same p H5).seq hs5.seq⟩, fun D2 nD2 => ?_⟩
            refine lc_stampsA (j := 10) hs5 nD2 (fun _ => rfl) (fun _ => rfl) (fun H6 acc6 es6 b6 e6 q6 st6 l6 => ?_)
            have ne6 := b5.ne nD2
            refine ⟨p, D2, acc6, es6, rfl, b6.src, SqL.of (by rw [hid_ne ne6]; exact e6), q6.to b6.same, by omega, by omega, fun H7 u7 d7 h7 b7 q7 => ⟨(by show 2 ≤ sizeLine; rw [sizeLine_eq]; decide), fun q8 n8 => ?_⟩⟩
            have b8 := ((b5.trans b6).trans b7).new (o := .tup [.str x, u7]) n8
            have c8 := (Bt.refl b7.src).new (o := .tup [.str x, u7]) n8
            have ne8 := b7.ne n8
            refine k _ _ x [d7] ?_ (nm_one c1 (st6 d7 h7).2) b8 (.tup (.inl (.inl (by rw [hid_ne ne8]; exact upd_same))) (.cons (.str _ ?_) (.cons (q7.to c8.same) .nil)))
            · unfold bodyR
              rw [if_neg c1]
              have n1 : ¬ x = "move" := fun z => by
                rw [z] at c2
                revert c2
                decide +kernel
              have n2 : ¬ x = "drop" := fun z => by
                rw [z] at c2
                revert c2
                decide +kernel
              rw [if_neg n1, if_neg n2, if_pos c2]
              exact (st6 d7 h7).1
            · rcases c2 with z | z <;>
                · rw [z]
                  decide +kernel
          · rw [decide_eq_false c2]
            refine iteF (fun pd nd => ⟨upd_same, [((.inr "wish" : Key), V.str "let"), (.inr "point", .str "use"), (.inr "set", .str "number")], rfl, by decide, ?_⟩)
            refine ⟨pd, rfl, .inl ⟨_, .inl upd_same⟩, _, rfl, valV (mergeK [] [((.inr "wish" : Key), V.str "let"), (.inr "point", .str "use"), (.inr "set", .str "number")]) (.inr x), .inl ⟨_, .inr x, .inl upd_same, rfl, rfl⟩, ?_⟩
            have nepd := b5.ne nd
            have c6 := ((Bt.refl b5.src).over (o := .dK []) nd nepd).over (o := .dK (mergeK [] [((.inr "wish" : Key), V.str "let"), (.inr "point", .str "use"), (.inr "set", .str "number")])) nd nepd
            have hkv : ((valV (mergeK [] [((.inr "wish" : Key), V.str "let"), (.inr "point", .str "use"), (.inr "set", .str "number")]) (.inr x)).getD .non = .non ∧ (x = "move" ∨ x = "drop")) ∨
                ∃ y : Str, (valV (mergeK [] [((.inr "wish" : Key), V.str "let"), (.inr "point", .str "use"), (.inr "set", .str "number")]) (.inr x)).getD .non = .str y ∧ ((x = "wish" ∧ y = "let") ∨ (x = "point" ∧ y = "use") ∨ (x = "set" ∧ y = "number")) := by
              rcases hw with z | z | z | z | z | z | z | z
              · exact absurd z c1
              · exact absurd (.inl z) c2
              · exact absurd (.inr z) c2
              · exact .inl ⟨by rw [z]; decide +kernel, .inl z⟩
              · exact .inl ⟨by rw [z]; decide +kernel, .inr z⟩
              · exact .inr ⟨"let", by rw [z]; decide +kernel, .inl ⟨z, rfl⟩⟩
              · exact .inr ⟨"use", by rw [z]; decide +kernel, .inr (.inl ⟨z, rfl⟩)⟩
              · exact .inr ⟨"number", by rw [z]; decide +kernel, .inr (.inr ⟨z, rfl⟩)⟩
            generalize (valV (mergeK [] [((.inr "wish" : Key), V.str "let"), (.inr "point", .str "use"), (.inr "set", .str "number")]) (.inr x)).getD .non = kv at hkv ⊢
            generalize upd (upd H5 pd (.dK [])) pd (.dK (mergeK [] [((.inr "wish" : Key), V.str "let"), (.inr "point", .str "use"), (.inr "set", .str "number")])) = H6 at c6 ⊢
            have b6 := b5.trans c6
            have mk7 := mk6.to c6
            refine ⟨_, rfl, D1, rfl, ⟨acc1, (hid_same p H6).seq mk7.seq⟩, fun D3 nD3 => ?_⟩
            refine lc_stamps (j := 10) mk7 nD3 (fun _ => rfl) (fun _ => rfl) (fun u d H' Qb hr' hq b kb => ?_) (fun H7 acc7 es7 b7 e7 q7 st7 l7 => ?_)
            · refine ⟨_, rfl, rfl, _, rfl, ?_⟩
              rcases hkv with ⟨z, _⟩ | ⟨y, z, _⟩
              · rw [z, decide_eq_true rfl]
                exact iteT (kb true H' (Bt.refl b.src))
              · rw [z, decide_eq_false (fun e => by cases e)]
                obtain ⟨s0, k0, l0, ed0⟩ := (st1 d hr'.1).2
                obtain ⟨ad, xs, uS, uB, sd, kd, x', l', rfl, ht, i0, i2, qs, st, qb, hb, ed⟩ := deed_parts hq hr'.2
                have e2 := ed.symm.trans ed0
                simp only [PyData.tuple.injEq, List.cons.injEq, PyData.str.injEq, and_true] at e2
                obtain ⟨_, _, e3, _⟩ := e2
                subst e3
                obtain ⟨y', u', k', c', rfl, _⟩ := make_kind hb
                have Sv := b.same.trans (hid_same p H')
                obtain ⟨ab, ys, u1, rfl, hy, j1, qx⟩ := (qb.to Sv).item (i := 1) rfl
                cases qx
                exact iteF ⟨_, rfl, ad, xs, _, _, rfl, rfl, K0.seqT_same Sv ht, i2, ab, ys, _, _, rfl, rfl, hy, j1, _, rfl, rfl, _, rfl, kb _ H' (Bt.refl b.src)⟩
            · have ne7 := b6.ne nD3
              have b67 := b6.trans b7
              refine fun H8 q8 v8 S8 n8 e8 d8 => ?_
              have b8 := b67.grow S8
              have c8 := (Bt.refl b7.src).grow S8
              have hs8 := hs.to b8
              have ne8 := b67.ne n8
              refine ⟨_, rfl, a, rfl, ⟨us, (hid_same p H8).seq hs8.seq⟩, fun D4 nD4 => ?_⟩
              refine lc_stampsA (j := 10) hs8 nD4 (fun _ => rfl) (fun _ => rfl) (fun H9 acc9 es9 b9 e9 q9 st9 l9 => ?_)
              have b89 := b8.trans b9
              have a8 := (d8.to (nw_hid b67.src)).to b9.same
              have a9 := q9.to b9.same
              have L8 : v8.length = 1 := d8.len
              have L9 := a9.len
              refine ⟨q8, D4, v8, acc9, rfl, rfl, b9.at ne8 e8, e9, by rw [sizeLine_eq]; omega, fun q10 n10 => ?_⟩
              have b10 := b89.new (o := .lst (v8 ++ acc9)) n10
              have c10 := (Bt.refl b89.src).new (o := .lst (v8 ++ acc9)) n10
              have ne10 := b89.ne n10
              have lo : LstOf K p (upd H9 q10 (.lst (v8 ++ acc9))) q10 (v8 ++ acc9) ([.tuple [.int 0, .int 0]] ++ es9) := ⟨upd_same, ne10, (a8.app a9).to c10.same⟩
              have lt7 : LstOf K p (upd H9 q10 (.lst (v8 ++ acc9))) D3 acc7 es7 := ⟨c10.at ne7 (b9.at ne7 (S8 _ _ e7)), ne7, (((q7.to b7.same).to c8.same).to b9.same).to c10.same⟩
              generalize upd H9 q10 (.lst (v8 ++ acc9)) = H10 at b10 lo lt7 ⊢
              have ho : ∀ e ∈ ([.tuple [.int 0, .int 0]] ++ es9 : List PyData), thingD e = true ∧ NmIn (ds.map keyD) e := fun e he => by
                rcases List.mem_append.mp he with z | z
                · rw [List.mem_singleton.mp z]
                  exact ⟨by decide +kernel, nm_root _⟩
                · exact ⟨stamp_thing (st9 e z).1, (st9 e z).2⟩
              have lo1 : ([.tuple [.int 0, .int 0]] ++ es9 : List PyData).length ≤ 100 := by
                rw [List.length_append]
                show 1 + es9.length ≤ 100
                omega
              have lo0 : 0 < ([.tuple [.int 0, .int 0]] ++ es9 : List PyData).length := by
                rw [List.length_append]
                show 0 < 1 + es9.length
                omega
              have oneR : ∀ (J : Hp) (l : Addr) (vs : List V) (es : List PyData) (QQ : VK), LstOf K p J l vs es → Src J p → (∀ e ∈ es, thingD e = true ∧ NmIn (ds.map keyD) e) → 0 < es.length → es.length ≤ 100 → (∀ J' u d, thingD d = true → NmIn (ds.map keyD) d → Bt p J J' → DQ K (hid p J') u d → QQ u J') → spOne K [.ref p, .ref l] J QQ E0 :=
                fun J l vs es QQ h1 h2 h3 h4 h5 h6 => ⟨p, l, vs, es, rfl, h2, SqL.of (by rw [hid_ne h1.ne]; exact h1.at_), h1.all, h4, by omega, fun J' u d hd bJ hq => h6 J' u d (h3 d hd).1 (h3 d hd).2 bJ hq⟩
              refine ⟨_, rfl, _, rfl, Nat.zero_le _, fun q11 n11 => ⟨D3, q11, acc7, rfl, rfl, SqL.of ((upd_ne (ne_of_none lt7.at_ n11)).trans lt7.at_), SqL.of upd_same, _, rfl, ?_⟩⟩
              have b11 := b10.new (o := .lst []) n11
              have c11 := (Bt.refl b10.src).new (o := .lst []) n11
              have lo' := lo.to c11
              have lt' := lt7.to c11
              generalize upd H10 q11 (.lst []) = H11 at b11 lo' lt' ⊢
              have L7 := lt'.all.len
              have word : PyData.strOk x = true ∧ x.length ≤ 1000 := by
                rcases hw with z | z | z | z | z | z | z | z <;>
                  · rw [z]
                    exact ⟨by decide +kernel, by decide +kernel⟩
              cases e7' : acc7.isEmpty with
              | true =>
                refine iteF ⟨_, rfl, oneR H11 q10 _ _ _ lo' b11.src ho lo0 lo1 fun J uJ dJ tJ nJ bJ hJ => ?_⟩
                have bHJ := b11.trans bJ
                have loJ := lo'.to bJ
                refine ⟨_, rfl, rfl, _, rfl, ?_⟩
                rw [dec_str]
                by_cases c3 : x = "drop"
                · rw [decide_eq_true c3]
                  refine iteT ⟨_, rfl, _, rfl, (by show 2 ≤ sizeLine; rw [sizeLine_eq]; decide), fun r n => ?_⟩
                  have bq := bHJ.new (o := .tup [.str x, uJ]) n
                  have cq := (Bt.refl bHJ.src).new (o := .tup [.str x, uJ]) n
                  have neq := bHJ.ne n
                  refine k _ _ x [dJ] ?_ (nm_one c1 nJ) bq (.tup (.inl (.inl (by rw [hid_ne neq]; exact upd_same))) (.cons (.str _ word.2) (.cons (hJ.to cq.same) .nil)))
                  unfold bodyR
                  have n1 : ¬ x = "move" := by
                    rw [c3]
                    decide +kernel
                  rw [if_neg c1, if_neg n1, if_pos c3]
                  exact tJ
                · rw [decide_eq_false c3]
                  refine iteF ⟨_, rfl, rfl, _, rfl, ?_⟩
                  rw [dec_str]
                  by_cases c4 : x = "move"
                  · rw [decide_eq_true c4]
                    refine iteT ⟨_, rfl, _, rfl, p, 9, rfl, bHJ.src, by decide, by decide, fun r J2 r0 r1 b2 => ⟨_, _, rfl, rfl, _, rfl, ?_⟩⟩
                    refine ite2 (fun _ => ?_) (fun _ => ?_)
                    · refine ⟨_, rfl, p, a, us, ds, rfl, hs.to (bHJ.trans b2), fun J3 l3 vs3 es3 b3' lst3 h3 h30 h31 => oneR J3 l3 vs3 es3 _ lst3 b3'.src h3 h30 (by omega) fun J4 uK dK tK nK b4' hK => ?_⟩
                      have bK := (b2.trans b3').trans b4'
                      refine ⟨_, rfl, _, rfl, _, rfl, _, rfl, fun N1 r1 w1 T1 m1 f1 g1 => one_lit (E := E0) bK.src T1 m1 f1 g1 (by decide) (by decide) fun N2 u5 x5 hx5 bN2 q5 => ⟨(by show 4 ≤ sizeLine; rw [sizeLine_eq]; decide), fun r n => ?_⟩⟩
                      have bq := ((bHJ.trans bK).trans bN2).new (o := .tup [.str x, uJ, uK, u5]) n
                      have cq := (Bt.refl bN2.src).new (o := .tup [.str x, uJ, uK, u5]) n
                      have neq := bN2.ne n
                      have hkey : fromD 0 999 x5 = true := List.all_eq_true.mp (show ([.int 0, .int 1, .int 2, .int 5, .int 999] : List PyData).all (fromD 0 999) = true by decide +kernel) x5 hx5
                      refine k _ _ x [dJ, dK, x5] ?_ (nm_two c1 nJ fun _ => nK) bq (.tup (.inl (.inl (by rw [hid_ne neq]; exact upd_same))) (.cons (.str _ word.2) (.cons ((hJ.to bK.same).to (bN2.same.trans cq.same)) (.cons (hK.to (bN2.same.trans cq.same)) (.cons (q5.to cq.same) .nil)))))
                      unfold bodyR
                      rw [if_neg c1, if_pos c4]
                      show (thingD dJ && (thingD dK && fromD 0 999 x5)) = true
                      rw [tJ, tK, hkey]
                      rfl
                    · refine ⟨_, rfl, oneR J2 q10 _ _ _ (loJ.to b2) b2.src ho lo0 lo1 fun J4 uK dK tK nK b4' hK => ?_⟩
                      have bK := b2.trans b4'
                      refine ⟨_, rfl, _, rfl, _, rfl, _, rfl, fun N1 r1 w1 T1 m1 f1 g1 => one_lit (E := E0) bK.src T1 m1 f1 g1 (by decide) (by decide) fun N2 u5 x5 hx5 bN2 q5 => ⟨(by show 4 ≤ sizeLine; rw [sizeLine_eq]; decide), fun r n => ?_⟩⟩
                      have bq := ((bHJ.trans bK).trans bN2).new (o := .tup [.str x, uJ, uK, u5]) n
                      have cq := (Bt.refl bN2.src).new (o := .tup [.str x, uJ, uK, u5]) n
                      have neq := bN2.ne n
                      have hkey : fromD 0 999 x5 = true := List.all_eq_true.mp (show ([.int 0, .int 1, .int 2, .int 5, .int 999] : List PyData).all (fromD 0 999) = true by decide +kernel) x5 hx5
                      refine k _ _ x [dJ, dK, x5] ?_ (nm_two c1 nJ fun _ => nK) bq (.tup (.inl (.inl (by rw [hid_ne neq]; exact upd_same))) (.cons (.str _ word.2) (.cons ((hJ.to bK.same).to (bN2.same.trans cq.same)) (.cons (hK.to (bN2.same.trans cq.same)) (.cons (q5.to cq.same) .nil)))))
                      unfold bodyR
                      rw [if_neg c1, if_pos c4]
                      show (thingD dJ && (thingD dK && fromD 0 999 x5)) = true
                      rw [tJ, tK, hkey]
                      rfl
                  · rw [decide_eq_false c4]
                    rcases hkv with ⟨_, z | z⟩ | ⟨y, z, hy⟩
                    · exact absurd z c4
                    · exact absurd z c3
                    · subst z
                      refine iteF ⟨_, rfl, _, rfl, _, rfl, _, rfl, _, rfl, p, y, a, us, ds, rfl, hs.to bHJ, fun J4 uK dK tK nK bK hK => ⟨(by show 3 ≤ sizeLine; rw [sizeLine_eq]; decide), fun r n => ?_⟩⟩
                      have bq := (bHJ.trans bK).new (o := .tup [.str x, uJ, uK]) n
                      have cq := (Bt.refl bK.src).new (o := .tup [.str x, uJ, uK]) n
                      have neq := bK.ne n
                      refine k _ _ x [dJ, dK] ?_ (nm_two c1 nJ fun hm => nK (use_of c4 hy hm)) bq (.tup (.inl (.inl (by rw [hid_ne neq]; exact upd_same))) (.cons (.str _ word.2) (.cons ((hJ.to bK.same).to cq.same) (.cons (hK.to cq.same) .nil))))
                      unfold bodyR
                      rw [if_neg c1, if_neg c4, if_neg c3, if_neg c2]
                      show (thingD dJ && writeD (.str x) dK) = true
                      rw [tJ, Bool.true_and]
                      show (if x = "wish" then nameD dK else if x = "point" then binderD dK else decide (x = "set") && fromD 0 99 dK) = true
                      unfold contF at tK
                      rcases hy with ⟨z1, z2⟩ | ⟨z1, z2⟩ | ⟨z1, z2⟩
                      · subst z1
                        subst z2
                        exact tK
                      · subst z1
                        subst z2
                        exact tK
                      · subst z1
                        subst z2
                        exact tK
              | false =>
                have pos7 : 0 < es7.length := by
                  have z : acc7 ≠ [] := fun z => by
                    rw [z] at e7'
                    cases e7'
                  have := List.length_pos_iff.mpr z
                  omega
                refine iteT ⟨_, rfl, p, 9, rfl, b11.src, by decide, by decide, fun r J1 r0 r1 bJ1 => ⟨_, _, rfl, rfl, _, rfl, ?_⟩⟩
                refine ite2 (fun _ => ?_) (fun _ => ?_)
                · refine ⟨_, rfl, oneR J1 D3 _ _ _ (lt'.to bJ1) bJ1.src (fun e he => ⟨stamp_thing (st7 e he).1, (st7 e he).2.mono fun k hk => by
                  obtain ⟨d, hd, rfl⟩ := List.mem_map.mp hk
                  exact List.mem_map_of_mem (st1 d hd).1⟩) pos7 (by have := mk7.few; omega) fun J uJ dJ tJ nJ bJ hJ => ?_⟩
                  have bHJ := (b11.trans bJ1).trans bJ
                  have loJ := (lo'.to bJ1).to bJ
                  refine ⟨_, rfl, rfl, _, rfl, ?_⟩
                  rw [dec_str]
                  by_cases c3 : x = "drop"
                  · rw [decide_eq_true c3]
                    refine iteT ⟨_, rfl, _, rfl, (by show 2 ≤ sizeLine; rw [sizeLine_eq]; decide), fun r n => ?_⟩
                    have bq := bHJ.new (o := .tup [.str x, uJ]) n
                    have cq := (Bt.refl bHJ.src).new (o := .tup [.str x, uJ]) n
                    have neq := bHJ.ne n
                    refine k _ _ x [dJ] ?_ (nm_one c1 nJ) bq (.tup (.inl (.inl (by rw [hid_ne neq]; exact upd_same))) (.cons (.str _ word.2) (.cons (hJ.to cq.same) .nil)))
                    unfold bodyR
                    have n1 : ¬ x = "move" := by
                      rw [c3]
                      decide +kernel
                    rw [if_neg c1, if_neg n1, if_pos c3]
                    exact tJ
                  · rw [decide_eq_false c3]
                    refine iteF ⟨_, rfl, rfl, _, rfl, ?_⟩
                    rw [dec_str]
                    by_cases c4 : x = "move"
                    · rw [decide_eq_true c4]
                      refine iteT ⟨_, rfl, _, rfl, p, 9, rfl, bHJ.src, by decide, by decide, fun r J2 r0 r1 b2 => ⟨_, _, rfl, rfl, _, rfl, ?_⟩⟩
                      refine ite2 (fun _ => ?_) (fun _ => ?_)
                      · refine ⟨_, rfl, p, a, us, ds, rfl, hs.to (bHJ.trans b2), fun J3 l3 vs3 es3 b3' lst3 h3 h30 h31 => oneR J3 l3 vs3 es3 _ lst3 b3'.src h3 h30 (by omega) fun J4 uK dK tK nK b4' hK => ?_⟩
                        have bK := (b2.trans b3').trans b4'
                        refine ⟨_, rfl, _, rfl, _, rfl, _, rfl, fun N1 r1 w1 T1 m1 f1 g1 => one_lit (E := E0) bK.src T1 m1 f1 g1 (by decide) (by decide) fun N2 u5 x5 hx5 bN2 q5 => ⟨(by show 4 ≤ sizeLine; rw [sizeLine_eq]; decide), fun r n => ?_⟩⟩
                        have bq := ((bHJ.trans bK).trans bN2).new (o := .tup [.str x, uJ, uK, u5]) n
                        have cq := (Bt.refl bN2.src).new (o := .tup [.str x, uJ, uK, u5]) n
                        have neq := bN2.ne n
                        have hkey : fromD 0 999 x5 = true := List.all_eq_true.mp (show ([.int 0, .int 1, .int 2, .int 5, .int 999] : List PyData).all (fromD 0 999) = true by decide +kernel) x5 hx5
                        refine k _ _ x [dJ, dK, x5] ?_ (nm_two c1 nJ fun _ => nK) bq (.tup (.inl (.inl (by rw [hid_ne neq]; exact upd_same))) (.cons (.str _ word.2) (.cons ((hJ.to bK.same).to (bN2.same.trans cq.same)) (.cons (hK.to (bN2.same.trans cq.same)) (.cons (q5.to cq.same) .nil)))))
                        unfold bodyR
                        rw [if_neg c1, if_pos c4]
                        show (thingD dJ && (thingD dK && fromD 0 999 x5)) = true
                        rw [tJ, tK, hkey]
                        rfl
                      · refine ⟨_, rfl, oneR J2 q10 _ _ _ (loJ.to b2) b2.src ho lo0 lo1 fun J4 uK dK tK nK b4' hK => ?_⟩
                        have bK := b2.trans b4'
                        refine ⟨_, rfl, _, rfl, _, rfl, _, rfl, fun N1 r1 w1 T1 m1 f1 g1 => one_lit (E := E0) bK.src T1 m1 f1 g1 (by decide) (by decide) fun N2 u5 x5 hx5 bN2 q5 => ⟨(by show 4 ≤ sizeLine; rw [sizeLine_eq]; decide), fun r n => ?_⟩⟩
                        have bq := ((bHJ.trans bK).trans bN2).new (o := .tup [.str x, uJ, uK, u5]) n
                        have cq := (Bt.refl bN2.src).new (o := .tup [.str x, uJ, uK, u5]) n
                        have neq := bN2.ne n
                        have hkey : fromD 0 999 x5 = true := List.all_eq_true.mp (show ([.int 0, .int 1, .int 2, .int 5, .int 999] : List PyData).all (fromD 0 999) = true by decide +kernel) x5 hx5
                        refine k _ _ x [dJ, dK, x5] ?_ (nm_two c1 nJ fun _ => nK) bq (.tup (.inl (.inl (by rw [hid_ne neq]; exact upd_same))) (.cons (.str _ word.2) (.cons ((hJ.to bK.same).to (bN2.same.trans cq.same)) (.cons (hK.to (bN2.same.trans cq.same)) (.cons (q5.to cq.same) .nil)))))
                        unfold bodyR
                        rw [if_neg c1, if_pos c4]
                        show (thingD dJ && (thingD dK && fromD 0 999 x5)) = true
                        rw [tJ, tK, hkey]
                        rfl
                    · rw [decide_eq_false c4]
                      rcases hkv with ⟨_, z | z⟩ | ⟨y, z, hy⟩
                      · exact absurd z c4
                      · exact absurd z c3
                      · subst z
                        refine iteF ⟨_, rfl, _, rfl, _, rfl, _, rfl, _, rfl, p, y, a, us, ds, rfl, hs.to bHJ, fun J4 uK dK tK nK bK hK => ⟨(by show 3 ≤ sizeLine; rw [sizeLine_eq]; decide), fun r n => ?_⟩⟩
                        have bq := (bHJ.trans bK).new (o := .tup [.str x, uJ, uK]) n
                        have cq := (Bt.refl bK.src).new (o := .tup [.str x, uJ, uK]) n
                        have neq := bK.ne n
                        refine k _ _ x [dJ, dK] ?_ (nm_two c1 nJ fun hm => nK (use_of c4 hy hm)) bq (.tup (.inl (.inl (by rw [hid_ne neq]; exact upd_same))) (.cons (.str _ word.2) (.cons ((hJ.to bK.same).to cq.same) (.cons (hK.to cq.same) .nil))))
                        unfold bodyR
                        rw [if_neg c1, if_neg c4, if_neg c3, if_neg c2]
                        show (thingD dJ && writeD (.str x) dK) = true
                        rw [tJ, Bool.true_and]
                        show (if x = "wish" then nameD dK else if x = "point" then binderD dK else decide (x = "set") && fromD 0 99 dK) = true
                        unfold contF at tK
                        rcases hy with ⟨z1, z2⟩ | ⟨z1, z2⟩ | ⟨z1, z2⟩
                        · subst z1
                          subst z2
                          exact tK
                        · subst z1
                          subst z2
                          exact tK
                        · subst z1
                          subst z2
                          exact tK
                · refine ⟨_, rfl, oneR J1 q10 _ _ _ (lo'.to bJ1) bJ1.src ho lo0 lo1 fun J uJ dJ tJ nJ bJ hJ => ?_⟩
                  have bHJ := (b11.trans bJ1).trans bJ
                  have loJ := (lo'.to bJ1).to bJ
                  refine ⟨_, rfl, rfl, _, rfl, ?_⟩
                  rw [dec_str]
                  by_cases c3 : x = "drop"
                  · rw [decide_eq_true c3]
                    refine iteT ⟨_, rfl, _, rfl, (by show 2 ≤ sizeLine; rw [sizeLine_eq]; decide), fun r n => ?_⟩
                    have bq := bHJ.new (o := .tup [.str x, uJ]) n
                    have cq := (Bt.refl bHJ.src).new (o := .tup [.str x, uJ]) n
                    have neq := bHJ.ne n
                    refine k _ _ x [dJ] ?_ (nm_one c1 nJ) bq (.tup (.inl (.inl (by rw [hid_ne neq]; exact upd_same))) (.cons (.str _ word.2) (.cons (hJ.to cq.same) .nil)))
                    unfold bodyR
                    have n1 : ¬ x = "move" := by
                      rw [c3]
                      decide +kernel
                    rw [if_neg c1, if_neg n1, if_pos c3]
                    exact tJ
                  · rw [decide_eq_false c3]
                    refine iteF ⟨_, rfl, rfl, _, rfl, ?_⟩
                    rw [dec_str]
                    by_cases c4 : x = "move"
                    · rw [decide_eq_true c4]
                      refine iteT ⟨_, rfl, _, rfl, p, 9, rfl, bHJ.src, by decide, by decide, fun r J2 r0 r1 b2 => ⟨_, _, rfl, rfl, _, rfl, ?_⟩⟩
                      refine ite2 (fun _ => ?_) (fun _ => ?_)
                      · refine ⟨_, rfl, p, a, us, ds, rfl, hs.to (bHJ.trans b2), fun J3 l3 vs3 es3 b3' lst3 h3 h30 h31 => oneR J3 l3 vs3 es3 _ lst3 b3'.src h3 h30 (by omega) fun J4 uK dK tK nK b4' hK => ?_⟩
                        have bK := (b2.trans b3').trans b4'
                        refine ⟨_, rfl, _, rfl, _, rfl, _, rfl, fun N1 r1 w1 T1 m1 f1 g1 => one_lit (E := E0) bK.src T1 m1 f1 g1 (by decide) (by decide) fun N2 u5 x5 hx5 bN2 q5 => ⟨(by show 4 ≤ sizeLine; rw [sizeLine_eq]; decide), fun r n => ?_⟩⟩
                        have bq := ((bHJ.trans bK).trans bN2).new (o := .tup [.str x, uJ, uK, u5]) n
                        have cq := (Bt.refl bN2.src).new (o := .tup [.str x, uJ, uK, u5]) n
                        have neq := bN2.ne n
                        have hkey : fromD 0 999 x5 = true := List.all_eq_true.mp (show ([.int 0, .int 1, .int 2, .int 5, .int 999] : List PyData).all (fromD 0 999) = true by decide +kernel) x5 hx5
                        refine k _ _ x [dJ, dK, x5] ?_ (nm_two c1 nJ fun _ => nK) bq (.tup (.inl (.inl (by rw [hid_ne neq]; exact upd_same))) (.cons (.str _ word.2) (.cons ((hJ.to bK.same).to (bN2.same.trans cq.same)) (.cons (hK.to (bN2.same.trans cq.same)) (.cons (q5.to cq.same) .nil)))))
                        unfold bodyR
                        rw [if_neg c1, if_pos c4]
                        show (thingD dJ && (thingD dK && fromD 0 999 x5)) = true
                        rw [tJ, tK, hkey]
                        rfl
                      · refine ⟨_, rfl, oneR J2 q10 _ _ _ (loJ.to b2) b2.src ho lo0 lo1 fun J4 uK dK tK nK b4' hK => ?_⟩
                        have bK := b2.trans b4'
                        refine ⟨_, rfl, _, rfl, _, rfl, _, rfl, fun N1 r1 w1 T1 m1 f1 g1 => one_lit (E := E0) bK.src T1 m1 f1 g1 (by decide) (by decide) fun N2 u5 x5 hx5 bN2 q5 => ⟨(by show 4 ≤ sizeLine; rw [sizeLine_eq]; decide), fun r n => ?_⟩⟩
                        have bq := ((bHJ.trans bK).trans bN2).new (o := .tup [.str x, uJ, uK, u5]) n
                        have cq := (Bt.refl bN2.src).new (o := .tup [.str x, uJ, uK, u5]) n
                        have neq := bN2.ne n
                        have hkey : fromD 0 999 x5 = true := List.all_eq_true.mp (show ([.int 0, .int 1, .int 2, .int 5, .int 999] : List PyData).all (fromD 0 999) = true by decide +kernel) x5 hx5
                        refine k _ _ x [dJ, dK, x5] ?_ (nm_two c1 nJ fun _ => nK) bq (.tup (.inl (.inl (by rw [hid_ne neq]; exact upd_same))) (.cons (.str _ word.2) (.cons ((hJ.to bK.same).to (bN2.same.trans cq.same)) (.cons (hK.to (bN2.same.trans cq.same)) (.cons (q5.to cq.same) .nil)))))
                        unfold bodyR
                        rw [if_neg c1, if_pos c4]
                        show (thingD dJ && (thingD dK && fromD 0 999 x5)) = true
                        rw [tJ, tK, hkey]
                        rfl
                    · rw [decide_eq_false c4]
                      rcases hkv with ⟨_, z | z⟩ | ⟨y, z, hy⟩
                      · exact absurd z c4
                      · exact absurd z c3
                      · subst z
                        refine iteF ⟨_, rfl, _, rfl, _, rfl, _, rfl, _, rfl, p, y, a, us, ds, rfl, hs.to bHJ, fun J4 uK dK tK nK bK hK => ⟨(by show 3 ≤ sizeLine; rw [sizeLine_eq]; decide), fun r n => ?_⟩⟩
                        have bq := (bHJ.trans bK).new (o := .tup [.str x, uJ, uK]) n
                        have cq := (Bt.refl bK.src).new (o := .tup [.str x, uJ, uK]) n
                        have neq := bK.ne n
                        refine k _ _ x [dJ, dK] ?_ (nm_two c1 nJ fun hm => nK (use_of c4 hy hm)) bq (.tup (.inl (.inl (by rw [hid_ne neq]; exact upd_same))) (.cons (.str _ word.2) (.cons ((hJ.to bK.same).to cq.same) (.cons (hK.to cq.same) .nil))))
                        unfold bodyR
                        rw [if_neg c1, if_neg c4, if_neg c3, if_neg c2]
                        show (thingD dJ && writeD (.str x) dK) = true
                        rw [tJ, Bool.true_and]
                        show (if x = "wish" then nameD dK else if x = "point" then binderD dK else decide (x = "set") && fromD 0 99 dK) = true
                        unfold contF at tK
                        rcases hy with ⟨z1, z2⟩ | ⟨z1, z2⟩ | ⟨z1, z2⟩
                        · subst z1
                          subst z2
                          exact tK
                        · subst z1
                          subst z2
                          exact tK
                        · subst z1
                          subst z2
                          exact tK
end
end K1
set_option maxHeartbeats 4000000
/-! the drawn world is a book: the plain facts -/
namespace K1
open PySem L2
theorem deed_pure {d : PyData} (h : deedD d = true) : ∃ (t j : Int) (x : Str) (r : List PyData), keyD d = [t, j] ∧ (1 ≤ t ∧ t ≤ 999) ∧ (0 ≤ j ∧ j ≤ 3) ∧ (snD d).length = 4 ∧ (∀ e ∈ snD d, 0 ≤ e ∧ e ≤ t - 1) ∧ bodyR x r = true ∧ d = .tuple [.tuple [.int t, .int j], .tuple ((snD d).map PyData.int), .tuple (.str x :: r)] := by
  obtain ⟨t, j, a, b, c, e, x, r, rfl, ht, hj, hk, hb⟩ := deed_shape h
  obtain ⟨q1, q2⟩ := ints_of hk
  refine ⟨t, j, x, r, rfl, ht, hj, rfl, q2, hb, ?_⟩
  show PyData.tuple [_, .tuple [a, b, c, e], _] = .tuple [_, .tuple (([a, b, c, e].map intD).map PyData.int), _]
  rw [← q1]
theorem hand_of {d : PyData} {t j : Int} (h : keyD d = [t, j]) : handD d = j.toNat := by
  unfold handD
  rw [h]
  rfl
theorem time_of {d : PyData} {t j : Int} (h : keyD d = [t, j]) : tmD d = t := by
  unfold tmD
  rw [h]
  rfl
theorem key_of {d : PyData} (h : deedD d = true) : keyD d = [tmD d, (handD d : Int)] := by
  obtain ⟨t, j, x, r, hk, ht, hj, _⟩ := deed_pure h
  rw [hand_of hk, time_of hk, hk]
  congr 1
  congr 1
  omega
theorem hand_lt {d : PyData} (h : deedD d = true) : handD d < 4 := by
  obtain ⟨t, j, x, r, hk, ht, hj, _⟩ := deed_pure h
  rw [hand_of hk]
  omega
theorem sn_len {d : PyData} (h : deedD d = true) : (snD d).length = 4 := by
  obtain ⟨t, j, x, r, hk, ht, hj, l4, _⟩ := deed_pure h
  exact l4
theorem getD_mem {l : List Int} {i : Nat} (h : i < l.length) : l.getD i 0 ∈ l := by
  rw [List.getD_eq_getElem?_getD, List.getElem?_eq_getElem h]
  exact List.getElem_mem _
theorem sn_bd {d : PyData} (h : deedD d = true) (i : Nat) (hi : i < 4) : 0 ≤ (snD d).getD i 0 ∧ (snD d).getD i 0 ≤ tmD d - 1 := by
  obtain ⟨t, j, x, r, hk, ht, hj, l4, hb, _⟩ := deed_pure h
  rw [time_of hk]
  exact hb _ (getD_mem (by omega))
theorem at_of {ds : List PyData} {e : PyData} (nd : (ds.map keyD).Nodup) (he : e ∈ ds) : atD ds (keyD e) = some e := by
  cases h : atD ds (keyD e) with
  | none =>
    unfold atD at h
    have := List.find?_eq_none.mp h e he
    simp at this
  | some e' =>
    obtain ⟨h1, h2⟩ := atD_mem h
    rw [nodup_inj nd h1 he h2]
theorem most_iff {es fs : List Int} (h : es.length = 4) : atMost es fs = true ↔ ∀ i, i < 4 → es.getD i 0 ≤ fs.getD i 0 := by
  unfold atMost
  rw [h, List.all_eq_true]
  exact ⟨fun z i hi => of_decide_eq_true (z i (List.mem_range.mpr hi)), fun z i hi => decide_eq_true (z i (List.mem_range.mp hi))⟩
/-- each entry is that of a deed that has seen no more -/
def Cls4 (ds : List PyData) (es : List Int) : Prop := ∀ h, h < 4 → es.getD h 0 = 0 ∨ ∃ e ∈ ds, keyD e = [es.getD h 0, (h : Int)] ∧ ∀ i, i < 4 → (snD e).getD i 0 ≤ es.getD i 0
theorem closed_iff {ds : List PyData} {es : List Int} (nd : (ds.map keyD).Nodup) (right : ∀ d ∈ ds, deedD d = true) : closedD ds es = true ↔ Cls4 ds es := by
  unfold closedD
  rw [List.all_eq_true]
  have one : ∀ h, okAt ds es h = true ↔ es.getD h 0 = 0 ∨ ∃ e ∈ ds, keyD e = [es.getD h 0, (h : Int)] ∧ ∀ i, i < 4 → (snD e).getD i 0 ≤ es.getD i 0 := fun h => by
    unfold okAt
    rw [Bool.or_eq_true, decide_eq_true_eq]
    refine or_congr Iff.rfl ?_
    cases ha : atD ds [es.getD h 0, (h : Int)] with
    | none =>
      refine ⟨fun z => (Bool.noConfusion (z : false = true)), fun ⟨e, he, hk, _⟩ => ?_⟩
      rw [← hk, at_of nd he] at ha
      cases ha
    | some d =>
      obtain ⟨h1, h2⟩ := atD_mem ha
      have r := right d h1
      show atMost (snD d) es = true ↔ _
      rw [most_iff (sn_len r)]
      refine ⟨fun z => ⟨d, h1, h2, z⟩, fun ⟨e, he, hk, z⟩ => ?_⟩
      have : d = e := nodup_inj nd h1 he (h2.trans hk.symm)
      rw [this]
      exact z
  exact ⟨fun z h hh => (one h).mp (z h (List.mem_range.mpr hh)), fun z h hh => (one h).mpr (z h (List.mem_range.mp hh))⟩
/-- the world is a book, its rows know what they may -/
structure Ok (ds : List PyData) (rs : List (List Int)) : Prop where
  nd : (ds.map keyD).Nodup
  right : ∀ d ∈ ds, deedD d = true
  cls : ∀ d ∈ ds, Cls4 ds (snD d)
  own : ∀ d ∈ ds, ∀ e ∈ ds, handD e = handD d → tmD e < tmD d → tmD e ≤ (snD d).getD (handD d) 0
  nms : ∀ d ∈ ds, ∀ k ∈ namesD d, ∃ e ∈ ds, keyD e = k ∧ tmD e ≤ (snD d).getD (handD e) 0
  rows : ∀ r ∈ rs, Cls4 ds r
  top : ∀ e ∈ ds, tmD e ≤ (rs.getD (handD e) []).getD (handD e) 0
theorem Cls4.mono {ds ds' : List PyData} {es : List Int} (h : Cls4 ds es) (s : ∀ d ∈ ds, d ∈ ds') : Cls4 ds' es := fun i hi => (h i hi).imp id fun ⟨e, he, z⟩ => ⟨e, s e he, z⟩
theorem ok_first : Ok [] (List.replicate 4 [0, 0, 0, 0]) where
  nd := List.nodup_nil
  right := fun d h => absurd h List.not_mem_nil
  cls := fun d h => absurd h List.not_mem_nil
  own := fun d h => absurd h List.not_mem_nil
  nms := fun d h => absurd h List.not_mem_nil
  rows := fun r hr i hi => by
    rw [List.eq_of_mem_replicate hr]
    obtain rfl | rfl | rfl | rfl : i = 0 ∨ i = 1 ∨ i = 2 ∨ i = 3 := by omega
    all_goals exact .inl rfl
  top := fun e h => absurd h List.not_mem_nil
theorem row_get {rs : List (List Int)} {i : Nat} {r : List Int} (h : rs[i]? = some r) : rs.getD i [] = r := by
  rw [List.getD_eq_getElem?_getD, h]
  rfl
theorem getD_set_eq {rs : List (List Int)} {i : Nat} {r : List Int} (h : i < rs.length) : (rs.set i r).getD i [] = r := by
  rw [List.getD_eq_getElem?_getD, List.getElem?_set_self h]
  rfl
theorem getD_set_ne {rs : List (List Int)} {i j : Nat} {r : List Int} (h : i ≠ j) : (rs.set i r).getD j [] = rs.getD j [] := by
  rw [List.getD_eq_getElem?_getD, List.getElem?_set_ne h, ← List.getD_eq_getElem?_getD]
/-- a row put: one that is closed and knows no less of its own -/
theorem Ok.put {ds : List PyData} {rs : List (List Int)} {i : Nat} {r : List Int} (h : Ok ds rs) (hi : i < rs.length) (hc : Cls4 ds r) (ht : ∀ e ∈ ds, handD e = i → tmD e ≤ r.getD i 0) : Ok ds (rs.set i r) where
  nd := h.nd
  right := h.right
  cls := h.cls
  own := h.own
  nms := h.nms
  rows := fun x hx => by
    rcases List.mem_or_eq_of_mem_set hx with z | z
    · exact h.rows x z
    · rw [z]
      exact hc
  top := fun e he => by
    by_cases c : handD e = i
    · rw [c, getD_set_eq hi]
      exact ht e he c
    · rw [getD_set_ne (fun z => c z.symm)]
      exact h.top e he
/-- the greater of two closed rows -/
def mxR (k z : List Int) : List Int := (List.range 4).map fun n => if k.getD n 0 > z.getD n 0 then k.getD n 0 else z.getD n 0
theorem mxR_at {k z : List Int} {n : Nat} (hn : n < 4) : (mxR k z).getD n 0 = if k.getD n 0 > z.getD n 0 then k.getD n 0 else z.getD n 0 := by
  unfold mxR
  rw [List.getD_eq_getElem?_getD, List.getElem?_map, List.getElem?_range hn]
  rfl
theorem mxR_le {k z : List Int} {n : Nat} (hn : n < 4) : k.getD n 0 ≤ (mxR k z).getD n 0 ∧ z.getD n 0 ≤ (mxR k z).getD n 0 := by
  rw [mxR_at hn]
  split <;> omega
theorem cls_mx {ds : List PyData} {k z : List Int} (h1 : Cls4 ds k) (h2 : Cls4 ds z) : Cls4 ds (mxR k z) := fun h hh => by
  by_cases c : k.getD h 0 > z.getD h 0
  · have e : (mxR k z).getD h 0 = k.getD h 0 := by rw [mxR_at hh, if_pos c]
    rw [e]
    exact (h1 h hh).imp id fun ⟨d, hd, hk, hs⟩ => ⟨d, hd, hk, fun i hi => Int.le_trans (hs i hi) (mxR_le hi).1⟩
  · have e : (mxR k z).getD h 0 = z.getD h 0 := by rw [mxR_at hh, if_neg c]
    rw [e]
    exact (h2 h hh).imp id fun ⟨d, hd, hk, hs⟩ => ⟨d, hd, hk, fun i hi => Int.le_trans (hs i hi) (mxR_le hi).2⟩
theorem Ok.learn {ds : List PyData} {rs : List (List Int)} {i : Nat} {z : List Int} (h : Ok ds rs) (hl : rs.length = 4) (hi : i < 4) (hz : Cls4 ds z) : Ok ds (rs.set i (mxR (rs.getD i []) z)) := by
  have hr : rs.getD i [] ∈ rs := by
    rw [List.getD_eq_getElem?_getD, List.getElem?_eq_getElem (by omega)]
    exact List.getElem_mem _
  refine h.put (by omega) (cls_mx (h.rows _ hr) hz) fun e he c => ?_
  have := h.top e he
  rw [c] at this
  exact Int.le_trans this (mxR_le hi).1
theorem getD_seti {l : List Int} {i j : Nat} {t : Int} (hj : j < l.length) : (l.set i t).getD j 0 = if i = j then t else l.getD j 0 := by
  rw [List.getD_eq_getElem?_getD, List.getElem?_set]
  by_cases e : i = j
  · subst e
    rw [if_pos rfl, if_pos hj, if_pos rfl]
    rfl
  · rw [if_neg e, if_neg e, List.getD_eq_getElem?_getD]
/-- what a deed had seen, and itself -/
theorem Ok.upto {ds : List PyData} {rs : List (List Int)} {d : PyData} (h : Ok ds rs) (hd : d ∈ ds) : Cls4 ds ((snD d).set (handD d) (tmD d)) := by
  have r := h.right d hd
  have l4 := sn_len r
  have hh := hand_lt r
  have le : ∀ i, i < 4 → (snD d).getD i 0 ≤ ((snD d).set (handD d) (tmD d)).getD i 0 := fun i hi => by
    rw [getD_seti (by omega)]
    have := sn_bd r i hi
    split
    · omega
    · omega
  intro i hi
  rw [getD_seti (by omega)]
  by_cases e : handD d = i
  · rw [if_pos e]
    refine .inr ⟨d, hd, ?_, le⟩
    rw [key_of r, e]
  · rw [if_neg e]
    exact (h.cls d hd i hi).imp id fun ⟨x, hx, hk, hs⟩ => ⟨x, hx, hk, fun j hj => Int.le_trans (hs j hj) (le j hj)⟩
/-- a deed done by a hand that knows what its row tells -/
theorem Ok.done {ds : List PyData} {rs : List (List Int)} {d : PyData} {i : Nat} (h : Ok ds rs) (hl : rs.length = 4) (r : deedD d = true) (hh : handD d = i) (hs : snD d = rs.getD i []) (ht : ∀ n, n < 4 → (rs.getD i []).getD n 0 < tmD d)
    (hn : ∀ k ∈ namesD d, ∃ e ∈ ds, keyD e = k ∧ tmD e ≤ (rs.getD i []).getD (handD e) 0) : Ok (ds ++ [d]) (rs.set i ((rs.getD i []).set i (tmD d))) := by
  have hi : i < 4 := by rw [← hh]; exact hand_lt r
  have hr : rs.getD i [] ∈ rs := by
    rw [List.getD_eq_getElem?_getD, List.getElem?_eq_getElem (by omega)]
    exact List.getElem_mem _
  have l4 : (rs.getD i []).length = 4 := by rw [← hs]; exact sn_len r
  have mem : ∀ x ∈ ds, x ∈ ds ++ [d] := fun x hx => List.mem_append_left _ hx
  have low : ∀ e ∈ ds, handD e = i → tmD e < tmD d := fun e he c => by
    have := h.top e he
    rw [c] at this
    have := ht i hi
    omega
  have le : ∀ n, n < 4 → (rs.getD i []).getD n 0 ≤ ((rs.getD i []).set i (tmD d)).getD n 0 := fun n hn => by
    rw [getD_seti (by omega)]
    have := ht n hn
    split
    · omega
    · omega
  have cases' : ∀ x ∈ ds ++ [d], x ∈ ds ∨ x = d := fun x hx => (List.mem_append.mp hx).imp id fun z => List.mem_singleton.mp z
  refine ⟨?_, fun x hx => ?_, fun x hx => ?_, fun x hx e he c1 c2 => ?_, fun x hx k hk => ?_, fun x hx => ?_, fun e he => ?_⟩
  · rw [List.map_append, List.nodup_append]
    refine ⟨h.nd, List.nodup_cons.mpr ⟨List.not_mem_nil, List.nodup_nil⟩, fun a ha b hb z => ?_⟩
    have hb' : b = keyD d := List.mem_singleton.mp hb
    obtain ⟨e, he, ee⟩ := List.mem_map.mp ha
    have re := h.right e he
    have k1 : keyD e = keyD d := by rw [ee, z, hb']
    rw [key_of re, key_of r] at k1
    have t1 : tmD e = tmD d := (List.cons.inj k1).1
    have h1 : (handD e : Int) = handD d := (List.cons.inj (List.cons.inj k1).2).1
    have := low e he (by omega)
    omega
  · rcases cases' x hx with z | z
    · exact h.right x z
    · rw [z]
      exact r
  · rcases cases' x hx with z | z
    · exact (h.cls x z).mono mem
    · rw [z, hs]
      exact (h.rows _ hr).mono mem
  · rcases cases' x hx with z | z
    · rcases cases' e he with y | y
      · exact h.own x z e y c1 c2
      · rw [y] at c1 c2
        have := low x z (by omega)
        omega
    · rcases cases' e he with y | y
      · rw [z] at c1 ⊢
        rw [hs, hh]
        have := h.top e y
        rw [c1, hh] at this
        exact this
      · rw [z, y] at c2
        omega
  · rcases cases' x hx with z | z
    · obtain ⟨e, he, y⟩ := h.nms x z k hk
      exact ⟨e, mem e he, y⟩
    · rw [z] at hk ⊢
      obtain ⟨e, he, y1, y2⟩ := hn k hk
      exact ⟨e, mem e he, y1, by rw [hs]; exact y2⟩
  · rcases List.mem_or_eq_of_mem_set hx with z | z
    · exact (h.rows x z).mono mem
    · rw [z]
      intro n hn
      rw [getD_seti (by omega)]
      by_cases c : i = n
      · rw [if_pos c]
        refine .inr ⟨d, List.mem_append_right _ (List.mem_singleton.mpr rfl), by rw [key_of r, hh, c], fun m hm => ?_⟩
        rw [hs]
        exact le m hm
      · rw [if_neg c]
        exact (h.rows _ hr n hn).imp id fun ⟨x, hx, hk, hs⟩ => ⟨x, mem x hx, hk, fun j hj => Int.le_trans (hs j hj) (le j hj)⟩
  · by_cases c : handD e = i
    · rw [c, getD_set_eq (by omega), getD_seti (by omega), if_pos rfl]
      rcases cases' e he with y | y
      · exact Int.le_of_lt (low e y c)
      · rw [y]
        exact Int.le_refl _
    · rw [getD_set_ne (fun z => c z.symm)]
      rcases cases' e he with y | y
      · exact h.top e y
      · rw [y] at c
        exact absurd hh c
end K1
/-! the drawn world -/
namespace K1
open PySem L2
theorem hid_mono {q : Addr} {A B : Hp} (s : Same A B) : Same (hid q A) (hid q B) := fun b u e => by
  obtain ⟨h1, h2⟩ := hid_at e
  rw [hid_ne h1]
  exact s b u h2
/-- all but the source, the list of deeds and the list of rows -/
def gnd (p D R : Addr) (H : Hp) : Hp := hid R (hid D (hid p H))
theorem gnd_hid (p D R : Addr) (H : Hp) : Same (gnd p D R H) (hid p H) := (hid_same R _).trans (hid_same D _)
theorem gnd_in (p D R : Addr) (H : Hp) : Same (gnd p D R H) H := (gnd_hid p D R H).trans (hid_same p H)
theorem gnd_mono {p D R : Addr} {H H' : Hp} (s : Same (hid p H) (hid p H')) : Same (gnd p D R H) (gnd p D R H') := hid_mono (hid_mono s)
theorem gnd_at {p D R b : Addr} {H : Hp} {u : HO} (h : gnd p D R H b = some u) : b ≠ R ∧ b ≠ D ∧ b ≠ p ∧ H b = some u := by
  obtain ⟨h1, h2⟩ := hid_at h
  obtain ⟨h3, h4⟩ := hid_at h2
  obtain ⟨h5, h6⟩ := hid_at h4
  exact ⟨h1, h3, h5, h6⟩
theorem gnd_of {p D R b : Addr} {H : Hp} {u : HO} (h1 : b ≠ R) (h2 : b ≠ D) (h3 : b ≠ p) (h : H b = some u) : gnd p D R H b = some u := by
  unfold gnd
  rw [hid_ne h1, hid_ne h2, hid_ne h3]
  exact h
/-- the two lists changed, all else of the ground stands -/
theorem gnd_upd {p D R q : Addr} {H : Hp} {o : HO} (h : q = D ∨ q = R) : Same (gnd p D R H) (gnd p D R (upd H q o)) := fun b u e => by
  obtain ⟨h1, h2, h3, h4⟩ := gnd_at e
  refine gnd_of h1 h2 h3 ?_
  rcases h with z | z
  · rw [upd_ne (by rw [z]; exact h2)]
    exact h4
  · rw [upd_ne (by rw [z]; exact h1)]
    exact h4
mutual
/-- plain data is none of the lists that change -/
theorem dq_gnd {K : PySem.W.Frag} {p D R : Addr} {H : Hp} {us vs : List V} (hD : H D = some (.lst us)) (hR : H R = some (.lst vs)) : ∀ (d : PyData) (v : V), d.hasDict = false → noList d = true → DQ K (hid p H) v d → DQ K (gnd p D R H) v d
  | .none, _, _, _, h => by
    cases h
    exact .non
  | .bool b, _, _, _, h => by
    cases h
    exact .bl b
  | .int i, _, _, _, h => by
    cases h
    exact .int i
  | .str x, _, _, _, h => by
    cases h with
    | str _ h => exact .str x h
  | .list ds, _, _, n, h => by cases n
  | .tuple ds, _, n, l, h => by
    cases h with
    | tup h1 h2 =>
      refine .tup ?_ (dqs_gnd hD hR ds _ n l h2)
      rcases h1 with (h | ⟨o, h⟩) | h
      · obtain ⟨h3, h4⟩ := hid_at h
        exact .inl (.inl (gnd_of (ne_of h4 hR (by intro z; cases z)) (ne_of h4 hD (by intro z; cases z)) h3 h4))
      · obtain ⟨h3, h4⟩ := hid_at h
        exact .inl (.inr ⟨o, gnd_of (ne_of h4 hR (by intro z; cases z)) (ne_of h4 hD (by intro z; cases z)) h3 h4⟩)
      · exact .inr h
  | .dict _, _, n, _, _ => by cases n
theorem dqs_gnd {K : PySem.W.Frag} {p D R : Addr} {H : Hp} {us vs : List V} (hD : H D = some (.lst us)) (hR : H R = some (.lst vs)) : ∀ (ds : List PyData) (xs : List V), PyData.hasDictAll ds = false → noListAll ds = true → DQs K (hid p H) xs ds → DQs K (gnd p D R H) xs ds
  | [], _, _, _, h => by
    cases h
    exact .nil
  | d :: ds, _, n, l, h => by
    have z : (d.hasDict || PyData.hasDictAll ds) = false := n
    rw [Bool.or_eq_false_iff] at z
    have y : (noList d && noListAll ds) = true := l
    rw [Bool.and_eq_true] at y
    cases h with
    | cons h1 h2 => exact .cons (dq_gnd hD hR d _ z.1 y.1 h1) (dqs_gnd hD hR ds _ z.2 y.2 h2)
end
/-- a row of times -/
def Row (K : PySem.W.Frag) (G : Hp) (u : V) (r : List Int) : Prop := ∃ a, u = .ref a ∧ SqL K G a (r.map V.int)
theorem Row.to {K : PySem.W.Frag} {G G' : Hp} {u : V} {r : List Int} (h : Row K G u r) (s : Same G G') : Row K G' u r := by
  obtain ⟨a, e, h⟩ := h
  exact ⟨a, e, s.seq h⟩
theorem paired_len {α β : Type} {F : α → β → Prop} : ∀ {l : List α} {m : List β}, Paired F l m → l.length = m.length
  | _, _, .nil => rfl
  | _, _, .cons r t => by rw [List.length_cons, List.length_cons, paired_len t]
theorem paired_get {α β : Type} {F : α → β → Prop} : ∀ {l : List α} {m : List β} {i : Nat} {b : β}, Paired F l m → m[i]? = some b → ∃ a, l[i]? = some a ∧ F a b
  | _, _, i, b, .nil, h => by simp at h
  | _, _, 0, b, .cons r t, h => by
    simp at h
    subst h
    exact ⟨_, rfl, r⟩
  | _, _, i + 1, b, .cons r t, h => by
    obtain ⟨v, h1, h2⟩ := paired_get (i := i) (b := b) t (by simpa using h)
    exact ⟨v, by simpa using h1, h2⟩
theorem paired_set {α β : Type} {F : α → β → Prop} {a : α} {b : β} (k : F a b) : ∀ {l : List α} {m : List β} (i : Nat), Paired F l m → Paired F (l.set i a) (m.set i b)
  | _, _, _, .nil => .nil
  | _, _, 0, .cons r t => .cons k t
  | _, _, i + 1, .cons r t => .cons r (paired_set k i t)
/-- the time of a deed -/
def stampT : PyData → Int
  | .tuple [s, _, _] => timeD s
  | _ => 0
/-- their stamps' tuples are no written ones -/
def Sts (K : PySem.W.Frag) (G : Hp) (us : List V) (ds : List PyData) : Prop := ∀ (i : Nat) (u : V) (e : PyData), us[i]? = some u → ds[i]? = some e → StT K G u e
theorem Sts.to {K : PySem.W.Frag} {G G' : Hp} {us : List V} {ds : List PyData} (h : Sts K G us ds) (s : Same G G') : Sts K G' us ds := fun i u e hu he => (h i u e hu he).to s
theorem Sts.app {K : PySem.W.Frag} {G : Hp} {us : List V} {ds : List PyData} {u : V} {d : PyData} (h : Sts K G us ds) (hl : us.length = ds.length) (k : StT K G u d) : Sts K G (us ++ [u]) (ds ++ [d]) := fun i u' e hu he => by
  rcases Nat.lt_or_ge i us.length with lt | ge
  · rw [List.getElem?_append_left lt] at hu
    rw [List.getElem?_append_left (by omega)] at he
    exact h i u' e hu he
  · rw [List.getElem?_append_right ge] at hu
    rw [List.getElem?_append_right (by omega)] at he
    have hi := (List.getElem?_eq_some_iff.mp hu).1
    have e0 : i - us.length = 0 := by
      have : ([u] : List V).length = 1 := rfl
      omega
    rw [e0] at hu
    rw [show i - ds.length = 0 by omega] at he
    cases hu
    cases he
    exact k
/-- the drawn world: a list of the deeds' list, the rows' list and how many hands -/
structure Wld (K : PySem.W.Frag) (p wd D R : Addr) (H : Hp) (ds : List PyData) (rs : List (List Int)) (m : Int) : Prop where
  src : Src H p
  wl : H wd = some (.lst [.ref D, .ref R, .int m])
  dl : ∃ us, H D = some (.lst us) ∧ DQs K (gnd p D R H) us ds
  st : ∀ us, H D = some (.lst us) → Sts K (gnd p D R H) us ds
  rl : ∃ vs, H R = some (.lst vs) ∧ Paired (Row K (gnd p D R H)) vs rs
  m0 : 1 ≤ m
  m3 : m ≤ 4
  r4 : rs.length = 4
  rr : ∀ r ∈ rs, r.length = 4 ∧ ∀ e ∈ r, 0 ≤ e ∧ e ≤ 5 * (ds.length : Int)
  right : ∀ d ∈ ds, deedD d = true ∧ stampT d ≤ 5 * (ds.length : Int)
  few : ds.length ≤ 11
  ne : wd ≠ p ∧ D ≠ p ∧ R ≠ p ∧ D ≠ R ∧ wd ≠ D ∧ wd ≠ R
theorem Wld.to {K : PySem.W.Frag} {p wd D R : Addr} {H H' : Hp} {ds : List PyData} {rs : List (List Int)} {m : Int} (h : Wld K p wd D R H ds rs m) (b : Bt p H H') : Wld K p wd D R H' ds rs m := by
  obtain ⟨us, h1, h2⟩ := h.dl
  obtain ⟨vs, h3, h4⟩ := h.rl
  have S := gnd_mono (D := D) (R := R) b.same
  exact ⟨b.src, b.at h.ne.1 h.wl, ⟨us, b.at h.ne.2.1 h1, h2.to S⟩, fun us' h' => by
    rw [b.at h.ne.2.1 h1] at h'
    cases h'
    exact (h.st us h1).to S, ⟨vs, b.at h.ne.2.2.1 h3, paired_imp (fun _ _ r => r.to S) h4⟩, h.m0, h.m3, h.r4, h.rr, h.right, h.few, h.ne⟩
/-- the deeds, as a list of right ones -/
theorem Wld.sm {K : PySem.W.Frag} {p wd D R : Addr} {H : Hp} {ds : List PyData} {rs : List (List Int)} {m : Int} (h : Wld K p wd D R H ds rs m) : ∃ us, H D = some (.lst us) ∧ Some K p H D us ds := by
  obtain ⟨us, h1, h2⟩ := h.dl
  exact ⟨us, h1, h.src, SqL.of (by rw [hid_ne h.ne.2.1]; exact h1), h2.to (gnd_hid p D R H), fun d hd => (h.right d hd).1, by have := h.few; omega⟩
/-- the row of a hand -/
theorem Wld.row {K : PySem.W.Frag} {p wd D R : Addr} {H : Hp} {ds : List PyData} {rs : List (List Int)} {m : Int} (h : Wld K p wd D R H ds rs m) {i : Nat} (hi : i < 4) : ∃ vs a a0 a1 a2 a3, H R = some (.lst vs) ∧ vs.length = 4 ∧ atI vs (i : Int) = some (.ref a) ∧ rs[i]? = some [a0, a1, a2, a3] ∧ SqL K (gnd p D R H) a [.int a0, .int a1, .int a2, .int a3] ∧ ∀ e ∈ [a0, a1, a2, a3], 0 ≤ e ∧ e ≤ 5 * (ds.length : Int) := by
  obtain ⟨vs, h3, h4⟩ := h.rl
  have hl := h.r4
  obtain ⟨r, hr⟩ : ∃ r, rs[i]? = some r := ⟨rs[i]'(by omega), List.getElem?_eq_getElem (by omega)⟩
  obtain ⟨u, hu, a, rfl, ha⟩ := paired_get h4 hr
  obtain ⟨l4, hb⟩ := h.rr r (List.mem_of_getElem? hr)
  match r, l4 with
  | [a0, a1, a2, a3], _ => exact ⟨vs, a, a0, a1, a2, a3, h3, by rw [paired_len h4, hl], atI_nat hu, hr, ha, hb⟩
/-- a right deed's numbers -/
theorem deed_nums {K : PySem.W.Frag} {H : Hp} {v : V} {d : PyData} (h : DQ K H v d) (r : deedD d = true) : ∃ (a : Addr) (xs : List V) (b c : Addr) (t j s0 s1 s2 s3 : Int), v = .ref a ∧ SqT K H a xs ∧ atI xs 0 = some (.ref b) ∧ atI xs 1 = some (.ref c) ∧ SqT K H b [.int t, .int j] ∧ SqT K H c [.int s0, .int s1, .int s2, .int s3] ∧ stampT d = t ∧ (1 ≤ t ∧ t ≤ 999) ∧ (0 ≤ j ∧ j ≤ 3) ∧ (∀ e ∈ [s0, s1, s2, s3], 0 ≤ e ∧ e ≤ t - 1) ∧ keyD d = [t, j] ∧ snD d = [s0, s1, s2, s3] := by
  obtain ⟨t, j, a, b, c, e, x, l, rfl, ht, hj, hk, hb⟩ := deed_shape r
  simp only [List.all_cons, List.all_nil, Bool.and_true, Bool.and_eq_true] at hk
  obtain ⟨k0, k1, k2, k3⟩ := hk
  obtain ⟨s0, rfl, z0⟩ := from_int k0
  obtain ⟨s1, rfl, z1⟩ := from_int k1
  obtain ⟨s2, rfl, z2⟩ := from_int k2
  obtain ⟨s3, rfl, z3⟩ := from_int k3
  cases h with
  | tup h1 h2 =>
    cases h2 with
    | cons q1 h2 =>
      cases h2 with
      | cons q2 h2 =>
        cases q1 with
        | tup g1 g2 =>
          cases q2 with
          | tup f1 f2 =>
            cases g2 with
            | cons g3 g4 =>
              cases g4 with
              | cons g5 g6 =>
                cases g3
                cases g5
                cases g6
                cases f2 with
                | cons f3 f4 =>
                  cases f4 with
                  | cons f5 f6 =>
                    cases f6 with
                    | cons f7 f8 =>
                      cases f8 with
                      | cons f9 f10 =>
                        cases f3
                        cases f5
                        cases f7
                        cases f9
                        cases f10
                        refine ⟨_, _, _, _, t, j, s0, s1, s2, s3, rfl, h1, atI_nat (j := 0) rfl, atI_nat (j := 1) rfl, g1, f1, rfl, ht, hj, fun e he => ?_, rfl, rfl⟩
                        simp only [List.mem_cons, List.not_mem_nil, or_false] at he
                        rcases he with z | z | z | z <;> subst z <;> assumption
end K1
namespace K1
open PySem L2
def spSeend (K : PySem.W.Frag) : Sp := fun vs H Q _ => ∃ p wd Dl Rl ds rs m, ∃ i : Nat, vs = [.ref wd, .int (i : Int)] ∧ i < 4 ∧ Wld K p wd Dl Rl H ds rs m ∧ ∀ H' a us ds', Bt p H H' → Some K p H' a us ds' → (∀ e ∈ ds', e ∈ ds ∧ tmD e ≤ (rs.getD i []).getD (handD e) 0) → Q (.ref a) H'
section
variable {P : Program} {w : World} {K : PySem.W.Frag} {mg : Str → Option Value} {base : Heap}
theorem sc_seend : FnScope ["_law_world_here", "_law_hand", "_law_seen", "_law_deed"] ["_law_world_here", "_law_hand"] (defScope (top 66)) := ⟨rfl, rfl, rfl, by decide +kernel, rfl, by decide +kernel, by decide +kernel⟩
theorem cl_seend (T : All K mg) : Cl P w K mg base 1 "_law_seen_deeds" ["_law_world_here", "_law_hand"] (spSeend K) := by
  obtain ⟨g, fd, D⟩ := T.dn 66 _ _ rfl
  refine D.cl (D.fn.ok sc_seend (fun vs H Q E h => ?_) (fun cdv A outer s H vs Q E hr h => ?_))
  · obtain ⟨p, wd, Dl, Rl, ds, rs, m, i, rfl, _⟩ := h
    rfl
  · obtain ⟨p, wd, Dl, Rl, ds, rs, m, i, rfl, hi, W, k⟩ := h
    refine ⟨_, (pss_cons (ps_set (i := 2) sc_seend.nd rfl (Or.inr rfl) (pe_ix ix_list (pe_ix ix_list (pv 0) pe_int (fun _ _ => rfl)) (pv 1) (fun _ _ => rfl)))
      (pss_one (ps_ret (pe_lc (own := [("_law_deed", 3)]) (g := gName 3) (te := tVar 3) (tt := tTest (tOp (rI0 fun i j => .bl (decide (i ≤ j))) (tOp (rIxT K) (tOp (rIxT K) (tVar 3) (tC (.int 0))) (tC (.int 0))) (tOp (rIxL K) (tVar 2) (tOp (rIxT K) (tOp (rIxT K) (tVar 3) (tC (.int 0))) (tC (.int 1)))))) rfl sc_seend.nd (pi_list (pe_ix ix_list (pv 0) pe_int (fun _ _ => rfl))) (blkOk_by (own := [("_law_deed", 3)]) (N := [("_law_world_here" : Str), ("_law_hand" : Str), ("_law_seen" : Str), ("_law_deed" : Str)]) (sc := defScope (top 66)) (by decide +kernel)) (fun _ _ _ _ _ => pg_name (i := 3) sc_seend.nd rfl (Or.inl rfl)) (fun _ _ _ _ _ => pts_one (pt_cmpR op_le (pe_ix ix_tup (pe_ix ix_tup (pv 3) pe_int (fun _ _ => rfl)) pe_int (fun _ _ => rfl)) (pe_ix ix_list (pv 2) (pe_ix ix_tup (pe_ix ix_tup (pv 3) pe_int (fun _ _ => rfl)) pe_int (fun _ _ => rfl)) (fun _ _ => rfl)) (nomark _))) (fun _ _ _ _ _ => pv 3))))), ?_⟩
    obtain ⟨vs, a, a0, a1, a2, a3, hR, lv, av, hrow, hs, hb⟩ := W.row hi
    obtain ⟨us, hD, S⟩ := W.sm
    refine ⟨_, rfl, wd, _, _, _, rfl, rfl, SqL.of W.wl, atI_nat (j := 1) rfl, _, rfl, Rl, vs, _, _, rfl, rfl, SqL.of hR, av, ?_⟩
    refine ⟨_, rfl, wd, _, _, _, rfl, rfl, SqL.of W.wl, atI_nat (j := 0) rfl, Dl, rfl, ⟨us, SqL.of hD⟩, fun Dd nD => ?_⟩
    refine lc_deeds (j := 3) (fun e => tmD e ≤ (rs.getD i []).getD (handD e) 0) S nD (fun _ => rfl) (fun _ => rfl) (fun u d H' Qb hr' hq b kb => ?_) (fun H1 acc1 es1 b1 e1 q1 st1 l1 => ?_)
    · obtain ⟨ad, xs, bs, cs, t, j, s0, s1, s2, s3, rfl, ht, i0, i1, hbs, hcs, et, ht', hj, hse, ekey, esn⟩ := deed_nums hq hr'
      have Sv := b.same.trans (hid_same p H')
      have x0 := K0.seqT_same Sv ht
      have x1 := K0.seqT_same Sv hbs
      have x2 := (((gnd_hid p Dl Rl H).trans b.same).trans (hid_same p H')).seq hs
      obtain ⟨z, hz, hzz⟩ : ∃ z : Int, atI [V.int a0, .int a1, .int a2, .int a3] j = some (.int z) ∧ z = [a0, a1, a2, a3].getD j.toNat 0 := by
        obtain rfl | rfl | rfl | rfl : j = 0 ∨ j = 1 ∨ j = 2 ∨ j = 3 := by omega
        · exact ⟨a0, rfl, rfl⟩
        · exact ⟨a1, rfl, rfl⟩
        · exact ⟨a2, rfl, rfl⟩
        · exact ⟨a3, rfl, rfl⟩
      refine ⟨_, rfl, ad, xs, _, _, rfl, rfl, x0, i0, bs, _, _, _, rfl, rfl, x1, atI_nat (j := 0) rfl, _, rfl, _, rfl, ad, xs, _, _, rfl, rfl, x0, i0, bs, _, _, _, rfl, rfl, x1, atI_nat (j := 1) rfl, a, _, _, _, rfl, rfl, x2, hz, _, _, rfl, rfl, _, rfl, kb _ H' (Bt.refl b.src) fun hle => ?_⟩
      rw [time_of ekey, hand_of ekey, row_get hrow, ← hzz]
      exact of_decide_eq_true hle
    · have ne1 := (Bt.refl W.src).ne nD
      exact k H1 Dd acc1 es1 b1 (Some.sub (ds := ds) b1 nD ne1 e1 q1 (fun e he => (W.right e (st1 e he).1).1) (by have := W.few; omega)) st1
end
end K1
namespace K1
open PySem L2
def rI1 : List V → Hp → VK → Prop := fun xs H Q => (∃ i, xs = [.int i] ∧ Q (.int i) H) ∨ ∃ k, xs = [.bl k] ∧ Q (.int (if k then 1 else 0)) H
/-- beside a world: the source and the rows are what changes -/
def spLearn (K : PySem.W.Frag) : Sp := fun vs H Q _ => ∃ p wd Dl Rl ds rs m, ∃ i : Nat, vs = [.ref p, .ref wd, .int (i : Int)] ∧ i < 4 ∧ Wld K p wd Dl Rl H ds rs m ∧ Ok ds rs ∧ ∀ H' rs', Same (gnd p Dl Rl H) (gnd p Dl Rl H') → Wld K p wd Dl Rl H' ds rs' m → Ok ds rs' → Q .non H'
theorem getD4 {l : List Int} {t : Nat} (h : l.length = 4) (ht : t < 4) : (l.map V.int)[t]? = some (V.int (l.getD t 0)) := by
  rw [List.getElem?_map, List.getD_eq_getElem?_getD, List.getElem?_eq_getElem (by omega)]
  rfl
theorem mem4 {l : List Int} {t : Nat} (h : l.length = 4) (ht : t < 4) : l.getD t 0 ∈ l := by
  rw [List.getD_eq_getElem?_getD, List.getElem?_eq_getElem (by omega)]
  exact List.getElem_mem _
/-- a row put in its place -/
theorem Wld.put {K : PySem.W.Frag} {p wd Dl Rl q : Addr} {H : Hp} {ds : List PyData} {rs : List (List Int)} {m : Int} {vs : List V} (h : Wld K p wd Dl Rl H ds rs m) (hR : H Rl = some (.lst vs)) {i : Nat} {r : List Int} (hq : SqL K (gnd p Dl Rl H) q (r.map V.int)) (hl : r.length = 4)
    (hb : ∀ e ∈ r, 0 ≤ e ∧ e ≤ 5 * (ds.length : Int)) : Same (gnd p Dl Rl H) (gnd p Dl Rl (upd H Rl (.lst (vs.set i (.ref q))))) ∧ Wld K p wd Dl Rl (upd H Rl (.lst (vs.set i (.ref q)))) ds (rs.set i r) m := by
  have S : Same (gnd p Dl Rl H) (gnd p Dl Rl (upd H Rl (.lst (vs.set i (.ref q))))) := gnd_upd (.inr rfl)
  obtain ⟨us, h1, h2⟩ := h.dl
  obtain ⟨vs', h3, h4⟩ := h.rl
  rw [hR] at h3
  cases h3
  obtain ⟨n1, n2, n3, n4, n5, n6⟩ := h.ne
  obtain ⟨x, y, e, z⟩ := h.src
  refine ⟨S, ⟨x, y, by rw [upd_ne (Ne.symm n3)]; exact e, z⟩, by rw [upd_ne n6]; exact h.wl, ⟨us, by rw [upd_ne n4]; exact h1, h2.to S⟩, fun us' h' => by
    rw [upd_ne n4] at h'
    exact (h.st us' h').to S, ⟨_, upd_same, paired_imp (fun _ _ r => r.to S) (paired_set ⟨q, rfl, hq⟩ i h4)⟩, h.m0, h.m3, by rw [List.length_set]; exact h.r4, fun r' hr' => ?_, h.right, h.few, h.ne⟩
  rcases List.mem_or_eq_of_mem_set hr' with z | z
  · exact h.rr r' z
  · rw [z]
    exact ⟨hl, hb⟩
section
variable {P : Program} {w : World} {K : PySem.W.Frag} {mg : Str → Option Value} {base : Heap}
theorem sc_learn : FnScope ["_law_source", "_law_world_here", "_law_hand", "_law_other", "_law_some", "_law_seen", "_law_deed", "_law_k"] ["_law_source", "_law_world_here", "_law_hand"] (defScope (top 67)) := ⟨rfl, rfl, rfl, by decide +kernel, rfl, by decide +kernel, by decide +kernel⟩
theorem cl_learn (T : All K mg) (M : Nms mg) (M2 : Nms2 mg) : Cl P w K mg base 3 "_law_learn" ["_law_source", "_law_world_here", "_law_hand"] (spLearn K) := by
  obtain ⟨g, fd, D⟩ := T.dn 67 _ _ rfl
  refine D.cl (D.fn.ok sc_learn (fun vs H Q E h => ?_) (fun cdv A outer s H vs Q E hr h => ?_))
  · obtain ⟨p, wd, Dl, Rl, ds, rs, m, i, rfl, _⟩ := h
    rfl
  · obtain ⟨p, wd, Dl, Rl, ds, rs, m, i, rfl, hi, W, ok, k⟩ := h
    refine ⟨_, (pss_cons (ps_set (i := 3) sc_learn.nd rfl (Or.inr rfl) (pe_cl (cl_takeB T M) hr (by decide) (pa_cons (pv 0) (pa_cons (pe_ix ix_list (pv 1) pe_int (fun _ _ => rfl)) pa_nil))))
      (pss_cons (ps_setLc (i := 4) (own := [("_law_deed", 6)]) (g := gName 6) (te := tVar 6) (tt := tTest (tOp rEq (tOp (rIxT K) (tOp (rIxT K) (tVar 6) (tC (.int 0))) (tC (.int 1))) (tVar 3))) rfl sc_learn.nd rfl rfl (sw_true rfl rfl rfl (by decide +kernel)) (pi_list (pe_ix ix_list (pv 1) pe_int (fun _ _ => rfl))) (blkOk_by (own := [("_law_deed", 6)]) (N := [("_law_source" : Str), ("_law_world_here" : Str), ("_law_hand" : Str), ("_law_other" : Str), ("_law_some" : Str), ("_law_seen" : Str), ("_law_deed" : Str), ("_law_k" : Str)]) (sc := defScope (top 67)) (by decide +kernel)) (fun _ _ _ _ _ => pg_name (i := 6) sc_learn.nd rfl (Or.inl rfl)) (fun _ _ _ _ _ => pts_one (pt_cmpR op_eq (pe_ix ix_tup (pe_ix ix_tup (pv 6) pe_int (fun _ _ => rfl)) pe_int (fun _ _ => rfl)) (pv 3) (nomark _))) (fun _ _ _ _ _ => pv 6))
      (pss_cons (ps_set (i := 5) sc_learn.nd rfl (Or.inr rfl) (pe_callTy call_list_of (by rfl) M2.list (by decide +kernel) (pa_cons (pe_ix ix_list (pe_ix ix_list (pv 1) pe_int (fun _ _ => rfl)) (pv 3) (fun _ _ => rfl)) pa_nil)))
      (pss_cons (ps_if (PW.pt (pw_and (pt_cmpR (op_neE hr.units) (pv 4) (pe_lst pa_nil) (nomark _)) (pw_and1 (pt_cmpR op_eq (pe_cl (cl_takeB T M) hr (by decide) (pa_cons (pv 0) (pa_cons pe_int pa_nil))) pe_int (nomark _))))) (pss_cons (ps_set (i := 6) sc_learn.nd rfl (Or.inl rfl) (pe_cl (cl_one T M) hr (by decide) (pa_cons (pv 0) (pa_cons (pv 4) pa_nil))))
      (pss_cons (ps_set (i := 5) sc_learn.nd rfl (Or.inr rfl) (pe_callTy call_list_of (by rfl) M2.list (by decide +kernel) (pa_cons (pe_ix ix_tup (pv 6) pe_int (fun _ _ => rfl)) pa_nil)))
      (pss_one (ps_asg (pe_ix ix_tup (pe_ix ix_tup (pv 6) pe_int (fun _ _ => rfl)) pe_int (fun _ _ => rfl)) (pg_sub (pv 5) (pv 3) set_list))))) pss_nil)
      (pss_one (ps_asg (pe_lc (own := [("_law_k", 7)]) (g := gName 7) (tt := tYes) (te := tCB (fun xs H Q => ∃ i j, xs = [.int i, .int j] ∧ Q (.int (if j > i then j else i)) H) (tCons (tCB rI1 (tCons (tOp (rIxL K) (tVar 5) (tVar 7)) tNil)) (tCons (tCB rI1 (tCons (tOp (rIxL K) (tOp (rIxL K) (tOp (rIxL K) (tVar 1) (tC (.int 1))) (tVar 2)) (tVar 7)) tNil)) tNil))) rfl sc_learn.nd (pi_range1 rfl M2.range (pa_cons pe_int pa_nil)) (blkOk_by (own := [("_law_k", 7)]) (N := [("_law_source" : Str), ("_law_world_here" : Str), ("_law_hand" : Str), ("_law_other" : Str), ("_law_some" : Str), ("_law_seen" : Str), ("_law_deed" : Str), ("_law_k" : Str)]) (sc := defScope (top 67)) (by decide +kernel)) (fun _ _ _ _ _ => pg_name (i := 7) sc_learn.nd rfl (Or.inl rfl)) (fun _ _ _ _ _ => pts_nil) (fun _ _ _ _ _ => (pe_callB (call_max2 rfl) (by rfl) M.max (by decide +kernel) (pa_cons (pe_callTy call_int1 (by rfl) M.int (by decide +kernel) (pa_cons (pe_ix ix_list (pv 5) (pv 7) (fun _ _ => rfl)) pa_nil)) (pa_cons (pe_callTy call_int1 (by rfl) M.int (by decide +kernel) (pa_cons (pe_ix ix_list (pe_ix ix_list (pe_ix ix_list (pv 1) pe_int (fun _ _ => rfl)) (pv 2) (fun _ _ => rfl)) (pv 7) (fun _ _ => rfl)) pa_nil)) pa_nil))))) (pg_sub (pe_ix ix_list (pv 1) pe_int (fun _ _ => rfl)) (pv 2) set_list))))))), ?_⟩
    have M0 := W.m0
    have M3 := W.m3
    refine ⟨_, rfl, _, rfl, wd, _, _, _, rfl, rfl, SqL.of W.wl, atI_nat (j := 2) rfl, p, m, rfl, W.src, by omega, by omega, fun o H1 o0 o1 b1 => ?_⟩
    obtain ⟨o, rfl⟩ : ∃ n : Nat, o = (n : Int) := ⟨o.toNat, by omega⟩
    have W1 := W.to b1
    obtain ⟨us, hD, S⟩ := W1.sm
    refine ⟨_, rfl, wd, _, _, _, rfl, rfl, SqL.of W1.wl, atI_nat (j := 0) rfl, Dl, rfl, ⟨us, SqL.of hD⟩, fun D2 n2 => ?_⟩
    refine lc_deeds (j := 6) (fun e => handD e = o) S n2 (fun _ => rfl) (fun _ => rfl) (fun u d H' Qb hr' hq b kb => ?_) (fun H2 acc es b2 e2 q2 st2 l2 => ?_)
    · obtain ⟨ad, xs, bs, cs, t, j, s0, s1, s2, s3, rfl, ht, i0, i1, hbs, hcs, et, ht', hj, hse, ekey, esn⟩ := deed_nums hq hr'
      have Sv := b.same.trans (hid_same p H')
      refine ⟨_, rfl, ad, xs, _, _, rfl, rfl, K0.seqT_same Sv ht, i0, bs, _, _, _, rfl, rfl, K0.seqT_same Sv hbs, atI_nat (j := 1) rfl, _, rfl, rfl, _, rfl, kb _ H' (Bt.refl b.src) fun hle => ?_⟩
      have hje : V.int j = V.int (o : Int) := of_decide_eq_true hle
      rw [hand_of ekey, V.int.inj hje]
      exact Int.toNat_natCast o
    · have ne2 := (Bt.refl W1.src).ne n2
      have W2 := W1.to b2
      have b12 := b1.trans b2
      have so := Some.sub (ds := ds) b2 n2 ne2 e2 q2 (fun e he => (W.right e (st2 e he).1).1) (by have := W.few; omega)
      obtain ⟨vs2, aO, z0, z1, z2, z3, hR2, lv2, av2, hrow2, hs2, hb2⟩ := W2.row (i := o) (by omega)
      refine ⟨_, rfl, wd, _, _, _, rfl, rfl, SqL.of W2.wl, atI_nat (j := 1) rfl, _, rfl, Rl, vs2, _, _, rfl, rfl, SqL.of hR2, av2, aO, _, rfl, .inl ((gnd_in p Dl Rl H2).seq hs2), fun q3 n3 => ?_⟩
      have b3 := b12.new (o := .lst [.int z0, .int z1, .int z2, .int z3]) n3
      have c3 := (Bt.refl b12.src).new (o := .lst [.int z0, .int z1, .int z2, .int z3]) n3
      have ne3 := b12.ne n3
      have f3 := @upd_same H2 q3 (.lst [.int z0, .int z1, .int z2, .int z3])
      have so3 := so.to c3
      have fD : upd H2 q3 (.lst [.int z0, .int z1, .int z2, .int z3]) D2 = some (.lst acc) := (upd_ne (ne_of_none e2 n3)).trans e2
      have new3 : H q3 = none ∨ True := .inr trivial
      generalize upd H2 q3 (.lst [.int z0, .int z1, .int z2, .int z3]) = H3 at b3 c3 f3 so3 fD ⊢
      have L2' := so3.all.len
      refine ⟨_, rfl, Nat.zero_le _, fun q4 n4 => ⟨D2, q4, acc, rfl, rfl, SqL.of ((upd_ne (ne_of_none fD n4)).trans fD), SqL.of upd_same, _, rfl, ?_⟩⟩
      have b4 := b3.new (o := .lst []) n4
      have c4 := (Bt.refl b3.src).new (o := .lst []) n4
      have so4 := so3.to c4
      have f4 := c4.at ne3 f3
      generalize upd H3 q4 (.lst []) = H4 at b4 c4 so4 f4 ⊢
      have zl : [z0, z1, z2, z3].length = 4 := rfl
      cases ea : acc.isEmpty with
      | true =>
        refine iteF ?_
        have W5 := W.to b4
        obtain ⟨vs5, k5, k0, k1, k2, k3, hR5, lv5, av5, hrow5, hs5, hb5⟩ := W5.row hi
        refine ⟨_, rfl, by decide, by decide, fun Dd nD => K0.lc_funR (n := 4) (fun n => .int (if [k0, k1, k2, k3].getD n 0 > ([z0, z1, z2, z3]).getD n 0 then [k0, k1, k2, k3].getD n 0 else ([z0, z1, z2, z3]).getD n 0)) nD (by decide) (fun _ => rfl) (fun n J2 QQ ht S2 q2 => ?_) (fun J2 S2 e2 => ?_)⟩
        · exact ⟨_, rfl, _, rfl, q3, _, _, _, rfl, rfl, SqL.of (S2 _ _ f4), (by rw [Int.zero_add]; exact atI_nat (getD4 zl ht)), .inl ⟨_, rfl, _, rfl, wd, _, _, _, rfl, rfl, SqL.of (S2 _ _ W5.wl), atI_nat (j := 1) rfl, _, rfl, Rl, vs5, _, _, rfl, rfl, SqL.of (S2 _ _ hR5), av5, _, rfl, k5, _, _, _, rfl, rfl, S2.seq ((gnd_in p Dl Rl _).seq hs5), (by rw [Int.zero_add]; exact atI_nat (getD4 (l := [k0, k1, k2, k3]) rfl ht)), .inl ⟨_, rfl, _, _, rfl, q2⟩⟩⟩
        · have G2 : Same (hid p H4) (hid p J2) := hid_mono S2
          have bJ : Bt p H4 J2 := ⟨G2, by obtain ⟨x, y, z, r⟩ := W5.src; exact ⟨x, y, S2 _ _ z, r⟩⟩
          have W6 := W5.to bJ
          have hR6 := S2 _ _ hR5
          obtain ⟨us6, hD6, _⟩ := W6.sm
          obtain ⟨us5, hD5, _⟩ := W5.sm
          have neR : Dd ≠ Rl := Ne.symm (ne_of_none hR5 nD)
          have neD : Dd ≠ Dl := Ne.symm (ne_of_none hD5 nD)
          have nep : Dd ≠ p := (Bt.refl W5.src).ne nD
          have P6 := W6.put hR6 (i := i) (r := (List.range 4).map fun n => if [k0, k1, k2, k3].getD n 0 > ([z0, z1, z2, z3]).getD n 0 then [k0, k1, k2, k3].getD n 0 else ([z0, z1, z2, z3]).getD n 0) (q := Dd) (by rw [List.map_map]; exact SqL.of (gnd_of neR neD nep e2)) rfl (fun e he => ?_)
          · exact ⟨_, rfl, wd, _, _, _, rfl, rfl, SqL.of W6.wl, atI_nat (j := 1) rfl, _, rfl, Rl, vs5, _, i, rfl, rfl, hR6, by rw [lv5]; exact ixN4 hi, k _ _ ((gnd_mono (b4.trans bJ).same).trans P6.1) P6.2 (by
            have y := ok.learn W.r4 hi (ok.rows _ (List.mem_of_getElem? hrow2))
            rw [row_get hrow5] at y
            exact y)⟩
          · obtain ⟨n, ht, rfl⟩ := List.mem_map.mp he
            rw [List.mem_range] at ht
            have y1 := hb2 _ (mem4 zl ht)
            have y2 := hb5 _ (mem4 (l := [k0, k1, k2, k3]) rfl ht)
            by_cases c : [k0, k1, k2, k3].getD n 0 > ([z0, z1, z2, z3]).getD n 0
            · rw [if_pos c]
              exact y2
            · rw [if_neg c]
              exact y1
      | false =>
        have pos : 0 < es.length := by
          have z : acc ≠ [] := fun z => by
            rw [z] at ea
            cases ea
          have := List.length_pos_iff.mpr z
          omega
        refine iteT ⟨_, rfl, p, 3, rfl, b4.src, by decide, by decide, fun r H5 r0 r1 b5 => ⟨rfl, _, rfl, ite2 (fun _ => ?_) (fun _ => ?_)⟩⟩
        · have so5 := so4.to b5
          refine ⟨_, rfl, _, rfl, p, D2, acc, es, rfl, b5.src, so5.seq, so5.all, pos, by have := so5.few; omega, fun H6 u d hd b6 hq => ?_⟩
          have b46 := (b4.trans b5).trans b6
          obtain ⟨hdR, hdT⟩ := W.right d (st2 d hd).1
          obtain ⟨ad, xs, bs, cs, t, j, s0, s1, s2, s3, rfl, ht, i0, i1, hbs, hcs, et, ht', hj, hse, ekey, esn⟩ := deed_nums hq hdR
          refine ⟨_, rfl, ad, xs, _, _, rfl, rfl, K0.seqT_same (hid_same p H6) ht, i1, cs, _, rfl, .inr (K0.seqT_same (hid_same p H6) hcs), fun q7 n7 => ?_⟩
          have b7 := b46.new (o := .lst [.int s0, .int s1, .int s2, .int s3]) n7
          have c7 := (Bt.refl b46.src).new (o := .lst [.int s0, .int s1, .int s2, .int s3]) n7
          have ne7 := b46.ne n7
          have f7 := @upd_same H6 q7 (.lst [.int s0, .int s1, .int s2, .int s3])
          have n70 : H q7 = none := by
            cases e : H q7 with
            | none => rfl
            | some x =>
              rw [b46.at ne7 e] at n7
              cases n7
          generalize upd H6 q7 (.lst [.int s0, .int s1, .int s2, .int s3]) = H7 at b7 c7 f7 ⊢
          have ht7 := K0.seqT_same (c7.same.trans (hid_same p H7)) ht
          have hb7 := K0.seqT_same (c7.same.trans (hid_same p H7)) hbs
          refine ⟨_, rfl, ad, xs, _, _, rfl, rfl, ht7, i0, bs, _, _, _, rfl, rfl, hb7, atI_nat (j := 0) rfl, _, rfl, _, rfl, q7, _, _, o, rfl, rfl, f7, ixN4 (by omega), ?_⟩
          have b8 : Bt p H (upd H7 q7 (.lst ([V.int s0, .int s1, .int s2, .int s3].set o (.int t)))) := b7.over n70 ne7
          have f8 := @upd_same H7 q7 (.lst ([V.int s0, .int s1, .int s2, .int s3].set o (.int t)))
          rw [show [V.int s0, .int s1, .int s2, .int s3].set o (.int t) = ([s0, s1, s2, s3].set o t).map V.int from (List.map_set (f := V.int) (l := [s0, s1, s2, s3]) (i := o) (a := t)).symm] at b8 f8 ⊢
          generalize upd H7 q7 (.lst (([s0, s1, s2, s3].set o t).map V.int)) = H8 at b8 f8 ⊢
          have sl : ([s0, s1, s2, s3].set o t).length = 4 := by rw [List.length_set]; rfl
          have sb : ∀ e ∈ [s0, s1, s2, s3].set o t, 0 ≤ e ∧ e ≤ 5 * (ds.length : Int) := fun e he => by
            rw [et] at hdT
            rcases List.mem_or_eq_of_mem_set he with z | z
            · have := hse e z
              omega
            · omega
          have W5 := W.to b8
          obtain ⟨vs5, k5, k0, k1, k2, k3, hR5, lv5, av5, hrow5, hs5, hb5⟩ := W5.row hi
          refine ⟨_, rfl, by decide, by decide, fun Dd nD => K0.lc_funR (n := 4) (fun n => .int (if [k0, k1, k2, k3].getD n 0 > ([s0, s1, s2, s3].set o t).getD n 0 then [k0, k1, k2, k3].getD n 0 else ([s0, s1, s2, s3].set o t).getD n 0)) nD (by decide) (fun _ => rfl) (fun n J2 QQ ht S2 q2 => ?_) (fun J2 S2 e2 => ?_)⟩
          · exact ⟨_, rfl, _, rfl, q7, _, _, _, rfl, rfl, SqL.of (S2 _ _ f8), (by rw [Int.zero_add]; exact atI_nat (getD4 sl ht)), .inl ⟨_, rfl, _, rfl, wd, _, _, _, rfl, rfl, SqL.of (S2 _ _ W5.wl), atI_nat (j := 1) rfl, _, rfl, Rl, vs5, _, _, rfl, rfl, SqL.of (S2 _ _ hR5), av5, _, rfl, k5, _, _, _, rfl, rfl, S2.seq ((gnd_in p Dl Rl _).seq hs5), (by rw [Int.zero_add]; exact atI_nat (getD4 (l := [k0, k1, k2, k3]) rfl ht)), .inl ⟨_, rfl, _, _, rfl, q2⟩⟩⟩
          · have G2 : Same (hid p H8) (hid p J2) := hid_mono S2
            have bJ : Bt p H8 J2 := ⟨G2, by obtain ⟨x, y, z, r⟩ := W5.src; exact ⟨x, y, S2 _ _ z, r⟩⟩
            have W6 := W5.to bJ
            have hR6 := S2 _ _ hR5
            obtain ⟨us6, hD6, _⟩ := W6.sm
            obtain ⟨us5, hD5, _⟩ := W5.sm
            have neR : Dd ≠ Rl := Ne.symm (ne_of_none hR5 nD)
            have neD : Dd ≠ Dl := Ne.symm (ne_of_none hD5 nD)
            have nep : Dd ≠ p := (Bt.refl W5.src).ne nD
            have P6 := W6.put hR6 (i := i) (r := (List.range 4).map fun n => if [k0, k1, k2, k3].getD n 0 > ([s0, s1, s2, s3].set o t).getD n 0 then [k0, k1, k2, k3].getD n 0 else ([s0, s1, s2, s3].set o t).getD n 0) (q := Dd) (by rw [List.map_map]; exact SqL.of (gnd_of neR neD nep e2)) rfl (fun e he => ?_)
            · exact ⟨_, rfl, wd, _, _, _, rfl, rfl, SqL.of W6.wl, atI_nat (j := 1) rfl, _, rfl, Rl, vs5, _, i, rfl, rfl, hR6, by rw [lv5]; exact ixN4 hi, k _ _ ((gnd_mono (b8.trans bJ).same).trans P6.1) P6.2 (by
            have y := ok.learn W.r4 hi (ok.upto (st2 d hd).1)
            rw [row_get hrow5, esn, (st2 d hd).2, time_of ekey] at y
            exact y)⟩
            · obtain ⟨n, ht, rfl⟩ := List.mem_map.mp he
              rw [List.mem_range] at ht
              have y1 := sb _ (mem4 sl ht)
              have y2 := hb5 _ (mem4 (l := [k0, k1, k2, k3]) rfl ht)
              by_cases c : [k0, k1, k2, k3].getD n 0 > ([s0, s1, s2, s3].set o t).getD n 0
              · rw [if_pos c]
                exact y2
              · rw [if_neg c]
                exact y1
        · have b45 := b4.trans b5
          have f5 := b5.at ne3 f4
          have W5 := W.to b45
          obtain ⟨vs5, k5, k0, k1, k2, k3, hR5, lv5, av5, hrow5, hs5, hb5⟩ := W5.row hi
          refine ⟨_, rfl, by decide, by decide, fun Dd nD => K0.lc_funR (n := 4) (fun n => .int (if [k0, k1, k2, k3].getD n 0 > ([z0, z1, z2, z3]).getD n 0 then [k0, k1, k2, k3].getD n 0 else ([z0, z1, z2, z3]).getD n 0)) nD (by decide) (fun _ => rfl) (fun n J2 QQ ht S2 q2 => ?_) (fun J2 S2 e2 => ?_)⟩
          · exact ⟨_, rfl, _, rfl, q3, _, _, _, rfl, rfl, SqL.of (S2 _ _ f5), (by rw [Int.zero_add]; exact atI_nat (getD4 zl ht)), .inl ⟨_, rfl, _, rfl, wd, _, _, _, rfl, rfl, SqL.of (S2 _ _ W5.wl), atI_nat (j := 1) rfl, _, rfl, Rl, vs5, _, _, rfl, rfl, SqL.of (S2 _ _ hR5), av5, _, rfl, k5, _, _, _, rfl, rfl, S2.seq ((gnd_in p Dl Rl _).seq hs5), (by rw [Int.zero_add]; exact atI_nat (getD4 (l := [k0, k1, k2, k3]) rfl ht)), .inl ⟨_, rfl, _, _, rfl, q2⟩⟩⟩
          · have G2 : Same (hid p H5) (hid p J2) := hid_mono S2
            have bJ : Bt p H5 J2 := ⟨G2, by obtain ⟨x, y, z, r⟩ := W5.src; exact ⟨x, y, S2 _ _ z, r⟩⟩
            have W6 := W5.to bJ
            have hR6 := S2 _ _ hR5
            obtain ⟨us6, hD6, _⟩ := W6.sm
            obtain ⟨us5, hD5, _⟩ := W5.sm
            have neR : Dd ≠ Rl := Ne.symm (ne_of_none hR5 nD)
            have neD : Dd ≠ Dl := Ne.symm (ne_of_none hD5 nD)
            have nep : Dd ≠ p := (Bt.refl W5.src).ne nD
            have P6 := W6.put hR6 (i := i) (r := (List.range 4).map fun n => if [k0, k1, k2, k3].getD n 0 > ([z0, z1, z2, z3]).getD n 0 then [k0, k1, k2, k3].getD n 0 else ([z0, z1, z2, z3]).getD n 0) (q := Dd) (by rw [List.map_map]; exact SqL.of (gnd_of neR neD nep e2)) rfl (fun e he => ?_)
            · exact ⟨_, rfl, wd, _, _, _, rfl, rfl, SqL.of W6.wl, atI_nat (j := 1) rfl, _, rfl, Rl, vs5, _, i, rfl, rfl, hR6, by rw [lv5]; exact ixN4 hi, k _ _ ((gnd_mono (b45.trans bJ).same).trans P6.1) P6.2 (by
            have y := ok.learn W.r4 hi (ok.rows _ (List.mem_of_getElem? hrow2))
            rw [row_get hrow5] at y
            exact y)⟩
            · obtain ⟨n, ht, rfl⟩ := List.mem_map.mp he
              rw [List.mem_range] at ht
              have y1 := hb2 _ (mem4 zl ht)
              have y2 := hb5 _ (mem4 (l := [k0, k1, k2, k3]) rfl ht)
              by_cases c : [k0, k1, k2, k3].getD n 0 > ([z0, z1, z2, z3]).getD n 0
              · rw [if_pos c]
                exact y2
              · rw [if_neg c]
                exact y1
end
end K1
namespace K1
open PySem L2
theorem Wld.app {K : PySem.W.Frag} {p wd Dl Rl : Addr} {H : Hp} {ds : List PyData} {rs : List (List Int)} {m : Int} {us : List V} {u : V} {d : PyData} (h : Wld K p wd Dl Rl H ds rs m) (hD : H Dl = some (.lst us)) (hq : DQ K (gnd p Dl Rl H) u d) (hst : StT K (gnd p Dl Rl H) u d) (r : deedD d = true) (ht : stampT d ≤ 5 * (ds.length : Int) + 5) (few : ds.length < 11) :
    Same (gnd p Dl Rl H) (gnd p Dl Rl (upd H Dl (.lst (us ++ [u])))) ∧ Wld K p wd Dl Rl (upd H Dl (.lst (us ++ [u]))) (ds ++ [d]) rs m := by
  have S : Same (gnd p Dl Rl H) (gnd p Dl Rl (upd H Dl (.lst (us ++ [u])))) := gnd_upd (.inl rfl)
  obtain ⟨us', h1, h2⟩ := h.dl
  rw [hD] at h1
  cases h1
  obtain ⟨vs', h3, h4⟩ := h.rl
  obtain ⟨n1, n2, n3, n4, n5, n6⟩ := h.ne
  obtain ⟨x, y, e, z⟩ := h.src
  have L : (ds ++ [d]).length = ds.length + 1 := by rw [List.length_append]; rfl
  refine ⟨S, ⟨x, y, by rw [upd_ne (Ne.symm n2)]; exact e, z⟩, by rw [upd_ne n5]; exact h.wl, ⟨_, upd_same, (h2.to S).app (.cons (hq.to S) .nil)⟩, fun us' h' => by
    rw [upd_same] at h'
    cases h'
    exact ((h.st us hD).to S).app h2.len (hst.to S), ⟨vs', by rw [upd_ne (Ne.symm n4)]; exact h3, paired_imp (fun _ _ r => r.to S) h4⟩, h.m0, h.m3, h.r4, fun r hr => ⟨(h.rr r hr).1, fun e he => ?_⟩, fun x hx => ?_, by rw [L]; omega, h.ne⟩
  · have := (h.rr r hr).2 e he
    rw [L]
    omega
  · rw [L]
    rcases List.mem_append.mp hx with z | z
    · have := h.right x z
      exact ⟨this.1, by omega⟩
    · rw [List.mem_singleton.mp z]
      exact ⟨r, by omega⟩
def spDo (K : PySem.W.Frag) : Sp := fun vs H Q _ => ∃ p wd Dl Rl ds rs m, ∃ i : Nat, ∃ ub x l, vs = [.ref p, .ref wd, .int (i : Int), ub] ∧ i < 4 ∧ ds.length < 11 ∧ Wld K p wd Dl Rl H ds rs m ∧ DQ K (gnd p Dl Rl H) ub (.tuple (.str x :: l)) ∧ bodyR x l = true ∧ Ok ds rs ∧ (∀ k ∈ keysOf (namedD x l), ∃ e ∈ ds, keyD e = k ∧ tmD e ≤ (rs.getD i []).getD (handD e) 0) ∧
  ∀ H' a t rs' d, Same (gnd p Dl Rl H) (gnd p Dl Rl H') → Wld K p wd Dl Rl H' (ds ++ [d]) rs' m → SqT K (gnd p Dl Rl H') a [.int t, .int (i : Int)] → 1 ≤ t → t ≤ 999 → Ok (ds ++ [d]) rs' → keyD d = [t, (i : Int)] → Q (.ref a) H'
theorem plus_of {d : PyData} (h : d ∈ ([.int 0, .int 0, .int 0, .int 1, .int 4] : List PyData)) : ∃ c : Int, d = .int c ∧ 0 ≤ c ∧ c ≤ 4 := by
  simp only [List.mem_cons, List.not_mem_nil, or_false] at h
  rcases h with z | z | z | z | z
  all_goals exact ⟨_, z, by decide, by decide⟩
theorem deed_made {t a0 a1 a2 a3 : Int} {i : Nat} {x : Str} {l : List PyData} (ht : 1 ≤ t ∧ t ≤ 999) (hi : i < 4) (h : ∀ e ∈ [a0, a1, a2, a3], 0 ≤ e ∧ e ≤ t - 1) (hb : bodyR x l = true) : deedD (.tuple [.tuple [.int t, .int (i : Int)], .tuple [.int a0, .int a1, .int a2, .int a3], .tuple (.str x :: l)]) = true := by
  have f : ∀ e ∈ [a0, a1, a2, a3], fromD 0 (t - 1) (.int e) = true := fun e he => by
    have := h e he
    show (decide (0 ≤ e) && decide (e ≤ t - 1)) = true
    rw [decide_eq_true this.1, decide_eq_true this.2]
    rfl
  show (((decide (1 ≤ t) && decide (t ≤ 999)) && (decide (0 ≤ (i : Int)) && decide ((i : Int) ≤ 3))) && ((fromD 0 (t - 1) (.int a0) && (fromD 0 (t - 1) (.int a1) && (fromD 0 (t - 1) (.int a2) && (fromD 0 (t - 1) (.int a3) && true)))) && bodyR x l)) = true
  rw [decide_eq_true ht.1, decide_eq_true ht.2, decide_eq_true (by omega : (0 : Int) ≤ (i : Int)), decide_eq_true (by omega : (i : Int) ≤ 3), f a0 (by simp), f a1 (by simp), f a2 (by simp), f a3 (by simp), hb]
  rfl
theorem set4 {i : Nat} {t a0 a1 a2 a3 : Int} (h : i < 4) : ((List.range 4).map fun n => if n = i then t else [a0, a1, a2, a3].getD n 0) = [a0, a1, a2, a3].set i t := by
  obtain rfl | rfl | rfl | rfl : i = 0 ∨ i = 1 ∨ i = 2 ∨ i = 3 := by omega
  all_goals rfl
section
variable {P : Program} {w : World} {K : PySem.W.Frag} {mg : Str → Option Value} {base : Heap}
theorem sc_do : FnScope ["_law_source", "_law_world_here", "_law_hand", "_law_body_here", "_law_seen", "_law_stamp", "_law_time", "_law_k"] ["_law_source", "_law_world_here", "_law_hand", "_law_body_here"] (defScope (top 72)) := ⟨rfl, rfl, rfl, by decide +kernel, rfl, by decide +kernel, by decide +kernel⟩
theorem cl_do (T : All K mg) (M : Nms mg) (M2 : Nms2 mg) : Cl P w K mg base 3 "_law_do" ["_law_source", "_law_world_here", "_law_hand", "_law_body_here"] (spDo K) := by
  obtain ⟨g, fd, D⟩ := T.dn 72 _ _ rfl
  refine D.cl (D.fn.ok sc_do (fun vs H Q E h => ?_) (fun cdv A outer s H vs Q E hr h => ?_))
  · obtain ⟨p, wd, Dl, Rl, ds, rs, m, i, ub, x, l, rfl, _⟩ := h
    rfl
  · obtain ⟨p, wd, Dl, Rl, ds, rs, m, i, ub, x, l, rfl, hi, few, W, hub, hx, ok, hnm, k⟩ := h
    refine ⟨_, (pss_cons (ps_set (i := 4) sc_do.nd rfl (Or.inr rfl) (pe_ix ix_list (pe_ix ix_list (pv 1) pe_int (fun _ _ => rfl)) (pv 2) (fun _ _ => rfl)))
      (pss_cons (ps_set (i := 5) sc_do.nd rfl (Or.inr rfl) (pe_tup (pa_cons (pe_op op_add (pe_op op_add pe_int (pe_callB (cr_max rfl) (by rfl) M.max (by decide +kernel) (pa_cons (pe_lc (own := [("_law_time", 6)]) (g := gName 6) (tt := tYes) (te := tCB rI1 (tCons (tVar 6) tNil)) rfl sc_do.nd (pi_list (pv 4)) (blkOk_by (own := [("_law_time", 6)]) (N := [("_law_source" : Str), ("_law_world_here" : Str), ("_law_hand" : Str), ("_law_body_here" : Str), ("_law_seen" : Str), ("_law_stamp" : Str), ("_law_time" : Str), ("_law_k" : Str)]) (sc := defScope (top 72)) (by decide +kernel)) (fun _ _ _ _ _ => pg_name (i := 6) sc_do.nd rfl (Or.inl rfl)) (fun _ _ _ _ _ => pts_nil) (fun _ _ _ _ _ => (pe_callTy call_int1 (by rfl) M.int (by decide +kernel) (pa_cons (pv 6) pa_nil)))) pa_nil))) (pe_cl (cl_one T M) hr (by decide) (pa_cons (pv 0) (pa_cons (li_list (ds := [.int 0, .int 0, .int 0, .int 1, .int 4]) (las_cons li_int (las_cons li_int (las_cons li_int (las_cons li_int (las_cons li_int las_nil))))) (by decide)) pa_nil)))) (pa_cons (pv 2) pa_nil))))
      (pss_cons (ps_expr (pe_bm PySem.F.plainAttrs_list PySem.F.slot_list_append PySem.F.type_list_append mt_append (pe_ix ix_list (pv 1) pe_int (fun _ _ => rfl)) (pa_cons (pe_tup (pa_cons (pv 5) (pa_cons (pe_callTy call_tuple_of (by rfl) T.bi.tuple (by decide +kernel) (pa_cons (pv 4) pa_nil)) (pa_cons (pv 3) pa_nil)))) pa_nil)))
      (pss_cons (ps_asg (pe_lc (own := [("_law_k", 7)]) (g := gName 7) (tt := tYes) (te := tIf (tTest (tOp rEq (tVar 7) (tVar 2))) (tOp (rIxT K) (tVar 5) (tC (.int 0))) (tOp (rIxL K) (tVar 4) (tVar 7))) rfl sc_do.nd (pi_range1 rfl M2.range (pa_cons pe_int pa_nil)) (blkOk_by (own := [("_law_k", 7)]) (N := [("_law_source" : Str), ("_law_world_here" : Str), ("_law_hand" : Str), ("_law_body_here" : Str), ("_law_seen" : Str), ("_law_stamp" : Str), ("_law_time" : Str), ("_law_k" : Str)]) (sc := defScope (top 72)) (by decide +kernel)) (fun _ _ _ _ _ => pg_name (i := 7) sc_do.nd rfl (Or.inl rfl)) (fun _ _ _ _ _ => pts_nil) (fun _ _ _ _ _ => (pe_ifExp (pt_cmpR op_eq (pv 7) (pv 2) (nomark _)) (pe_ix ix_tup (pv 5) pe_int (fun _ _ => rfl)) (pe_ix ix_list (pv 4) (pv 7) (fun _ _ => rfl))))) (pg_sub (pe_ix ix_list (pv 1) pe_int (fun _ _ => rfl)) (pv 2) set_list))
      (pss_one (ps_ret (pv 5))))))), ?_⟩
    obtain ⟨vs, a, a0, a1, a2, a3, hR, lv, av, hrow, hs, hb⟩ := W.row hi
    have sa : SqL K H a ([a0, a1, a2, a3].map V.int) := (gnd_in p Dl Rl H).seq hs
    refine ⟨_, rfl, wd, _, _, _, rfl, rfl, SqL.of W.wl, atI_nat (j := 1) rfl, _, rfl, Rl, vs, _, _, rfl, rfl, SqL.of hR, av, ?_⟩
    refine ⟨_, rfl, a, rfl, ⟨_, sa⟩, fun D1 n1 => K0.lc_fun (fun n => .int ([a0, a1, a2, a3].getD n 0)) n1 sa (by show 4 ≤ 1000; decide) (fun _ => rfl) (fun n u J QQ hu S1 q1 => ?_) (fun H1 S1 e1 => ?_)⟩
    · have hn : n < 4 := (List.getElem?_eq_some_iff.mp hu).1
      rw [getD4 (l := [a0, a1, a2, a3]) rfl hn] at hu
      cases hu
      exact ⟨_, rfl, .inl ⟨_, rfl, q1⟩⟩
    · have e1' : H1 D1 = some (.lst ([a0, a1, a2, a3].map V.int)) := e1
      refine ⟨D1, _, rfl, SqL.of e1', (by show 0 < 4; decide), fun mx hm hle => ⟨_, _, rfl, rfl, _, rfl, fun H2 q2 v2 S2 n2 e2 d2 => ?_⟩⟩
      have b1 := (Bt.refl W.src).grow S1
      refine one_lit (E := E0) b1.src S2 n2 e2 d2 (by decide) (by decide) fun H3 u3 d3 h3 b3 q3 => ?_
      obtain ⟨c, rfl, c0, c4⟩ := plus_of h3
      cases q3
      have b13 := b1.trans b3
      refine ⟨_, _, rfl, rfl, _, rfl, (by show 2 ≤ sizeLine; rw [sizeLine_eq]; decide), fun q4 n4 => ?_⟩
      have b4 := b13.new (o := .tup [.int (1 + mx + c), .int (i : Int)]) n4
      have ne4 := b13.ne n4
      have f4 := @upd_same H3 q4 (.tup [.int (1 + mx + c), .int (i : Int)])
      generalize upd H3 q4 (.tup [.int (1 + mx + c), .int (i : Int)]) = H4 at b4 f4 ⊢
      generalize ht : 1 + mx + c = t at f4
      have W4 := W.to b4
      obtain ⟨us4, hD4, _⟩ := W4.sm
      have a4 : SqL K H4 a ([a0, a1, a2, a3].map V.int) := ((gnd_mono (D := Dl) (R := Rl) b4.same).trans (gnd_in p Dl Rl H4)).seq hs
      refine ⟨_, rfl, wd, _, _, _, rfl, rfl, SqL.of W4.wl, atI_nat (j := 0) rfl, .inl ⟨rfl, _, SqL.of hD4⟩, _, rfl, _, rfl, a, _, rfl, .inl ⟨a4, fun q5 n5 => ?_⟩⟩
      have b5 := b4.new (o := .tup ([a0, a1, a2, a3].map V.int)) n5
      have c5 := (Bt.refl b4.src).new (o := .tup ([a0, a1, a2, a3].map V.int)) n5
      have ne5 := b4.ne n5
      have f5 := @upd_same H4 q5 (.tup ([a0, a1, a2, a3].map V.int))
      have f45 := c5.at ne4 f4
      generalize upd H4 q5 (.tup ([a0, a1, a2, a3].map V.int)) = H5 at b5 c5 f5 f45 ⊢
      refine ⟨_, rfl, (by show 3 ≤ sizeLine; rw [sizeLine_eq]; decide), fun q6 n6 => ?_⟩
      have b6 := b5.new (o := .tup [.ref q4, .ref q5, ub]) n6
      have c6 := (Bt.refl b5.src).new (o := .tup [.ref q4, .ref q5, ub]) n6
      have ne6 := b5.ne n6
      have f6 := @upd_same H5 q6 (.tup [.ref q4, .ref q5, ub])
      have f46 := c6.at ne4 f45
      have f56 := c6.at ne5 f5
      have D6 := W4.to (c5.trans c6)
      obtain ⟨us6, hD6, _⟩ := D6.sm
      have hDD := (c5.trans c6).at W4.ne.2.1 hD4
      rw [hD6] at hDD
      cases hDD
      generalize upd H5 q6 (.tup [.ref q4, .ref q5, ub]) = H6 at b6 f6 f46 f56 D6 hD6 ⊢
      have lus : us4.length = ds.length := by
        obtain ⟨us', h1, h2⟩ := D6.dl
        rw [hD6] at h1
        cases h1
        exact h2.len
      obtain ⟨vs6, hR6, _⟩ := D6.rl
      have hne : ∀ {q : Addr} {o : HO}, H6 q = some o → (∀ xs, o ≠ .lst xs) → q ≠ p → gnd p Dl Rl H6 q = some o := fun {q o} e nl np => gnd_of (fun z => nl vs6 (by rw [z, hR6] at e; cases e; rfl)) (fun z => nl us4 (by rw [z, hD6] at e; cases e; rfl)) np e
      have g4 := hne f46 (fun xs z => by cases z) ne4
      have g5 := hne f56 (fun xs z => by cases z) ne5
      have g6 := hne f6 (fun xs z => by cases z) ne6
      have mxb := hb mx hm
      have hq : DQ K (gnd p Dl Rl H6) (.ref q6) (.tuple [.tuple [.int t, .int (i : Int)], .tuple [.int a0, .int a1, .int a2, .int a3], .tuple (.str x :: l)]) :=
        .tup (.inl (.inl g6)) (.cons (.tup (.inl (.inl g4)) (.cons (.int _) (.cons (.int _) .nil))) (.cons (.tup (.inl (.inl g5)) (.cons (.int _) (.cons (.int _) (.cons (.int _) (.cons (.int _) .nil))))) (.cons (hub.to (gnd_mono b6.same)) .nil)))
      have tb : 1 ≤ t ∧ t ≤ 999 := by omega
      have hd := deed_made (x := x) (l := l) tb hi (fun e he => by have h1 := hb e he; have h2 := hle e he; omega) hx
      have A6 := D6.app hD6 hq ⟨q6, q4, _, _, t, (i : Int), rfl, .inl (.inl g6), g4, rfl, _, _, rfl, .tup (.inl (.inl g5)) (.cons (.int _) (.cons (.int _) (.cons (.int _) (.cons (.int _) .nil)))), hub.to (gnd_mono b6.same)⟩ hd (by show t ≤ _; omega) few
      refine ⟨Dl, _, _, rfl, rfl, hD6, by rw [lus, sizeLine_eq]; omega, ?_⟩
      have f47 : gnd p Dl Rl (upd H6 Dl (.lst (us4 ++ [.ref q6]))) q4 = some (.tup [.int t, .int (i : Int)]) := A6.1 _ _ g4
      have S07 := (gnd_mono (D := Dl) (R := Rl) b6.same).trans A6.1
      have W7 := A6.2
      generalize upd H6 Dl (.lst (us4 ++ [.ref q6])) = H7 at f47 S07 W7 ⊢
      have a7 : SqL K (gnd p Dl Rl H7) a ([a0, a1, a2, a3].map V.int) := S07.seq hs
      have s47 : SqT K H7 q4 [.int t, .int (i : Int)] := .inl (.inl (gnd_in p Dl Rl H7 _ _ f47))
      refine ⟨_, rfl, by decide, by decide, fun Dd nD => K0.lc_funR (n := 4) (fun n => .int (if n = i then t else [a0, a1, a2, a3].getD n 0)) nD (by decide) (fun _ => rfl) (fun n J QQ hn S2 q2 => ?_) (fun J S2 e2 => ?_)⟩
      · refine ⟨_, rfl, _, rfl, rfl, _, rfl, ?_⟩
        by_cases c : n = i
        · rw [if_pos c] at q2
          rw [decide_eq_true (by rw [c, Int.zero_add])]
          exact iteT ⟨_, rfl, q4, _, _, _, rfl, rfl, K0.seqT_same S2 s47, atI_nat (j := 0) rfl, q2⟩
        · rw [if_neg c] at q2
          rw [decide_eq_false (by intro z; rw [V.int.injEq] at z; omega)]
          exact iteF ⟨_, rfl, _, rfl, a, _, _, _, rfl, rfl, S2.seq ((gnd_in p Dl Rl H7).seq a7), (by rw [Int.zero_add]; exact atI_nat (getD4 (l := [a0, a1, a2, a3]) rfl hn)), q2⟩
      · have bJ : Bt p H7 J := (Bt.refl W7.src).grow S2
        have W8 := W7.to bJ
        obtain ⟨vs7, hR7, hP7⟩ := W7.rl
        obtain ⟨us7, hD7, _⟩ := W7.sm
        have lv7 : vs7.length = 4 := by rw [paired_len hP7, W7.r4]
        have neR : Dd ≠ Rl := Ne.symm (ne_of_none hR7 nD)
        have neD : Dd ≠ Dl := Ne.symm (ne_of_none hD7 nD)
        have nep : Dd ≠ p := (Bt.refl W7.src).ne nD
        have hR8 := S2 _ _ hR7
        have P8 := W8.put hR8 (i := i) (r := (List.range 4).map fun n => if n = i then t else [a0, a1, a2, a3].getD n 0) (q := Dd) (by rw [List.map_map]; exact SqL.of (gnd_of neR neD nep e2)) rfl (fun e he => ?_)
        · exact ⟨_, rfl, wd, _, _, _, rfl, rfl, SqL.of W8.wl, atI_nat (j := 1) rfl, _, rfl, Rl, vs7, _, i, rfl, rfl, hR8, by rw [lv7]; exact ixN4 hi, _, rfl, k _ q4 t _ _ ((S07.trans (gnd_mono bJ.same)).trans P8.1) P8.2 (.inl (.inl (P8.1 _ _ (gnd_mono bJ.same _ _ f47)))) tb.1 tb.2 (by
            have y := ok.done (i := i) W.r4 hd ((hand_of (j := (i : Int)) rfl).trans (Int.toNat_natCast i)) (by rw [row_get hrow]; rfl) (fun n hn => ?_) hnm
            · rw [row_get hrow, ← set4 hi] at y
              exact y
            · rw [row_get hrow]
              have := hle _ (getD_mem (l := [a0, a1, a2, a3]) hn)
              show _ < t
              omega) rfl⟩
        · obtain ⟨n, hn, rfl⟩ := List.mem_map.mp he
          rw [List.mem_range] at hn
          have L : ((ds ++ [PyData.tuple [.tuple [.int t, .int (i : Int)], .tuple [.int a0, .int a1, .int a2, .int a3], .tuple (.str x :: l)]]).length : Int) = ds.length + 1 := by
            rw [List.length_append]
            rfl
          have y1 := hb _ (mem4 (l := [a0, a1, a2, a3]) rfl hn)
          rw [L]
          by_cases c : n = i
          · rw [if_pos c]
            omega
          · rw [if_neg c]
            omega
end
end K1
namespace K1
open PySem L2
/-- a row beside two lists -/
def Rw (D D' : Addr) (H : Hp) (u : V) (r : List Int) : Prop := ∃ a, u = .ref a ∧ a ≠ D ∧ a ≠ D' ∧ H a = some (.lst (r.map V.int))
def spWorld (K : PySem.W.Frag) : Sp := fun vs H Q _ => ∃ m : Int, vs = [.int m] ∧ ∀ H' wd Dl Rl us, Same H H' → H wd = none → H Dl = none → H Rl = none → Dl ≠ Rl → wd ≠ Dl → wd ≠ Rl → H' wd = some (.lst [.ref Dl, .ref Rl, .int m]) → H' Dl = some (.lst []) → H' Rl = some (.lst us) →
  Paired (Rw Dl Rl H') us (List.replicate 4 [0, 0, 0, 0]) → Q (.ref wd) H'
def spStep (K : PySem.W.Frag) : Sp := fun vs H Q _ => ∃ p wd Dl Rl ds rs m, vs = [.ref p, .ref wd] ∧ ds.length < 11 ∧ Wld K p wd Dl Rl H ds rs m ∧ Ok ds rs ∧ ∀ H' u rs' d, Same (gnd p Dl Rl H) (gnd p Dl Rl H') → Wld K p wd Dl Rl H' (ds ++ [d]) rs' m → Ok (ds ++ [d]) rs' → Q u H'
theorem paired_app {α β : Type} {F : α → β → Prop} {a : α} {b : β} (k : F a b) : ∀ {l : List α} {m : List β}, Paired F l m → Paired F (l ++ [a]) (m ++ [b])
  | _, _, .nil => .cons k .nil
  | _, _, .cons r t => .cons r (paired_app k t)
theorem Rw.to {D D' : Addr} {H H' : Hp} {u : V} {r : List Int} (h : Rw D D' H u r) (s : ∀ b o, b ≠ D → b ≠ D' → H b = some o → H' b = some o) : Rw D D' H' u r := by
  obtain ⟨a, e, n1, n2, h⟩ := h
  exact ⟨a, e, n1, n2, s a _ n1 n2 h⟩
section
variable {P : Program} {w : World} {K : PySem.W.Frag} {mg : Str → Option Value} {base : Heap}
theorem sc_world : FnScope ["_law_many", "_law_hand"] ["_law_many"] (defScope (top 65)) := ⟨rfl, rfl, rfl, by decide +kernel, rfl, by decide +kernel, by decide +kernel⟩
theorem cl_world (T : All K mg) (M2 : Nms2 mg) : Cl P w K mg base 1 "_law_world" ["_law_many"] (spWorld K) := by
  obtain ⟨g, fd, D⟩ := T.dn 65 _ _ rfl
  refine D.cl (D.fn.ok sc_world (fun vs H Q E h => ?_) (fun cdv A outer s H vs Q E hr h => ?_))
  · obtain ⟨m, rfl, _⟩ := h
    rfl
  · obtain ⟨m, rfl, k⟩ := h
    refine ⟨_, (pss_one (ps_ret (pe_lst (pa_cons (pe_lst pa_nil) (pa_cons (pe_lc (own := [("_law_hand", 1)]) (g := gName 1) (tt := tYes) (te := tLst (tCons (tC (.int 0)) (tCons (tC (.int 0)) (tCons (tC (.int 0)) (tCons (tC (.int 0)) tNil))))) rfl sc_world.nd (pi_range1 rfl M2.range (pa_cons pe_int pa_nil)) (blkOk_by (own := [("_law_hand", 1)]) (N := [("_law_many" : Str), ("_law_hand" : Str)]) (sc := defScope (top 65)) (by decide +kernel)) (fun _ _ _ _ _ => pg_name (i := 1) sc_world.nd rfl (Or.inl rfl)) (fun _ _ _ _ _ => pts_nil) (fun _ _ _ _ _ => (pe_lst (pa_cons pe_int (pa_cons pe_int (pa_cons pe_int (pa_cons pe_int pa_nil))))))) (pa_cons (pv 0) pa_nil)))))), ?_⟩
    refine ⟨Nat.zero_le _, fun q1 n1 => ?_⟩
    have S1 := K0.same_upd (o := .lst []) n1
    have f1 := @upd_same H q1 (.lst [])
    generalize upd H q1 (.lst []) = H1 at S1 f1 ⊢
    refine ⟨4, rfl, by decide, by decide, fun D2 n2 => ?_⟩
    have ne12 : q1 ≠ D2 := ne_of_none f1 n2
    refine lc_range (lo := 0) (n := 4) (fun i H' => i ≤ 4 ∧ Same H1 H' ∧ ∃ acc, H' D2 = some (.lst acc) ∧ Paired (Rw q1 D2 H') acc (List.replicate i [0, 0, 0, 0])) ⟨Nat.zero_le _, K0.same_upd n2, [], upd_same, .nil⟩ ?_ ?_
    · rintro i H' hi ⟨_, s, acc, hl, hp⟩
      refine ⟨rfl, ?_⟩
      unfold tYes
      dsimp only
      rw [if_pos rfl]
      refine ⟨(by show 4 ≤ sizeLine; rw [sizeLine_eq]; decide), fun r nr => ?_⟩
      have nr1 : r ≠ q1 := Ne.symm (ne_of_none (s _ _ f1) nr)
      have nr2 : r ≠ D2 := Ne.symm (ne_of_none hl nr)
      have lacc := paired_len hp
      rw [List.length_replicate] at lacc
      refine ⟨acc, (upd_ne (Ne.symm nr2)).trans hl, by rw [lacc, sizeLine_eq]; omega, hi, K0.same_over (s.trans (K0.same_upd nr)) n2, _, upd_same, ?_⟩
      rw [List.replicate_succ']
      refine paired_app ⟨r, rfl, nr1, nr2, (upd_ne nr2).trans upd_same⟩ (paired_imp (fun _ _ h => h.to fun b o h1 h2 e => ?_) hp)
      rw [upd_ne h2, upd_ne (ne_of_none e nr)]
      exact e
    · rintro H' ⟨_, s, acc, hl, hp⟩
      refine ⟨_, rfl, (by show 3 ≤ sizeLine; rw [sizeLine_eq]; decide), fun q3 n3 => ?_⟩
      have g1 := s _ _ f1
      have ne13 := ne_of_none g1 n3
      have ne23 := ne_of_none hl n3
      have S3 : Same H H' := S1.trans s
      refine k _ q3 q1 D2 acc (S3.trans (K0.same_upd n3)) (old_none S3 n3) n1 (old_none S1 n2) ne12 (Ne.symm ne13) (Ne.symm ne23) upd_same ((upd_ne ne13).trans g1) ((upd_ne ne23).trans hl) (paired_imp (fun _ _ h => h.to fun b o h1 h2 e => ?_) hp)
      rw [upd_ne (ne_of_none e n3)]
      exact e
theorem sc_step : FnScope ["_law_source", "_law_world_here", "_law_hand"] ["_law_source", "_law_world_here"] (defScope (top 73)) := ⟨rfl, rfl, rfl, by decide +kernel, rfl, by decide +kernel, by decide +kernel⟩
theorem cl_step (T : All K mg) (M : Nms mg) (M2 : Nms2 mg) : Cl P w K mg base 6 "_law_step" ["_law_source", "_law_world_here"] (spStep K) := by
  obtain ⟨g, fd, D⟩ := T.dn 73 _ _ rfl
  refine D.cl (D.fn.ok sc_step (fun vs H Q E h => ?_) (fun cdv A outer s H vs Q E hr h => ?_))
  · obtain ⟨p, wd, Dl, Rl, ds, rs, m, rfl, _⟩ := h
    rfl
  · obtain ⟨p, wd, Dl, Rl, ds, rs, m, rfl, few, W, ok, k⟩ := h
    refine ⟨_, (pss_cons (ps_set (i := 2) sc_step.nd rfl (Or.inl rfl) (pe_cl (cl_takeB T M) hr (by decide) (pa_cons (pv 0) (pa_cons (pe_ix ix_list (pv 1) pe_int (fun _ _ => rfl)) pa_nil))))
      (pss_cons (ps_if (pt_cmpR op_eq (pe_cl (cl_takeB T M) hr (by decide) (pa_cons (pv 0) (pa_cons pe_int pa_nil))) pe_int (nomark _)) (pss_one (ps_expr (pe_cl (cl_learn T M M2) hr (by decide) (pa_cons (pv 0) (pa_cons (pv 1) (pa_cons (pv 2) pa_nil)))))) pss_nil)
      (pss_one (ps_ret (pe_cl (cl_do T M M2) hr (by decide) (pa_cons (pv 0) (pa_cons (pv 1) (pa_cons (pv 2) (pa_cons (pe_cl (cl_lbody T M) hr (by decide) (pa_cons (pv 0) (pa_cons (pe_cl (cl_seend T) hr (by decide) (pa_cons (pv 1) (pa_cons (pv 2) pa_nil))) pa_nil))) pa_nil))))))))), ?_⟩
    have M0 := W.m0
    have M3 := W.m3
    refine ⟨_, rfl, _, rfl, wd, _, _, _, rfl, rfl, SqL.of W.wl, atI_nat (j := 2) rfl, p, m, rfl, W.src, by omega, by omega, fun o H1 o0 o1 b1 => ?_⟩
    obtain ⟨i, rfl⟩ : ∃ n : Nat, o = (n : Int) := ⟨o.toNat, by omega⟩
    have hi : i < 4 := by omega
    refine ⟨_, rfl, p, 2, rfl, b1.src, by decide, by decide, fun r H2 r0 r1 b2 => ⟨rfl, _, rfl, ite2 (fun _ => ?_) (fun _ => ?_)⟩⟩
    · have W2 := (W.to b1).to b2
      refine ⟨_, rfl, _, rfl, _, rfl, p, wd, Dl, Rl, ds, rs, m, i, rfl, hi, W2, ok, fun H4 rs' S4 W4 ok4 => ?_⟩
      have S04 := (gnd_mono (D := Dl) (R := Rl) (b1.trans b2).same).trans S4
      refine ⟨_, rfl, _, rfl, _, rfl, _, rfl, _, rfl, _, rfl, p, wd, Dl, Rl, ds, _, m, i, rfl, hi, W4, fun H5 a us ds' b5 S5 hmem => ?_⟩
      refine ⟨p, a, us, ds', rfl, S5, fun H6 u x l hx hn b6 hq => ?_⟩
      have W6 := (W4.to b5).to b6
      obtain ⟨us6, hD6, _⟩ := W6.sm
      obtain ⟨vs6, hR6, _⟩ := W6.rl
      have pu : Pure (.tuple (.str x :: l)) := Pure.tuple fun d hd => pure_body hx d hd
      exact ⟨p, wd, Dl, Rl, ds, _, m, i, u, x, l, rfl, hi, few, W6, dq_gnd hD6 hR6 _ _ pu.1 pu.2 hq, hx, ok4, (fun k hk => by
        obtain ⟨e, he, ee⟩ := List.mem_map.mp (hn k hk)
        exact ⟨e, (hmem e he).1, ee, (hmem e he).2⟩), fun H7 a' t rs' d S7 W7 _ _ _ ok7 _ => k _ _ _ _ ((S04.trans (gnd_mono (b5.trans b6).same)).trans S7) W7 ok7⟩
    · have W2 := (W.to b1).to b2
      have S02 := gnd_mono (D := Dl) (R := Rl) (b1.trans b2).same
      refine ⟨_, rfl, _, rfl, _, rfl, _, rfl, _, rfl, _, rfl, p, wd, Dl, Rl, ds, _, m, i, rfl, hi, W2, fun H5 a us ds' b5 S5 hmem => ?_⟩
      refine ⟨p, a, us, ds', rfl, S5, fun H6 u x l hx hn b6 hq => ?_⟩
      have W6 := (W2.to b5).to b6
      obtain ⟨us6, hD6, _⟩ := W6.sm
      obtain ⟨vs6, hR6, _⟩ := W6.rl
      have pu : Pure (.tuple (.str x :: l)) := Pure.tuple fun d hd => pure_body hx d hd
      exact ⟨p, wd, Dl, Rl, ds, _, m, i, u, x, l, rfl, hi, few, W6, dq_gnd hD6 hR6 _ _ pu.1 pu.2 hq, hx, ok, (fun k hk => by
        obtain ⟨e, he, ee⟩ := List.mem_map.mp (hn k hk)
        exact ⟨e, (hmem e he).1, ee, (hmem e he).2⟩), fun H7 a' t rs' d S7 W7 _ _ _ ok7 _ => k _ _ _ _ ((S02.trans (gnd_mono (b5.trans b6).same)).trans S7) W7 ok7⟩
end
end K1
namespace K1
open PySem L2
theorem nw_gnd {p Dl Rl : Addr} {H H' : Hp} {u1 u2 u3 : HO} (h1 : H p = some u1) (h2 : H Dl = some u2) (h3 : H Rl = some u3) : Same (nw H H') (gnd p Dl Rl H') := fun b u e => by
  obtain ⟨n, e'⟩ := nw_at e
  exact gnd_of (Ne.symm (ne_of_none h3 n)) (Ne.symm (ne_of_none h2 n)) (Ne.symm (ne_of_none h1 n)) e'
theorem nm_pair (t j : Int) : NmIn [[t, j]] (.tuple [.int t, .int j]) := fun k h => by
  have z : (if t = 0 ∧ j = 0 then none else some [t, j]) = some k := h
  by_cases c : t = 0 ∧ j = 0
  · rw [if_pos c] at z
    cases z
  · rw [if_neg c] at z
    rw [← Option.some.inj z]
    exact List.mem_singleton.mpr rfl
def spDrawn (K : PySem.W.Frag) : Sp := fun vs H Q _ => ∃ p : Addr, vs = [.ref p, .int 9, .int 4] ∧ Src H p ∧ ∀ H' wd Dl Rl ds rs m, Bt p H H' → Wld K p wd Dl Rl H' ds rs m → Ok ds rs → Q (.ref wd) H'
/-- the world at first -/
theorem Wld.first {K : PySem.W.Frag} {p wd Dl Rl : Addr} {H H' : Hp} {us : List V} {m : Int} (src : Src H p) (S : Same H H') (n1 : H wd = none) (n2 : H Dl = none) (n3 : H Rl = none) (e1 : Dl ≠ Rl) (e2 : wd ≠ Dl) (e3 : wd ≠ Rl) (h1 : H' wd = some (.lst [.ref Dl, .ref Rl, .int m])) (h2 : H' Dl = some (.lst []))
    (h3 : H' Rl = some (.lst us)) (hp : Paired (Rw Dl Rl H') us (List.replicate 4 [0, 0, 0, 0])) (m0 : 1 ≤ m) (m3 : m ≤ 4) : Wld K p wd Dl Rl H' [] (List.replicate 4 [0, 0, 0, 0]) m ∧ Same (hid p H) (gnd p Dl Rl H') := by
  obtain ⟨x, y, hsrc, z⟩ := src
  have hsrc' := S _ _ hsrc
  refine ⟨⟨⟨x, y, hsrc', z⟩, h1, ⟨[], h2, .nil⟩, fun us' h' => by
    intro i u e hu he
    simp at he, ⟨us, h3, paired_len4 hp⟩, m0, m3, rfl, fun r hr => ?_, fun d hd => absurd hd List.not_mem_nil, Nat.zero_le _, Ne.symm (ne_of_none hsrc n1), Ne.symm (ne_of_none hsrc n2), Ne.symm (ne_of_none hsrc n3), e1, e2, e3⟩, fun b u e => ?_⟩
  · rw [List.eq_of_mem_replicate hr]
    exact ⟨rfl, by decide⟩
  · obtain ⟨e4, e5⟩ := hid_at e
    exact gnd_of (ne_of_none e5 n3) (ne_of_none e5 n2) e4 (S _ _ e5)
where
  paired_len4 {us : List V} (hp : Paired (Rw Dl Rl H') us (List.replicate 4 [0, 0, 0, 0])) : Paired (Row K (gnd p Dl Rl H')) us (List.replicate 4 [0, 0, 0, 0]) := by
    obtain ⟨x, y, hsrc, z⟩ := src
    have hsrc' := S _ _ hsrc
    have go : ∀ {l : List V} {n : Nat}, Paired (Rw Dl Rl H') l (List.replicate n [0, 0, 0, 0]) → Paired (Row K (gnd p Dl Rl H')) l (List.replicate n [0, 0, 0, 0]) := by
      intro l n
      induction n generalizing l with
      | zero =>
        intro h
        cases h
        exact .nil
      | succ n ih =>
        intro h
        cases h with
        | cons r t =>
          obtain ⟨a, e, n1, n2, ha⟩ := r
          refine .cons ⟨a, e, SqL.of (gnd_of n2 n1 (fun z => ?_) ha)⟩ (ih t)
          rw [z, hsrc'] at ha
          cases ha
    exact go hp
section
variable {P : Program} {w : World} {K : PySem.W.Frag} {mg : Str → Option Value} {base : Heap}
theorem sc_drawn : FnScope ["_law_source", "_law_most", "_law_many", "_law_world_here", "_law_made", "_law_hand", "_law_turn"] ["_law_source", "_law_most", "_law_many"] (defScope (top 74)) := ⟨rfl, rfl, rfl, by decide +kernel, rfl, by decide +kernel, by decide +kernel⟩
theorem cl_drawn (T : All K mg) (M : Nms mg) (M2 : Nms2 mg) : Cl P w K mg base 7 "_law_drawn" ["_law_source", "_law_most", "_law_many"] (spDrawn K) := by
  obtain ⟨g, fd, D⟩ := T.dn 74 _ _ rfl
  refine D.cl (D.fn.ok sc_drawn (fun vs H Q E h => ?_) (fun cdv A outer s H vs Q E hr h => ?_))
  · obtain ⟨p, rfl, _⟩ := h
    rfl
  · obtain ⟨p, rfl, src, k⟩ := h
    refine ⟨_, (pss_cons (ps_set (i := 3) sc_drawn.nd rfl (Or.inl rfl) (pe_cl (cl_world T M2) hr (by decide) (pa_cons (pe_op op_add pe_int (pe_cl (cl_takeB T M) hr (by decide) (pa_cons (pv 0) (pa_cons (pv 2) pa_nil)))) pa_nil)))
      (pss_cons (ps_if (pt_cmpR op_gt (pe_cl (cl_takeB T M) hr (by decide) (pa_cons (pv 0) (pa_cons pe_int pa_nil))) pe_int (nomark _)) (pss_cons (ps_set (i := 4) sc_drawn.nd rfl (Or.inl rfl) (pe_cl (cl_do T M M2) hr (by decide) (pa_cons (pv 0) (pa_cons (pv 3) (pa_cons pe_int (pa_cons (li_tup (ds := [.str "make", .str "let", .tuple [.int 0, .int 0], .int 1, .str "x"]) (las_cons (li_str (by decide +kernel)) (las_cons (li_str (by decide +kernel)) (las_cons (li_tup (las_cons li_int (las_cons li_int las_nil)) (by decide)) (las_cons li_int (las_cons (li_str (by decide +kernel)) las_nil))))) (by decide)) pa_nil))))))
      (pss_cons (ps_expr (pe_cl (cl_do T M M2) hr (by decide) (pa_cons (pv 0) (pa_cons (pv 3) (pa_cons pe_int (pa_cons (pe_tup (pa_cons pe_str (pa_cons pe_str (pa_cons (pe_tup (pa_cons pe_int (pa_cons pe_int pa_nil))) (pa_cons pe_int (pa_cons (pv 4) pa_nil)))))) pa_nil))))))
      (pss_one (ps_for PassesOwn.never rfl (pi_range1 rfl M2.range (pa_cons (pe_ix ix_list (pv 3) pe_int (fun _ _ => rfl)) pa_nil)) (pg_name (i := 5) sc_drawn.nd rfl (Or.inl rfl)) (pss_one (ps_asg (pe_callTy call_list_of (by rfl) M2.list (by decide +kernel) (pa_cons (pe_ix ix_list (pe_ix ix_list (pv 3) pe_int (fun _ _ => rfl)) pe_int (fun _ _ => rfl)) pa_nil)) (pg_sub (pe_ix ix_list (pv 3) pe_int (fun _ _ => rfl)) (pv 5) set_list))))))) pss_nil)
      (pss_cons (ps_for PassesOwn.never rfl (pi_range1 rfl M2.range (pa_cons (pe_cl (cl_takeB T M) hr (by decide) (pa_cons (pv 0) (pa_cons (pe_op op_add (pv 1) pe_int) pa_nil))) pa_nil)) (pg_name (i := 6) sc_drawn.nd rfl (Or.inl rfl)) (pss_one (ps_expr (pe_cl (cl_step T M M2) hr (by decide) (pa_cons (pv 0) (pa_cons (pv 3) pa_nil))))))
      (pss_one (ps_ret (pv 3)))))), ?_⟩
    refine ⟨_, rfl, _, rfl, p, 4, rfl, src, by decide, by decide, fun m0 H1 r0 r1 b1 => ⟨_, _, rfl, rfl, 1 + m0, rfl, fun H2 wd Dl Rl us S2 z1 z2 z3 z4 z5 z6 z7 z8 z9 z10 => ?_⟩⟩
    obtain ⟨W2, S02⟩ := Wld.first (K := K) b1.src S2 z1 z2 z3 z4 z5 z6 z7 z8 z9 z10 (by omega) (by omega)
    have S02 := b1.same.trans S02
    refine ⟨_, rfl, p, 3, rfl, W2.src, by decide, by decide, fun r3 H3 r30 r31 b3 => ⟨_, _, rfl, rfl, _, rfl, ite2 (fun _ => ?_) (fun _ => ?_)⟩⟩
    · have W3 := W2.to b3
      have S03 := S02.trans (gnd_mono b3.same)
      refine ⟨_, rfl, _, rfl, fun H4 v4 S4 d4 => ?_⟩
      have b4 := (Bt.refl W3.src).grow S4
      have W4 := W3.to b4
      obtain ⟨us3, hD3, _⟩ := W3.sm
      obtain ⟨vs3, hR3, _⟩ := W3.rl
      obtain ⟨x3, y3, hp3, _⟩ := W3.src
      refine ⟨p, wd, Dl, Rl, [], _, _, 0, v4, "make", _, rfl, by decide, by decide, W4, d4.to (nw_gnd hp3 hD3 hR3), by decide +kernel, ok_first, (fun k hk => by
        have e : keysOf (namedD "make" [.str "let", .tuple [.int 0, .int 0], .int 1, .str "x"]) = [] := by decide +kernel
        rw [e] at hk
        exact absurd hk List.not_mem_nil), fun H5 a5 t5 rs5 d5 S5 W5 h5 t50 t51 ok5 ek5 => ?_⟩
      have S05 := (S03.trans (gnd_mono b4.same)).trans S5
      refine ⟨_, rfl, _, rfl, (by show 2 ≤ sizeLine; rw [sizeLine_eq]; decide), fun q6 n6 => ?_⟩
      have b6 := (Bt.refl W5.src).new (o := .tup [.int 0, .int 0]) n6
      have ne6 := (Bt.refl W5.src).ne n6
      have f6 := @upd_same H5 q6 (.tup [.int 0, .int 0])
      generalize upd H5 q6 (.tup [.int 0, .int 0]) = H6 at b6 f6 ⊢
      refine ⟨_, rfl, (by show 5 ≤ sizeLine; rw [sizeLine_eq]; decide), fun q7 n7 => ?_⟩
      have b7 := (Bt.refl b6.src).new (o := .tup [.str "make", .str "use", .ref q6, .int 5, .ref a5]) n7
      have ne7 := (Bt.refl b6.src).ne n7
      have f7 := @upd_same H6 q7 (.tup [.str "make", .str "use", .ref q6, .int 5, .ref a5])
      have f67 := b7.at ne6 f6
      generalize upd H6 q7 (.tup [.str "make", .str "use", .ref q6, .int 5, .ref a5]) = H7 at b7 f7 f67 ⊢
      have W7 := (W5.to b6).to b7
      obtain ⟨us7, hD7, _⟩ := W7.sm
      obtain ⟨vs7, hR7, _⟩ := W7.rl
      have hq : DQ K (gnd p Dl Rl H7) (.ref q7) (.tuple (.str "make" :: [.str "use", .tuple [.int 0, .int 0], .int 5, .tuple [.int t5, .int ((0 : Nat) : Int)]])) :=
        .tup (.inl (.inl (gnd_of (ne_of f7 hR7 (by intro z; cases z)) (ne_of f7 hD7 (by intro z; cases z)) ne7 f7))) (.cons (.str _ (by decide +kernel)) (.cons (.str _ (by decide +kernel)) (.cons (.tup (.inl (.inl (gnd_of (ne_of f67 hR7 (by intro z; cases z)) (ne_of f67 hD7 (by intro z; cases z)) ne6 f67))) (.cons (.int _) (.cons (.int _) .nil))) (.cons (.int _) (.cons (.tup (K0.seqT_same (gnd_mono (b6.trans b7).same) h5) (.cons (.int _) (.cons (.int _) .nil))) .nil)))))
      have hb : bodyR "make" [.str "use", .tuple [.int 0, .int 0], .int 5, .tuple [.int t5, .int ((0 : Nat) : Int)]] = true := by
        show (true && (true && (((decide (1 ≤ t5) && decide (t5 ≤ 999)) && true) || _))) = true
        rw [decide_eq_true t50, decide_eq_true t51]
        rfl
      refine ⟨p, wd, Dl, Rl, _, _, _, 0, _, _, _, rfl, by decide, (by show 1 < 11; decide), W7, hq, hb, ok5, (fun k hk => by
        have hm := make_names (y := "use") (x8 := .int 5) (nm_root [[t5, ((0 : Nat) : Int)]]) (fun _ => nm_pair t5 _) k hk
        have h5m : d5 ∈ [] ++ [d5] := List.mem_append_right _ (List.mem_singleton.mpr rfl)
        refine ⟨d5, h5m, ?_, ?_⟩
        · rw [ek5, List.mem_singleton.mp hm]
        · have y := ok5.top d5 h5m
          rw [hand_of ek5] at y ⊢
          exact y), fun H8 a8 t8 rs8 d8 S8 W8 h8 _ _ ok8 ek8 => ?_⟩
      have S08 := (S05.trans (gnd_mono (b6.trans b7).same)).trans S8
      have M0 := W8.m0
      have M3 := W8.m3
      refine ⟨_, rfl, wd, _, _, _, rfl, rfl, SqL.of W8.wl, atI_nat (j := 2) rfl, _, rfl, by omega, by omega, for_range (n := (1 + m0).toNat) (fun i σ J => σ.length = 7 ∧ σ[0]? = some (some (V.ref p)) ∧ σ[1]? = some (some (V.int 9)) ∧ σ[3]? = some (some (V.ref wd)) ∧ ∃ rs, Same (hid p H) (gnd p Dl Rl J) ∧ Wld K p wd Dl Rl J ([] ++ [d5] ++ [d8]) rs (1 + m0) ∧ Ok ([] ++ [d5] ++ [d8]) rs) ⟨rfl, rfl, rfl, rfl, _, S08, W8, ok8⟩ (fun i σ J hi ⟨tl, t0, t1, t3, rs, s, Wi, oki⟩ => ?_) (fun σ J ⟨tl, t0, t1, t3, rs, s, Wi, oki⟩ => ?_)⟩
      · have hi4 : i < 4 := by omega
        obtain ⟨vsi, a, a0, a1, a2, a3, hR, lv, av, hrow, hs, hb⟩ := Wi.row (i := 0) (by decide)
        refine ⟨_, (List.getElem?_set_ne (by decide)).trans t3, wd, _, _, _, rfl, rfl, SqL.of Wi.wl, atI_nat (j := 1) rfl, Rl, vsi, _, _, rfl, rfl, SqL.of hR, av, a, _, rfl, .inl ((gnd_in p Dl Rl J).seq hs), fun q9 n9 => ?_⟩
        have b9 := (Bt.refl Wi.src).new (o := .lst [.int a0, .int a1, .int a2, .int a3]) n9
        have ne9 := (Bt.refl Wi.src).ne n9
        have f9 := @upd_same J q9 (.lst [.int a0, .int a1, .int a2, .int a3])
        have neR : q9 ≠ Rl := Ne.symm (ne_of_none hR n9)
        obtain ⟨usi, hDi, _⟩ := Wi.sm
        have neD : q9 ≠ Dl := Ne.symm (ne_of_none hDi n9)
        have hR9 := b9.at Wi.ne.2.2.1 hR
        generalize upd J q9 (.lst [.int a0, .int a1, .int a2, .int a3]) = J9 at b9 f9 hR9 ⊢
        have W9 := Wi.to b9
        have P9 := W9.put hR9 (i := i) (r := [a0, a1, a2, a3]) (q := q9) (SqL.of (gnd_of neR neD ne9 f9)) rfl hb
        refine ⟨_, (List.getElem?_set_ne (by decide)).trans t3, wd, _, _, _, rfl, rfl, SqL.of W9.wl, atI_nat (j := 1) rfl, _, ?_, Rl, vsi, _, i, rfl, rfl, hR9, by rw [lv]; exact ixN4 hi4, ?_⟩
        · rw [List.getElem?_set_self (by omega), Int.zero_add]
        · exact ⟨by rw [List.length_set]; exact tl, (List.getElem?_set_ne (by decide)).trans t0, (List.getElem?_set_ne (by decide)).trans t1, (List.getElem?_set_ne (by decide)).trans t3, _, (s.trans (gnd_mono b9.same)).trans P9.1, P9.2, by
            refine oki.put (by rw [Wi.r4]; exact hi4) (oki.rows _ (List.mem_of_getElem? hrow)) fun e he c => ?_
            have h0 : handD e = 0 := by
              rcases List.mem_append.mp he with z | z
              · rw [List.mem_singleton.mp z, hand_of ek5]
                rfl
              · rw [List.mem_singleton.mp z, hand_of ek8]
                rfl
            have y := oki.top e he
            rw [h0, row_get hrow] at y
            rw [← c, h0]
            exact y⟩
      · have W10 := Wi
        refine ⟨_, t0, _, t1, _, _, rfl, rfl, p, 10, rfl, (W10).src, by decide, by decide, fun r JA r0 r1 bA => ⟨r, rfl, by omega, by omega, for_range (n := r.toNat) (fun i σ J => σ[0]? = some (some (V.ref p)) ∧ σ[3]? = some (some (V.ref wd)) ∧ ∃ ds rs, Same (hid p H) (gnd p Dl Rl J) ∧ Wld K p wd Dl Rl J ds rs (1 + m0) ∧ ds.length ≤ 2 + i ∧ Ok ds rs) ⟨t0, t3, _, _, (s).trans (gnd_mono bA.same), (W10).to bA, (by show 2 ≤ 2; decide), oki⟩ (fun i σ J hi ⟨t0, t3, ds, rs, s, Wi, li, oki⟩ => ?_) (fun σ J ⟨t0, t3, ds, rs, s, Wi, li, oki⟩ => ⟨_, t3, k J wd Dl Rl ds rs _ ⟨s.trans (gnd_hid p Dl Rl J), Wi.src⟩ Wi oki⟩)⟩⟩
        refine ⟨_, (List.getElem?_set_ne (by decide)).trans t0, _, (List.getElem?_set_ne (by decide)).trans t3, p, wd, Dl, Rl, ds, rs, _, rfl, by omega, Wi, oki, fun J' u rs' d s' W' ok' => ⟨(List.getElem?_set_ne (by decide)).trans t0, (List.getElem?_set_ne (by decide)).trans t3, _, rs', s.trans s', W', ?_, ok'⟩⟩
        rw [List.length_append]
        show ds.length + 1 ≤ 2 + (i + 1)
        omega
    · have W3 := W2.to b3
      have S03 := S02.trans (gnd_mono (D := Dl) (R := Rl) b3.same)
      refine ⟨_, rfl, _, rfl, _, _, rfl, rfl, p, 10, rfl, (W3).src, by decide, by decide, fun r JA r0 r1 bA => ⟨r, rfl, by omega, by omega, for_range (n := r.toNat) (fun i σ J => σ[0]? = some (some (V.ref p)) ∧ σ[3]? = some (some (V.ref wd)) ∧ ∃ ds rs, Same (hid p H) (gnd p Dl Rl J) ∧ Wld K p wd Dl Rl J ds rs (1 + m0) ∧ ds.length ≤ 2 + i ∧ Ok ds rs) ⟨rfl, rfl, _, _, (S03).trans (gnd_mono bA.same), (W3).to bA, (by show 0 ≤ 2; decide), ok_first⟩ (fun i σ J hi ⟨t0, t3, ds, rs, s, Wi, li, oki⟩ => ?_) (fun σ J ⟨t0, t3, ds, rs, s, Wi, li, oki⟩ => ⟨_, t3, k J wd Dl Rl ds rs _ ⟨s.trans (gnd_hid p Dl Rl J), Wi.src⟩ Wi oki⟩)⟩⟩
      refine ⟨_, (List.getElem?_set_ne (by decide)).trans t0, _, (List.getElem?_set_ne (by decide)).trans t3, p, wd, Dl, Rl, ds, rs, _, rfl, by omega, Wi, oki, fun J' u rs' d s' W' ok' => ⟨(List.getElem?_set_ne (by decide)).trans t0, (List.getElem?_set_ne (by decide)).trans t3, _, rs', s.trans s', W', ?_, ok'⟩⟩
      rw [List.length_append]
      show ds.length + 1 ≤ 2 + (i + 1)
      omega
end
end K1
/-! right deeds are equal to themselves -/
namespace K1
open PySem L2
def Lay0 (d : PyData) : Prop := d.canLay0 = true
theorem lay0_all : ∀ {ds : List PyData}, (∀ d ∈ ds, Lay0 d) → PyData.canLayAll0 ds = true
  | [], _ => rfl
  | d :: ds, h => by
    show (d.canLay0 && PyData.canLayAll0 ds) = true
    rw [h d List.mem_cons_self, lay0_all fun e he => h e (List.mem_cons_of_mem _ he)]
    rfl
theorem Lay0.tuple {ds : List PyData} (h : ∀ d ∈ ds, Lay0 d) : Lay0 (.tuple ds) := lay0_all h
theorem lay0_int (i : Int) : Lay0 (.int i) := rfl
theorem lay0_none : Lay0 .none := rfl
theorem lay0_thing {d : PyData} (h : thingD d = true) : Lay0 d := by
  obtain ⟨a, b, rfl, _⟩ := thing_int h
  exact rfl
theorem lay0_name {d : PyData} (h : nameD d = true) : Lay0 d := by
  cases d with
  | str x =>
    have e : (decide (1 ≤ x.length) && decide (x.length ≤ 4) && x.cps.toList.all letter) = true := h
    rw [Bool.and_eq_true] at e
    show PyData.strOk x = true
    unfold PyData.strOk
    rw [← Array.all_toList, List.all_eq_true]
    intro c hc
    have z := List.all_eq_true.mp e.2 c hc
    unfold letter at z
    rw [Bool.and_eq_true, decide_eq_true_eq, decide_eq_true_eq] at z
    rw [decide_eq_true_eq]
    omega
  | _ => cases h
theorem lay0_from {lo hi : Int} {d : PyData} (h : fromD lo hi d = true) : Lay0 d := by
  obtain ⟨i, rfl, _⟩ := from_int h
  exact lay0_int i
theorem lay0_noneD {d : PyData} (h : noneD d = true) : Lay0 d := by
  cases d with
  | none => exact lay0_none
  | _ => cases h
theorem lay0_binder {d : PyData} (h : binderD d = true) : Lay0 d := by
  cases e : noneD d with
  | true => exact lay0_noneD e
  | false =>
    rw [binder_some e] at h
    exact lay0_thing h
theorem lay0_content {k c : PyData} (h : contentD k c = true) : Lay0 k ∧ Lay0 c := by
  cases k with
  | str x =>
    refine ⟨lay_kind h, ?_⟩
    have e : (if x = "let" then nameD c else if x = "use" then binderD c else if x = "number" then fromD 0 99 c else holdsD (.str x) && noneD c) = true := h
    by_cases c1 : x = "let"
    · rw [if_pos c1] at e
      exact lay0_name e
    · rw [if_neg c1] at e
      by_cases c2 : x = "use"
      · rw [if_pos c2] at e
        exact lay0_binder e
      · rw [if_neg c2] at e
        by_cases c3 : x = "number"
        · rw [if_pos c3] at e
          exact lay0_from e
        · rw [if_neg c3, Bool.and_eq_true] at e
          exact lay0_noneD e.2
  | _ => cases h
theorem lay0_write {x : Str} {c : PyData} (h : writeD (.str x) c = true) : Lay0 c := by
  have e : (if x = "wish" then nameD c else if x = "point" then binderD c else decide (x = "set") && fromD 0 99 c) = true := h
  by_cases c1 : x = "wish"
  · rw [if_pos c1] at e
    exact lay0_name e
  · rw [if_neg c1] at e
    by_cases c2 : x = "point"
    · rw [if_pos c2] at e
      exact lay0_binder e
    · rw [if_neg c2, Bool.and_eq_true] at e
      exact lay0_from e.2
theorem lay0_body {x : Str} {r : List PyData} (h : bodyR x r = true) : ∀ e ∈ PyData.str x :: r, Lay0 e := by
  have two : ∀ {a : PyData} {l : List PyData}, Lay0 a → (∀ e ∈ l, Lay0 e) → ∀ e ∈ a :: l, Lay0 e := fun h1 h2 e he => by
    rcases List.mem_cons.mp he with z | z
    · rw [z]
      exact h1
    · exact h2 e z
  have no : ∀ e ∈ ([] : List PyData), Lay0 e := fun e he => absurd he List.not_mem_nil
  have hx : Lay0 (.str x) := by
    have z := (two_ok h).1
    have y : (PyData.canLay0 (.tuple ((PyData.str x :: r).take 2)) && decide (PyData.depth (.tuple ((PyData.str x :: r).take 2)) ≤ 64)) = true := z
    rw [Bool.and_eq_true] at y
    have w : (PyData.canLay0 (.str x) && PyData.canLayAll0 (r.take 1)) = true := y.1
    rw [Bool.and_eq_true] at w
    exact w.1
  refine two hx ?_
  unfold bodyR at h
  by_cases c1 : x = "make"
  · rw [if_pos c1] at h
    have z : r.length = 4 := Classical.byContradiction fun z => by
      rw [makeR_ne z] at h
      cases h
    obtain ⟨d1, d2, d3, d4, rfl⟩ := list4 z
    have em : makeR [d1, d2, d3, d4] = (thingD d2 && (fromD 0 999 d3 && contentD d1 d4)) := rfl
    rw [em, Bool.and_eq_true, Bool.and_eq_true] at h
    obtain ⟨n1, n4⟩ := lay0_content h.2.2
    exact two n1 (two (lay0_thing h.1) (two (lay0_from h.2.1) (two n4 no)))
  · rw [if_neg c1] at h
    by_cases c2 : x = "move"
    · rw [if_pos c2] at h
      have z : r.length = 3 := Classical.byContradiction fun z => by
        rw [moveR_ne z] at h
        cases h
      obtain ⟨d1, d2, d3, rfl⟩ := list3 z
      have em : moveR [d1, d2, d3] = (thingD d1 && (thingD d2 && fromD 0 999 d3)) := rfl
      rw [em, Bool.and_eq_true, Bool.and_eq_true] at h
      exact two (lay0_thing h.1) (two (lay0_thing h.2.1) (two (lay0_from h.2.2) no))
    · rw [if_neg c2] at h
      by_cases c3 : x = "drop"
      · rw [if_pos c3] at h
        have z : r.length = 1 := Classical.byContradiction fun z => by
          rw [dropR_ne z] at h
          cases h
        obtain ⟨d1, rfl⟩ := list1 z
        exact two (lay0_thing h) no
      · rw [if_neg c3] at h
        by_cases c4 : x = "undo" ∨ x = "redo"
        · rw [if_pos c4] at h
          have z : r.length = 1 := Classical.byContradiction fun z => by
            rw [markR_ne z] at h
            cases h
          obtain ⟨d1, rfl⟩ := list1 z
          have hs : stampD d1 = true := h
          refine two (lay0_thing ?_) no
          unfold thingD
          rw [hs, Bool.true_or]
        · rw [if_neg c4] at h
          have z : r.length = 2 := Classical.byContradiction fun z => by
            rw [writeR_ne z] at h
            cases h
          obtain ⟨d1, d2, rfl⟩ := list2 z
          have em : writeR x [d1, d2] = (thingD d1 && writeD (.str x) d2) := rfl
          rw [em, Bool.and_eq_true] at h
          exact two (lay0_thing h.1) (two (lay0_write h.2) no)
theorem lay0_deed {d : PyData} (h : deedD d = true) : Lay0 d := by
  obtain ⟨t, j, a, b, c, e, x, r, rfl, ht, hj, hk, hb⟩ := deed_shape h
  refine Lay0.tuple fun d hd => ?_
  simp only [List.mem_cons, List.not_mem_nil, or_false] at hd
  rcases hd with rfl | rfl | rfl
  · rfl
  · exact Lay0.tuple fun d hd => lay0_from (List.all_eq_true.mp hk d hd)
  · exact Lay0.tuple (lay0_body hb)
theorem depth_deed {d : PyData} (h : deedD d = true) : d.depth ≤ 3 := by
  obtain ⟨s, k, b, rfl, n1, n2, n3⟩ := nice_deed h
  show max s.depth (max k.depth (max b.depth 0)) + 1 ≤ 3
  have := n1.dp
  have := n2.dp
  have := n3.dp
  omega
theorem depth_all {k : Nat} : ∀ {ds : List PyData}, (∀ d ∈ ds, d.depth ≤ k) → PyData.depthAll ds ≤ k
  | [], _ => Nat.zero_le _
  | d :: ds, h => by
    show max d.depth (PyData.depthAll ds) ≤ k
    exact Nat.max_le.mpr ⟨h d List.mem_cons_self, depth_all fun e he => h e (List.mem_cons_of_mem _ he)⟩
theorem shaped_of {d : PyData} (h : Lay0 d) (hd : d.depth ≤ 64) : SeqAt.shaped d = true := by
  show (PyData.canLay0 d && decide (d.depth ≤ 64)) = true
  rw [h, decide_eq_true hd]
  rfl
theorem shaped_deed {d : PyData} (h : deedD d = true) : SeqAt.shaped d = true := shaped_of (lay0_deed h) (by have := depth_deed h; omega)
theorem shaped_deeds {ds : List PyData} (h : ∀ d ∈ ds, deedD d = true) : SeqAt.shaped (.list ds) = true := by
  refine shaped_of (lay0_all fun d hd => lay0_deed (h d hd)) ?_
  show PyData.depthAll ds + 1 ≤ 64
  have := depth_all fun d hd => depth_deed (h d hd)
  omega
theorem dict_deeds : ∀ {ds : List PyData}, (∀ d ∈ ds, deedD d = true) → PyData.hasDictAll ds = false
  | ds, h => (pure_all fun d hd => by
    obtain ⟨s, k, b, rfl, p1, p2, p3⟩ := pure_deed (h d hd)
    exact Pure.tuple fun e he => by
      simp only [List.mem_cons, List.not_mem_nil, or_false] at he
      rcases he with rfl | rfl | rfl
      · exact p1
      · exact p2
      · exact p3).1
end K1
/-! Book's methods -/
namespace K1
open PySem L2 PySem.Spec PyProof.Rows RZ
structure BkT (K : PySem.W.Frag) (C : Addr) : Prop where
  ha : PySem.W.findIn K (.ref C) "__class__" = some (some (.builtin "object.__class__"))
  hn : PySem.W.specialIn K (.builtin "object.__class__") "__get__" = some (some (.builtin "getset_descriptor.__get__"))
  htk : PySem.W.takesIn K (.builtin "object.__class__") = some true
  hm : PySem.W.mroIn K C (.type "object") = some true
  kO : PySem.W.kitOne K (.ref C) (.ref C) = some true
def pairK : PyData → List Int
  | .tuple es => es.map intD
  | _ => []
/-- whether it is a stamp of these deeds -/
def hasD (ds : List PyData) (d : PyData) : Bool := stampD d && (atD ds (pairK d)).isSome
def spDeeds (K : PySem.W.Frag) (C : Addr) : Sp := fun vs H Q _ => ∃ p ds, vs = [.ref p] ∧ BookAt K C H p ds ∧ ∀ l us, H l = none → DQs K H us ds → Sts K H us ds → Q (.ref l) (upd H l (.lst us))
def spListed (K : PySem.W.Frag) (C : Addr) : Sp := fun vs H Q _ => ∃ p ds, vs = [.ref p] ∧ BookAt K C H p ds ∧ ∀ l us, H l = none → DQs K H us (ds.map stOf) → Q (.ref l) (upd H l (.lst us))
def spLen (K : PySem.W.Frag) (C : Addr) : Sp := fun vs H Q _ => ∃ p ds, vs = [.ref p] ∧ BookAt K C H p ds ∧ Q (.int (ds.length : Nat)) H
def spHas (K : PySem.W.Frag) (C : Addr) : Sp := fun vs H Q _ => ∃ p ds v d, vs = [.ref p, v] ∧ BookAt K C H p ds ∧ DQ K H v d ∧ ∀ H', Same H H' → Q (.bl (hasD ds d)) H'
def spGet (K : PySem.W.Frag) (C Cs : Addr) : Sp := fun vs H Q E => ∃ p ds v d, vs = [.ref p, v] ∧ BookAt K C H p ds ∧ DQ K H v d ∧ (hasD ds d = true → ∀ e H' u, atD ds (pairK d) = some e → Same H H' → DQ K H' u e → StT K H' u e → Q u H') ∧
  (hasD ds d = false → ∀ H' dd, Same H H' → H' dd = some (.xd [("told", v)]) → E (.ref Cs) (some dd) H')
def spLast (K : PySem.W.Frag) (C Ch : Addr) : Sp := fun vs H Q E => ∃ p ds v d, vs = [.ref p, v] ∧ BookAt K C H p ds ∧ DQ K H v d ∧ (fromD 0 3 d = true → ∀ H', Same H H' → Q (.int ((lastD ds l0).getD (intD d).toNat 0)) H') ∧
  (fromD 0 3 d = false → ∀ H' dd, Same H H' → H' dd = some (.xd [("told", v)]) → E (.ref Ch) (some dd) H')
def spEqB (K : PySem.W.Frag) (C : Addr) : Sp := fun vs H Q _ => ∃ p q ds es, vs = [.ref p, .ref q] ∧ BookAt K C H p ds ∧ BookAt K C H q es ∧ Q (.bl (PyData.eqv (.list ds) (.list es))) H
theorem stamp_pair {K : PySem.W.Frag} {H : Hp} {v : V} {d : PyData} (h : DQ K H v d) (e : stampD d = true) : ∃ b t j, v = .ref b ∧ SqT K H b [.int t, .int j] ∧ d = .tuple [.int t, .int j] ∧ (1 ≤ t ∧ t ≤ 999) ∧ 0 ≤ j ∧ j ≤ 3 := by
  cases h with
  | @tup a xs ds h1 h2 =>
    match ds, e, h2 with
    | [a, b], e, h2 =>
      have e' : (fromD 1 999 a && fromD 0 3 b) = true := e
      rw [Bool.and_eq_true] at e'
      obtain ⟨t, rfl, t1, t2⟩ := from_int e'.1
      obtain ⟨j, rfl, j1, j2⟩ := from_int e'.2
      obtain ⟨q, eq, hq⟩ := DQ.pair (DQ.tup h1 h2)
      cases eq
      exact ⟨_, t, j, rfl, hq, rfl, ⟨t1, t2⟩, j1, j2⟩
    | [], e, _ => cases e
    | [_], e, _ => cases e
    | _ :: _ :: _ :: _, e, _ => cases e
  | _ => cases e
section
variable {P : Program} {w : World} {K : PySem.W.Frag} {mg : Str → Option Value} {base : Heap}
theorem sc_deeds : FnScope ["self"] ["self"] (defScope (inClass (top 40) 1)) := ⟨rfl, rfl, rfl, by decide +kernel, rfl, by decide +kernel, by decide +kernel⟩
theorem ok_deeds {f C : Addr} {fd : FuncData} (F : Fun K "deeds" "Book.deeds" (inClass (top 40) 1) f fd) (B : Bk K mg C) (M2 : Nms2 mg) : FnOk P w K mg base CX0 1 f fd ["self"] (spDeeds K C) := by
  refine F.ok sc_deeds (fun vs H Q E h => ?_) (fun cdv A outer s H vs Q E hr h => ?_)
  · obtain ⟨p, ds, rfl, _⟩ := h
    rfl
  · obtain ⟨p, ds, rfl, ⟨⟨dx, rA, tA, sA, lA, us, kvs, ss, h1, h2, h3, _, _, _, _, _, h9⟩, _⟩, k⟩ := h
    refine ⟨_, pss_one (ps_ret (pe_callTy call_list_of (by rfl) M2.list (by decide +kernel) (pa_cons (pe_fld (pv 0) rfl) pa_nil))), ?_⟩
    exact ⟨_, rfl, p, C, dx, _, _, rfl, h1, B.cl, B.nR, fl_rows, rA, us, rfl, .inl (SqL.of h2), fun l nl => k l us nl h3 h9⟩
theorem sc_len : FnScope ["self"] ["self"] (defScope (inClass (top 40) 10)) := ⟨rfl, rfl, rfl, by decide +kernel, rfl, by decide +kernel, by decide +kernel⟩
theorem ok_len {f C : Addr} {fd : FuncData} (F : Fun K "__len__" "Book.__len__" (inClass (top 40) 10) f fd) (T : All K mg) (B : Bk K mg C) : FnOk P w K mg base CX0 1 f fd ["self"] (spLen K C) := by
  refine F.ok sc_len (fun vs H Q E h => ?_) (fun cdv A outer s H vs Q E hr h => ?_)
  · obtain ⟨p, ds, rfl, _⟩ := h
    rfl
  · obtain ⟨p, ds, rfl, ⟨⟨dx, rA, tA, sA, lA, us, kvs, ss, h1, h2, h3, _⟩, _⟩, k⟩ := h
    refine ⟨_, pss_one (ps_ret (pe_callB call_len_seq (by rfl) T.bi.len PySem.boot_len (pa_cons (pe_fld (pv 0) rfl) pa_nil))), ?_⟩
    refine ⟨_, rfl, p, C, dx, _, _, rfl, h1, B.cl, B.nR, fl_rows, rA, us, rfl, .inl (SqL.of h2), ?_⟩
    rw [h3.len]
    exact k
theorem sc_has : FnScope ["self", "x"] ["self", "x"] (defScope (inClass (top 40) 9)) := ⟨rfl, rfl, rfl, by decide +kernel, rfl, by decide +kernel, by decide +kernel⟩
theorem ok_has {f C : Addr} {fd : FuncData} (F : Fun K "__contains__" "Book.__contains__" (inClass (top 40) 9) f fd) (T : All K mg) (B : Bk K mg C) : FnOk P w K mg base CX0 4 f fd ["self", "x"] (spHas K C) := by
  refine F.ok sc_has (fun vs H Q E h => ?_) (fun cdv A outer s H vs Q E hr h => ?_)
  · obtain ⟨p, ds, v, d, rfl, _⟩ := h
    rfl
  · obtain ⟨p, ds, v, d, rfl, b, hd, k⟩ := h
    have hu := hu_of hr
    refine ⟨_, pss_one (ps_ret (pe_and (pe_cl (cl_stamp T) hr (by decide) (pa_cons (pv 1) pa_nil)) (pe_one (pe_cmpR (op_inDT hu) (pv 1) (pe_fld (pv 0) rfl) rfl)))), ?_⟩
    refine ⟨_, rfl, v, d, rfl, hd, fun H1 S1 => ⟨_, rfl, ?_⟩⟩
    cases e : stampD d with
    | false =>
      have z := k H1 S1
      unfold hasD at z
      rw [e, Bool.false_and] at z
      exact iteF z
    | true =>
      obtain ⟨⟨dx, rA, tA, sA, lA, us, kvs, ss, h1, h2, h3, h4, h5, _⟩, _⟩ := b.to S1
      obtain ⟨q, t, j, rfl, hq, rfl, _⟩ := stamp_pair (hd.to S1) e
      refine iteT ⟨_, rfl, _, rfl, p, C, dx, _, _, rfl, h1, B.cl, B.nT, fl_table, tA, q, kvs, [t, j], rfl, rfl, .inl h4, hq, ?_⟩
      have z := k H1 S1
      have e2 : hasD ds (.tuple [.int t, .int j]) = (valV kvs (kI [t, j])).isSome := by
        unfold hasD
        rw [e, Bool.true_and]
        show (atD ds [t, j]).isSome = _
        rcases tb_at (K := K) (H := H1) [t, j] h5.tb with ⟨v', d', e1, e2, _⟩ | ⟨e1, e2⟩
        · rw [e1, e2]
          rfl
        · rw [e1, e2]
          rfl
      rw [e2] at z
      rw [Bool.false_bne]
      exact z
theorem sc_get : FnScope ["self", "at"] ["self", "at"] (defScope (inClass (top 40) 8)) := ⟨rfl, rfl, rfl, by decide +kernel, rfl, by decide +kernel, by decide +kernel⟩
theorem ok_get {f g C Cs fs : Addr} {fd gd : FuncData} (F : Fun K "__getitem__" "Book.__getitem__" (inClass (top 40) 8) f fd) (G : Fun K "__contains__" "Book.__contains__" (inClass (top 40) 9) g gd) (bG : Binds K gd ["self", "x"] []) (hs : PySem.W.findIn K (.ref C) "__contains__" = some (some (.ref g))) (hf : PySem.W.isFn K (.ref g) = true)
    (T : All K mg) (B : Bk K mg C) (Rs : Er K mg "NoStamp" Cs fs) : FnOk P w K mg base (L2.CX P w) 5 f fd ["self", "at"] (spGet K C Cs) := by
  have GO : FnOk P w K mg base CX0 4 g gd ["self", "x"] (spHas K C) := ok_has G T B
  refine F.okX sc_get (fun vs H Q E h => ?_) (fun cdv A outer s H vs Q E hr h => ?_)
  · obtain ⟨p, ds, v, d, rfl, _⟩ := h
    rfl
  · obtain ⟨p, ds, v, d, rfl, b, hd, k1, k2⟩ := h
    have hu := hu_of hr
    refine ⟨_, pss_cons (ps_if (pt_cmpR (op_notInO GO hr bG hs hf) (pv 1) (pv 0) rfl) (pss_one (ps_raise rfl (takes_of rfl rfl rfl rfl) (pmk_err Rs hr (by decide) (pa_cons (pv 1) pa_nil)))) pss_nil) (pss_one (ps_ret (pe_dtget hu (pe_fld (pv 0) rfl) (pv 1) (fun _ _ => rfl)))), ?_⟩
    obtain ⟨⟨dx0, _, _, _, _, _, _, _, h10, _⟩, _⟩ := id b
    refine ⟨_, rfl, _, rfl, p, dx0, _, rfl, h10, p, ds, v, d, rfl, b, hd, fun H1 S1 => ⟨_, rfl, _, rfl, ?_⟩⟩
    cases e : hasD ds d with
    | false => exact iteT ⟨_, rfl, _, rfl, fun H2 dd S2 h2 => k2 e H2 dd (S1.trans S2) h2⟩
    | true =>
      have e' := e
      unfold hasD at e'
      rw [Bool.and_eq_true] at e'
      obtain ⟨⟨dx, rA, tA, sA, lA, us, kvs, ss, h1, h2, h3, h4, h5, _⟩, _⟩ := b.to S1
      obtain ⟨q, t, j, rfl, hq, rfl, _⟩ := stamp_pair (hd.to S1) e'.1
      have at' : (atD ds [t, j]).isSome = true := e'.2
      rcases tbS_at (K := K) (H := H1) [t, j] h5 with ⟨v', d', e1, e2, hv', hst'⟩ | ⟨e1, e2⟩
      · exact iteF ⟨_, rfl, p, C, dx, _, _, rfl, h1, B.cl, B.nT, fl_table, _, rfl, tA, q, kvs, v', [t, j], rfl, rfl, .inl h4, hq, e1, k1 e d' H1 v' e2 S1 hv' hst'⟩
      · rw [e2] at at'
        cases at'
theorem sc_last : FnScope ["self", "hand"] ["self", "hand"] (defScope (inClass (top 40) 3)) := ⟨rfl, rfl, rfl, by decide +kernel, rfl, by decide +kernel, by decide +kernel⟩
theorem ok_last {f C Ch fh : Addr} {fd : FuncData} (F : Fun K "last" "Book.last" (inClass (top 40) 3) f fd) (T : All K mg) (B : Bk K mg C) (Rh : Er K mg "NoHand" Ch fh) : FnOk P w K mg base (L2.CX P w) 11 f fd ["self", "hand"] (spLast K C Ch) := by
  refine F.okX sc_last (fun vs H Q E h => ?_) (fun cdv A outer s H vs Q E hr h => ?_)
  · obtain ⟨p, ds, v, d, rfl, _⟩ := h
    rfl
  · obtain ⟨p, ds, v, d, rfl, b, hd, k1, k2⟩ := h
    refine ⟨_, pss_cons (ps_expr (pe_clX (cl_chkhand T Rh) hr (takes_of rfl rfl rfl rfl) (by decide) (pa_cons (pv 1) pa_nil))) (pss_one (ps_ret (pe_ix ix_tup (pe_fld (pv 0) rfl) (pv 1) (fun _ _ => rfl)))), ?_⟩
    refine ⟨_, rfl, v, d, rfl, hd, fun ok H1 S1 => ?_, fun no H2 dd S2 h2 => k2 no H2 dd S2 h2⟩
    obtain ⟨i, rfl, i1, i2⟩ := from_int ok
    obtain ⟨n, rfl⟩ : ∃ n : Nat, i = (n : Int) := ⟨i.toNat, by omega⟩
    cases hd
    obtain ⟨⟨dx, rA, tA, sA, lA, us, kvs, ss, h1, h2, h3, h4, h5, h6, h7, h8, _⟩, _⟩ := b.to S1
    exact ⟨_, rfl, p, C, dx, _, _, rfl, h1, B.cl, B.nL, fl_last, _, rfl, lA, _, _, _, rfl, rfl, SqT.of h8, at_int (by rw [lastD_len]; show n < 4; omega), k1 ok H1 S1⟩
theorem sc_eqB : FnScope ["self", "other"] ["self", "other"] (defScope (inClass (top 40) 12)) := ⟨rfl, rfl, rfl, by decide +kernel, rfl, by decide +kernel, by decide +kernel⟩
theorem ok_eqB {f C : Addr} {fd : FuncData} (F : Fun K "__eq__" "Book.__eq__" (inClass (top 40) 12) f fd) (T : All K mg) (B : Bk K mg C) (Y : BkT K C) : FnOk P w K mg base CX0 1 f fd ["self", "other"] (spEqB K C) := by
  refine F.ok sc_eqB (fun vs H Q E h => ?_) (fun cdv A outer s H vs Q E hr h => ?_)
  · obtain ⟨p, q, ds, es, rfl, _⟩ := h
    rfl
  · obtain ⟨p, q, ds, es, rfl, b1, b2, k⟩ := h
    refine ⟨_, pss_one (ps_ret (pe_and (pe_callB call_isi (by rfl) T.bi.isi (by decide +kernel) (pa_cons (pv 1) (pa_cons (pe_glob (v := .ref C) rfl B.mgC rfl) pa_nil))) (pe_one (pe_cmpR (op_eqD hr.units) (pe_fld (pv 0) rfl) (pe_fld (pv 1) rfl) (nomark _))))), ?_⟩
    obtain ⟨⟨dx, rA, tA, sA, lA, us, kvs, ss, h1, h2, h3, _⟩, r1, _⟩ := b1
    obtain ⟨⟨dy, rB, tB, sB, lB, ws, kws, ts, g1, g2, g3, _⟩, r2, _⟩ := b2
    exact ⟨_, rfl, .ref q, .ref C, .ref C, .ref C, true, rfl, .own C, .base (.ins g1 B.cl Y.ha Y.hn Y.htk Y.hm), Y.kO, _, rfl, iteT ⟨_, rfl, p, C, dx, _, _, rfl, h1, B.cl, B.nR, fl_rows, _, rfl, q, C, dy, _, _, rfl, g1, B.cl, B.nR, fl_rows, .list ds, .list es,
      DQ.dp _ _ (dict_deeds r1) (.lst (SqL.of h2) h3), DQ.dp _ _ (dict_deeds r2) (.lst (SqL.of g2) g3), shaped_deeds r1, shaped_deeds r2, k⟩⟩
end
end K1
/-! dict(pairs) whose keys are unlike tuples, and sorted of it -/
namespace K1
open PySem L2 PySem.Spec PyProof.Rows
section
variable {κ : Type} [DecidableEq κ]
theorem storedAll_app : ∀ {ps xs : List (κ × Addr × Value)}, (ps.map (·.1)).Nodup → (∀ p ∈ ps, ∀ x ∈ xs, x.1 ≠ p.1) → storedAllH xs ps = xs ++ ps
  | [], xs, _, _ => (List.append_nil xs).symm
  | p :: ps, xs, nd, h => by
    rw [List.map_cons, List.nodup_cons] at nd
    have e0 : atKey xs p.1 = none := by
      unfold atKey
      rw [List.find?_eq_none.mpr fun x hx => by rw [decide_eq_true_eq]; exact h p List.mem_cons_self x hx]
      rfl
    have e1 : storedAllH xs (p :: ps) = storedAllH (storedH xs p.1 p.2.1 p.2.2) ps := rfl
    rw [e1, storedH_new e0, storedAll_app nd.2 fun q hq x hx => ?_]
    · rw [List.append_assoc]
      rfl
    · rcases List.mem_append.mp hx with z | z
      · exact h q (List.mem_cons_of_mem _ hq) x z
      · rw [List.mem_singleton.mp z]
        exact fun e => nd.1 (List.mem_map.mpr ⟨q, hq, e.symm⟩)
end
/-- a pair's address, its key's address, the key, the value -/
abbrev PQ := Addr × Addr × List Int × V
section
variable {X : Cx} {pins : List (Addr × Obj)} {σ : L2.St} {H : Hp} {s : Shared}
theorem pq_vals (I : Inv X pins σ H s) : ∀ (ps : List PQ), (∀ q ∈ ps, H q.1 = some (.tup [.ref q.2.1, q.2.2.2])) → ∃ cs : List (PQ × Value), cs.map (·.1) = ps ∧ ∀ c ∈ cs, RelV c.1.2.2.2 c.2 ∧ IsTup s.heap c.1.1 #[.ref c.1.2.1, c.2]
  | [], _ => ⟨[], rfl, fun c hc => absurd hc List.not_mem_nil⟩
  | q :: ps, h => by
    obtain ⟨cs, e, hc⟩ := pq_vals I ps fun q hq => h q (List.mem_cons_of_mem _ hq)
    obtain ⟨its, rv, it, _⟩ := I.tuple (a := q.1) (xs := [.ref q.2.1, q.2.2.2]) (.inl (.inl (h q List.mem_cons_self)))
    cases rv with
    | cons r1 rs =>
      cases rs with
      | @cons _ u2 _ _ r2 rs =>
        cases rs
        cases r1
        refine ⟨(q, u2) :: cs, by rw [List.map_cons, e], fun c hm => ?_⟩
        rcases List.mem_cons.mp hm with z | z
        · rw [z]
          exact ⟨r2, it⟩
        · exact hc c z
/-- dict(xs), xs a list of pairs (tuple of ints, value), the tuples unlike -/
def rDictPV (K : PySem.W.Frag) : List V → Hp → VK → Prop := fun xs H Q => ∃ (a : Addr) (ps : List PQ), xs = [.ref a] ∧ SqL K H a (ps.map fun q => V.ref q.1) ∧ (∀ q ∈ ps, H q.1 = some (.tup [.ref q.2.1, q.2.2.2]) ∧ H q.2.1 = some (.tup (q.2.2.1.map V.int))) ∧ ps.length ≤ 62 ∧ (ps.map (·.2.2.1)).Nodup ∧
  ∀ (d : Addr), H d = none → Q (.ref d) (upd H d (.dT (ps.map fun q => (kI q.2.2.1, q.2.2.2))))
theorem call_dictPV (hc : X.calm = true) (hu : X.A.units + 3 < cLine) : CallR X (.type "dict") (rDictPV X.K) := by
  intro pins s σ H xs us Q I r h
  obtain ⟨a, ps, rfl, hl, hk, hf, nd, q⟩ := h
  obtain ⟨u, rfl, rx⟩ := r.one
  cases rx
  obtain ⟨its, rv, pl, hz⟩ := I.list hl
  obtain ⟨cs, ec, hcs⟩ := pq_vals I ps fun q hq => (hk q hq).1
  have eits : its = cs.map fun c => Value.ref c.1.1 := by
    have go : ∀ (l : List PQ) (us : List Value), Vals (l.map fun q => V.ref q.1) us → us = l.map fun q => Value.ref q.1 := by
      intro l
      induction l with
      | nil =>
        intro us r
        cases r
        rfl
      | cons q l ih =>
        intro us r
        cases r with
        | cons r1 r2 =>
          cases r1
          rw [ih _ r2]
          rfl
    rw [go ps its rv, ← ec, List.map_map]
    rfl
  have hn : H s.heap.objs.size = none := I.hok.fresh (Nat.le_refl _)
  have inps : ∀ c ∈ cs, c.1 ∈ ps := fun c hc => by
    rw [← ec]
    exact List.mem_map.mpr ⟨c, hc, rfl⟩
  have keyOf : ∀ c ∈ cs, H c.1.2.1 = some (.tup ((kI c.1.2.2.1).map kV)) := fun c hc => by
    rw [kI_V]
    exact (hk _ (inps c hc)).2
  let psV : List (Value × Value) := cs.map fun c => (Value.ref c.1.2.1, c.2)
  let psK : List (List Key × Addr × Value) := cs.map fun c => (kI c.1.2.2.1, c.1.2.1, c.2)
  let Ts : Nat → Addr := fun j => ((cs[j]?).map (·.1.1)).getD 0
  have lV : psV.length = cs.length := List.length_map ..
  have lK : psK.length = cs.length := List.length_map ..
  have lc : cs.length = ps.length := by rw [← ec, List.length_map]
  have items : PairItems s.heap its.toArray Ts psV := by
    refine ⟨by rw [List.size_toArray, eits, List.length_map, lV], fun j k v hj => ?_⟩
    have hj' : (cs[j]?).map (fun c => (Value.ref c.1.2.1, c.2)) = some (k, v) := by rw [← List.getElem?_map]; exact hj
    obtain ⟨c, hcj, e⟩ := Option.map_eq_some_iff.mp hj'
    cases e
    have hm := List.mem_of_getElem? hcj
    have eT : Ts j = c.1.1 := by show ((cs[j]?).map (·.1.1)).getD 0 = _; rw [hcj]; rfl
    refine ⟨?_, ?_⟩
    · rw [List.getElem?_toArray, eits, List.getElem?_map, hcj, eT]
      rfl
    · rw [eT]
      obtain ⟨o, ho, hcl, n, hd⟩ := (hcs c hm).2
      exact .inl ⟨o, ho, hcl, n, hd⟩
  refine call_dict_pairsH (knd := tupleKind (mixKind X.prog X.w)) (ps := psK) (PairArg.list a its.toArray Ts psV) (I.ok.hd hc) (by show X.A.units + 2 < cLine; omega) ⟨pl, items⟩ ⟨by rw [lK, lV], fun i key v hr => ?_⟩ (fun h' hkp x hx => ?_) (by rw [lV, lc, sizeLine_eq]; omega) fun h' tk hD hkp => ?_
  · have hj' : (cs[i]?).map (fun c => (Value.ref c.1.2.1, c.2)) = some (key, v) := by rw [← List.getElem?_map]; exact hr
    obtain ⟨c, hcj, e⟩ := Option.map_eq_some_iff.mp hj'
    cases e
    refine ⟨kI c.1.2.2.1, c.1.2.1, ?_, rfl⟩
    show (cs.map _)[i]? = _
    rw [List.getElem?_map, hcj]
    rfl
  · obtain ⟨c, hm, rfl⟩ := List.mem_map.mp hx
    refine tupleKind_stays.stays (h := s.heap) (fun b o vs n hb _ => hkp b o (Nat.ne_of_lt (Heap.lt_size hb)) List.not_mem_nil hb) (L2.key_of I.hok (keyOf c hm))
  · have kp : ∀ b u, s.heap.get? b = some u → h'.get? b = some u := fun b u e => hkp b u List.not_mem_nil e
    have ndK : (psK.map (·.1)).Nodup := by
      have e1 : psK.map (·.1) = (ps.map (·.2.2.1)).map kI := by
        rw [← ec]
        show (cs.map _).map _ = ((cs.map _).map _).map _
        rw [List.map_map, List.map_map, List.map_map]
        rfl
      rw [e1, List.nodup_iff_pairwise_ne, List.pairwise_map]
      exact nd.imp fun {a b} hne e => hne (kI_inj e)
    have eall : storedAllH [] psK = psK := storedAll_app (xs := []) ndK (fun p _ x hx => absurd hx List.not_mem_nil)
    obtain ⟨o, es, ep, h1, h2, h3, h4, h5, h6⟩ := hD
    rw [eall] at h4 h5 h6
    refine ⟨.ref s.heap.objs.size, upd H s.heap.objs.size (.dT (ps.map fun q => (kI q.2.2.1, q.2.2.2))), I.laid (t' := tk) kp (Nat.le_refl _) ?_, rfl, q _ hn⟩
    refine ⟨by rw [List.length_map, sizeLine_eq]; omega, beq_eq_false_iff_ne.mpr (Ne.symm (Nat.ne_of_lt I.big)), psK, ?_, o, es, ep, h1, h2, h3, h4, h6⟩
    have go : ∀ (l : List (PQ × Value)), (∀ c ∈ l, c ∈ cs) →
        Paired (fun (p : List Key × V) (q : List Key × Addr × Value) => p.1 = q.1 ∧ upd H s.heap.objs.size (.dT (ps.map fun q => (kI q.2.2.1, q.2.2.2))) q.2.1 = some (.tup (p.1.map kV)) ∧ RelV p.2 q.2.2) ((l.map (·.1)).map fun q => (kI q.2.2.1, q.2.2.2)) (l.map fun c => (kI c.1.2.2.1, c.1.2.1, c.2)) := by
      intro l
      induction l with
      | nil => exact fun _ => .nil
      | cons c l ih =>
        intro h
        have hm := h c List.mem_cons_self
        refine .cons ⟨rfl, ?_, (hcs c hm).1⟩ (ih fun y hy => h y (List.mem_cons_of_mem _ hy))
        show upd H s.heap.objs.size _ c.1.2.1 = some (.tup ((kI c.1.2.2.1).map kV))
        rw [upd_ne (ne_of_none (keyOf c hm) hn)]
        exact keyOf c hm
    have z := go cs fun c hc => hc
    rw [ec] at z
    exact z
end
end K1
namespace K1
open PySem L2 PySem.Spec PyProof.Rows
/-- sorted(d), d a dict whose keys are pairs of ints -/
def rSortDT : List V → Hp → VK → Prop := fun xs H Q => ∃ (d : Addr) (ps : List (List Int × V)), xs = [.ref d] ∧ H d = some (.dT (ps.map fun q => (kI q.1, q.2))) ∧ ps.length ≤ 62 ∧ (∀ q ∈ ps, q.1.length = 2 ∧ TS.Bd 1000 q.1) ∧
  ∀ (L : List (Addr × List Int)) (p : Addr), (L.map (·.2)).Perm (ps.map (·.1)) → L.Pairwise (fun q r => TS.code 1000 q.2 ≤ TS.code 1000 r.2) → (∀ q ∈ L, H q.1 = some (.tup (q.2.map V.int))) → H p = none → Q (.ref p) (upd H p (.lst (L.map fun q => V.ref q.1)))
section
variable {X : Cx}
theorem call_sortDT (hc : X.calm = true) : CallR X (.builtin "sorted") rSortDT := by
  intro pins s σ H xs us Q I r h
  obtain ⟨d, ps, rfl, hd, hf, hB, q⟩ := h
  obtain ⟨u, rfl, rx⟩ := r.one
  cases rx
  obtain ⟨z, hs, ms, pr, o, es, ep, ho, hx, hdt, he, hn⟩ := (show ObjOk X.prog X.w H s.heap d (.dT (ps.map fun q => (kI q.1, q.2))) from I.hok d _ hd)
  have l1 : es.size = ms.length := size_of_entries he
  have l2 : (ps.map fun q => (kI q.1, q.2)).length = ms.length := Paired.length pr
  rw [List.length_map] at l2
  -- addresses with their keys
  obtain ⟨L, e1, e2, hL⟩ : ∃ L : List (Addr × List Int), L.map (·.1) = ms.map (·.2.1) ∧ L.map (·.2) = ps.map (·.1) ∧ ∀ q ∈ L, H q.1 = some (.tup (q.2.map V.int)) := by
    have go : ∀ (ps : List (List Int × V)) (ms : List (List Key × Addr × Value)), Paired (fun (p : List Key × V) (q : List Key × Addr × Value) => p.1 = q.1 ∧ H q.2.1 = some (.tup (p.1.map kV)) ∧ RelV p.2 q.2.2) (ps.map fun q => (kI q.1, q.2)) ms →
        ∃ L : List (Addr × List Int), L.map (·.1) = ms.map (·.2.1) ∧ L.map (·.2) = ps.map (·.1) ∧ ∀ q ∈ L, H q.1 = some (.tup (q.2.map V.int)) := by
      intro ps
      induction ps with
      | nil =>
        intro ms h
        cases h
        exact ⟨[], rfl, rfl, fun q hq => absurd hq List.not_mem_nil⟩
      | cons k ps ih =>
        intro ms h
        cases h with
        | @cons _ m _ ms' h1 h2 =>
          obtain ⟨L, a1, a2, a3⟩ := ih ms' h2
          refine ⟨(m.2.1, k.1) :: L, by rw [List.map_cons, List.map_cons, a1], by rw [List.map_cons, a2, List.map_cons], fun q hq => ?_⟩
          rcases List.mem_cons.mp hq with z | z
          · rw [z]
            have g := h1.2.1
            rw [show ((kI k.1, k.2) : List Key × V).1 = kI k.1 from rfl, kI_V] at g
            exact g
          · exact a3 q z
    exact go ps ms pr
  have lL : L.length = ps.length := by
    have := congrArg List.length e2
    rw [List.length_map, List.length_map] at this
    exact this
  refine Calls.call_function_entry PyProof.Rows.kind_sorted PyProof.Rows.plain_sorted PyProof.Rows.entry_sorted (PyProof.Rows.args_sorted1 _) ?_
  unfold Builtin.«sorted»
  refine wpAny_bind (m := checkCount "sorted" 1 1 _) (wpAny_pure ?_)
  refine wpAny_bind (PySem.W.kdu_collect (A := X.A.in1) (kdl_raw hs hx hdt) (I.ok.hd hc) ho (by rw [l1, ← l2, sizeLine_eq]; omega) fun h' tk acc hk it => ?_)
  have ea : acc.toList = L.map fun q => Value.ref q.1 := by
    have e3 : (L.map fun q => Value.ref q.1) = ms.map fun x => Value.ref x.2.1 := by
      have e4 := congrArg (List.map Value.ref) e1
      rw [List.map_map, List.map_map] at e4
      exact e4
    rw [e3]
    have hl : acc.toList.length = ms.length := by rw [Array.length_toList, it.1]; exact l1
    apply List.ext_getElem?
    intro j
    rw [List.getElem?_map]
    cases hj : acc.toList[j]? with
    | none =>
      have h1 := List.getElem?_eq_none_iff.mp hj
      rw [List.getElem?_eq_none (by omega)]
      all_goals rfl
    | some v =>
      obtain ⟨en, hen, hv⟩ := it.2 j v (by rw [← Array.getElem?_toList]; exact hj)
      have qe := entry_at he j
      rw [hen] at qe
      cases hb : ms[j]? with
      | none =>
        rw [hb] at qe
        exact nomatch (show some en = none from qe)
      | some b =>
        rw [hb] at qe
        have e2 : en = entryOfKey (tupleKind (mixKind X.prog X.w)) b := Option.some.inj qe
        rw [hv, e2]
        all_goals rfl
  have hal : acc.toList.length = L.length := by rw [ea, List.length_map]
  have hvl : acc.toList.length < 64 := by omega
  have I1 : Inv X pins σ H { s with heap := h', toks := tk } := I.kept hk
  refine wpAny_bind (wpAny_newList ?_ (by rw [sizeLine_eq]; omega))
  have hoL : (h'.push (seqObj "list" acc.toList.toArray 0)).get? h'.objs.size = some (seqObj "list" acc.toList.toArray 0) := Heap.get?_push_size _ rfl
  show wpAny _ _ _ _ _ { s with heap := h'.push (seqObj "list" acc.toList.toArray 0), toks := tk }
  have tup : ∀ q ∈ L, TS.TupInts (h'.push (seqObj "list" acc.toList.toArray 0)) (.ref q.1) q.2 := fun q hq => by
    obtain ⟨its, rv, p, _⟩ := I1.tuple (a := q.1) (xs := q.2.map V.int) (.inl (.inl (hL q hq)))
    obtain ⟨ob, hob, rest⟩ := p
    exact ⟨q.1, its.toArray, rfl, ⟨ob, Heap.get?_push_of_some _ hob, rest⟩, by simpa using rv.ints⟩
  have inks : ∀ q ∈ L, q.2.length = 2 ∧ TS.Bd 1000 q.2 := fun q hq => by
    have hm : q.2 ∈ ps.map (·.1) := by
      rw [← e2]
      exact List.mem_map.mpr ⟨q, hq, rfl⟩
    obtain ⟨r, hr, er⟩ := List.mem_map.mp hm
    rw [← er]
    exact hB r hr
  have x : TS.TupsOk (h'.push (seqObj "list" acc.toList.toArray 0)) 2 1000 acc.toList := fun v hv => by
    rw [ea] at hv
    obtain ⟨q, hq, rfl⟩ := List.mem_map.mp hv
    exact ⟨q.2, tup q hq, inks q hq⟩
  refine wpAny_bind (wpAny_holding (TS.call_sort_tups (s := { s with heap := h'.push (seqObj "list" acc.toList.toArray 0), toks := tk }) hoL hvl (by decide) x fun out a1 a2 => ?_))
  obtain ⟨c, hc'⟩ := PyProof.Rows.sortedHeap_at (vs := acc.toList) (out := out) hoL
  rw [ea] at a1
  obtain ⟨L', e5, pL⟩ := perm_map_inv (f := fun q : Addr × List Int => Value.ref q.1) a1.symm (L := L) rfl
  have inL : ∀ q ∈ L', q ∈ L := fun q hq => pL.mem_iff.mp hq
  have pw : L'.Pairwise (fun q r => TS.code 1000 q.2 ≤ TS.code 1000 r.2) := by
    rw [e5] at a2
    refine List.Pairwise.imp_of_mem (fun {q r} hq hr hle => ?_) (List.pairwise_map.mp a2)
    have f1 : TS.intsOf (h'.push (seqObj "list" acc.toList.toArray 0)) (.ref q.1) = q.2 := (tup q (inL q hq)).ints
    have f2 : TS.intsOf (h'.push (seqObj "list" acc.toList.toArray 0)) (.ref r.1) = r.2 := (tup r (inL r hr)).ints
    rw [← f1, ← f2]
    exact hle
  have hn' : H h'.objs.size = none := I1.hok.fresh (Nat.le_refl _)
  have hlen : (L'.map fun q => V.ref q.1).length ≤ sizeLine := by rw [List.length_map, pL.length_eq, lL, sizeLine_eq]; omega
  have hv : Vals (L'.map fun q => V.ref q.1) out.toList := by rw [e5]; exact vals_of_refs L'
  refine wpAny_pure ⟨_, rfl, .ref h'.objs.size, upd H h'.objs.size (.lst (L'.map fun q => V.ref q.1)), I1.laid (t' := tk) (fun b u e => ?_) (Nat.le_refl _) ⟨hlen, out.toList, c, hv, hc'⟩, rfl, q L' _ (by rw [← e2]; exact pL.map _) pw (fun q hq => hL q (inL q hq)) hn'⟩
  have hlt := Heap.lt_size e
  show (sortedHeap (h'.push (seqObj "list" acc.toList.toArray 0)) h'.objs.size acc.toList out).get? b = some u
  rw [PyProof.Rows.sortedHeap_old (Nat.ne_of_lt hlt) (by rw [size_push']; exact Nat.lt_succ_of_lt hlt)]
  exact Heap.get?_push_of_some _ e
end
end K1
/-! _law_by_stamps -/
namespace K1
open PySem L2 PySem.Spec PyProof.Rows RZ
theorem val_in {kvs : List (List Key × V)} {k : List Key} {u : V} (nd : (kvs.map (·.1)).Nodup) (h : (k, u) ∈ kvs) : valV kvs k = some u := by
  unfold valV
  cases e : kvs.find? (fun q => decide (q.1 = k)) with
  | none =>
    have := List.find?_eq_none.mp e _ h
    simp at this
  | some q =>
    have h1 := List.mem_of_find?_eq_some e
    have h2 : q.1 = k := of_decide_eq_true (List.find?_some (p := fun q : List Key × V => decide (q.1 = k)) e)
    have : q = (k, u) := nodup_inj nd h1 h h2
    rw [this]
    rfl
theorem ordered {l m : List PyData} (h1 : UpD l) (h2 : UpD m) (h : ∀ x, x ∈ l ↔ x ∈ m) : l = m := rising_unique (fun d => TS.code 1000 (keyD d)) h1 h2 h
section
variable {P : Program} {w : World} {K : PySem.W.Frag} {mg : Str → Option Value} {base : Heap}
end
end K1
/-! _law_names -/
namespace K1
open PySem L2
def namedOf : PyData → List PyData
  | .tuple [_, _, .tuple (.str x :: r)] => namedD x r
  | _ => []
/-- a comprehension of the stamps among things -/
theorem lc_pairs {K : PySem.W.Frag} {q : Addr} {us : List V} {es : List PyData} {j : Nat} {σ : St} {H1 : Hp} {D : Addr} {Qd : Hp → Prop} (nD : H1 D = none) (hq : SqL K H1 q us) (he : DQs K H1 us es) (hp : ∀ e ∈ es, noneOrPair e) (few : es.length ≤ 2) (hw : ∀ x, wipe ((wipe σ [j]).set j (some x)) [j] = wipe σ [j])
    (hget : ∀ u, ((wipe σ [j]).set j (some u))[j]? = some (some u)) (hd : ∀ H' acc, Same H1 H' → H' D = some (.lst acc) → DQs K H' acc ((keysOf es).map pairD) → Qd H') :
    ∃ W : Nat → Nat → Hp → Prop, (∃ m, W 0 m (upd H1 D (.lst []))) ∧ ∀ i m H, W i m H →
      ((Itl K q).stop i H ∧ Qd H) ∨ ((Itl K q).go i H ∧ ∃ Nx : Hp → Prop, (∀ H', Nx H' → ∃ m', m' < m ∧ W (i + 1) m' H') ∧ ∀ x H', (Itl K q).yld i H x H' → (gName j) x (wipe σ [j]) H' fun σ2 H2 => wipe σ2 [j] = wipe σ [j] ∧ (tAnd (tTest (tOp rNotN (tVar j) (tC .non))) (tTest (tOp (rNeD K) (tVar j) (tTup (tCons (tC (.int 0)) (tCons (tC (.int 0)) tNil)))))) σ2 H2 fun b H3 =>
        if b = true then (tVar j) σ2 H3 fun y H4 => ∃ acc, H4 D = some (.lst acc) ∧ acc.length < sizeLine ∧ Nx (upd H4 D (.lst (acc ++ [y]))) else Nx H3) := by
  have L := he.len
  refine lc_list (K := K) (a := q) (xs := us) (fun i H' => Same H1 H' ∧ ∃ acc, H' D = some (.lst acc) ∧ acc.length ≤ i ∧ DQs K H1 acc ((keysOf (es.take i)).map pairD)) ⟨K0.same_upd nD, [], upd_same, Nat.le_refl _, .nil⟩
    (fun i H' _ ⟨s, _⟩ => s.seq hq) ?_ (fun H' ⟨s, acc, h1, _, h2⟩ => hd H' acc s h1 (by rw [L, List.take_length] at h2; exact h2.to s))
  rintro i u H' hu ⟨s, acc, hl, hn, hacc⟩
  refine ⟨hw u, ?_⟩
  obtain ⟨d, hd', hdq⟩ := he.at hu
  have hi := (List.getElem?_eq_some_iff.mp hu).1
  have tk : es.take (i + 1) = es.take i ++ [d] := by
    rw [List.take_succ, hd']
    rfl
  have no : keyOf d = none → keysOf (es.take (i + 1)) = keysOf (es.take i) := fun z => by
    rw [tk]
    unfold keysOf
    rw [List.filterMap_append, List.filterMap_cons_none z, List.filterMap_nil, List.append_nil]
  rcases hp d (List.mem_of_getElem? hd') with rfl | ⟨a, b, rfl, ha, hb⟩
  · cases hdq
    refine ⟨_, hget _, rfl, _, rfl, iteF (iteF ⟨s, acc, hl, Nat.le_succ_of_le hn, ?_⟩)⟩
    rw [no rfl]
    exact hacc
  · obtain ⟨r, rfl, hsqt⟩ := hdq.pair
    refine ⟨_, hget _, rfl, _, rfl, iteT ⟨_, hget _, (by show 2 ≤ sizeLine; rw [sizeLine_eq]; decide), fun t nt => ⟨.tuple [.int a, .int b], .tuple [.int 0, .int 0], .tup (K0.seqT_same (s.trans (K0.same_upd nt)) hsqt) (.cons (.int a) (.cons (.int b) .nil)), .tup (.inl (.inl upd_same)) (.cons (.int 0) (.cons (.int 0) .nil)), shaped_pair a b, shaped_pair 0 0, _, rfl, ?_⟩⟩⟩
    rw [eqv_root]
    have s2 := s.trans (K0.same_upd (o := .tup [.int 0, .int 0]) nt)
    have hl2 : upd H' t (.tup [.int 0, .int 0]) D = some (.lst acc) := (upd_ne (ne_of_none hl nt)).trans hl
    by_cases c : a = 0 ∧ b = 0
    · rw [decide_eq_true c]
      refine iteF ⟨s2, acc, hl2, Nat.le_succ_of_le hn, ?_⟩
      rw [no (by show (if a = 0 ∧ b = 0 then none else some [a, b]) = none; rw [if_pos c])]
      exact hacc
    · rw [decide_eq_false c]
      have hk : keyOf (.tuple [.int a, .int b]) = some [a, b] := by
        show (if a = 0 ∧ b = 0 then none else some [a, b]) = some [a, b]
        rw [if_neg c]
      refine iteT ⟨_, hget _, acc, hl2, by rw [sizeLine_eq]; omega, K0.same_over s2 nD, _, upd_same, by rw [List.length_append]; show acc.length + 1 ≤ i + 1; omega, ?_⟩
      rw [tk]
      unfold keysOf
      rw [List.filterMap_append, List.filterMap_cons_some hk, List.filterMap_nil, List.map_append]
      exact hacc.app (.cons (.tup hsqt (.cons (.int a) (.cons (.int b) .nil))) .nil)
def spLNames (K : PySem.W.Frag) : Sp := fun vs H Q _ => ∃ v d, vs = [v] ∧ DQ K H v d ∧ deedD d = true ∧
  ∀ (p : Addr) (us' : List V) (ks' : List (List Int)) (H' : Hp), Same H H' → H p = none → H' p = some (.lst us') → DQs K H' us' (ks'.map pairD) → (∀ k, k ∈ ks' ↔ k ∈ keysOf (namedOf d)) → ks'.length ≤ 2 → Q (.ref p) H'
theorem keys_bd {es : List PyData} (h : ∀ e ∈ es, noneOrPair e) : ∀ k ∈ keysOf es, ∃ x y : Int, k = [x, y] ∧ (0 ≤ x ∧ x < 1000) ∧ 0 ≤ y ∧ y < 1000 := fun k hk => by
  obtain ⟨d, hd1, hd2⟩ := List.mem_filterMap.mp hk
  obtain ⟨a, b, _, e, h1, h2, _⟩ := key_pair (h d hd1) hd2
  exact ⟨a, b, e, h1, h2⟩
section
variable {P : Program} {w : World} {K : PySem.W.Frag} {mg : Str → Option Value} {base : Heap}
end
end K1
/-! _law_closed -/
namespace K1
open PySem L2 PySem.Spec PyProof.Rows RZ
/-- the last time of its hand ahead of it -/
def IsAhead (ds : List PyData) (d : PyData) (m : Int) : Prop := (m = 0 ∨ ∃ e ∈ ds, handD e = handD d ∧ tmD e < tmD d ∧ tmD e = m) ∧ 0 ≤ m ∧ ∀ e ∈ ds, handD e = handD d → tmD e < tmD d → tmD e ≤ m
def spLClosed (K : PySem.W.Frag) : Sp := fun vs H Q _ => ∃ a kvs ds v d, vs = [.ref a, v] ∧ H a = some (.dT kvs) ∧ Tb K (hid a H) kvs ds ∧ (∀ e ∈ ds, deedD e = true) ∧ (ds.map keyD).Nodup ∧ ds.length ≤ 62 ∧ DQ K (hid a H) v d ∧ deedD d = true ∧
  ∀ m, IsAhead ds d m → ∀ H', Same H H' → Q (.bl (decide ((snD d).getD (handD d) 0 = m) && closedD ds (snD d))) H'
/-- the keys, by place -/
def YKey (kvs : List (List Key × V)) : Nat → Hp → V → Hp → Prop := fun i H x H' => H' = H ∧ ∃ (k : List Key) (v : V) (q : Addr), kvs[i]? = some (k, v) ∧ x = .ref q ∧ H q = some (.tup (k.map kV))
theorem walk_keysT {d : Addr} {o : Obj} {kvs : List (List Key × V)} : Walk (Itkt d o kvs) kvs.length (fun H => H d = some (.frz o (.dT kvs))) (YKey kvs) :=
  ⟨fun i _ hi q => ⟨q, hi⟩, fun _ q => ⟨q, Nat.le_refl _⟩, fun _ _ _ _ _ _ y => y⟩
theorem list9 {α : Type} {l : List α} (h : l.length = 9) : ∃ a b c d e f g i j, l = [a, b, c, d, e, f, g, i, j] := by
  match l, h with
  | [a, b, c, d, e, f, g, i, j], _ => exact ⟨a, b, c, d, e, f, g, i, j, rfl⟩
theorem ints_back (acc : List Int) : ((List.range (acc.map V.int).length).map fun n => V.int (acc.getD n 0)) = acc.map V.int := by
  refine List.ext_getElem (by rw [List.length_map, List.length_range]) fun i h1 h2 => ?_
  rw [List.getElem_map, List.getElem_range, List.getElem_map, List.getD_eq_getElem?_getD, List.getElem?_eq_getElem (by rw [List.length_map] at h2; exact h2)]
  rfl
theorem ahead_of {ds : List PyData} {d : PyData} {acc : List Int} {m : Int} (pos : ∀ e ∈ ds, deedD e = true) (h1 : ∀ x ∈ acc, ∃ e ∈ ds, handD e = handD d ∧ tmD e < tmD d ∧ tmD e = x) (h2 : ∀ e ∈ ds, handD e = handD d → tmD e < tmD d → tmD e ∈ acc)
    (hm : m ∈ 0 :: acc) (hle : ∀ y ∈ 0 :: acc, y ≤ m) : IsAhead ds d m := by
  refine ⟨?_, hle 0 List.mem_cons_self, fun e he c1 c2 => hle _ (List.mem_cons_of_mem _ (h2 e he c1 c2))⟩
  rcases List.mem_cons.mp hm with z | z
  · exact .inl z
  · exact .inr (h1 m z)
section
variable {P : Program} {w : World} {K : PySem.W.Frag} {mg : Str → Option Value} {base : Heap}
end
end K1
/-! deeds in any order, deeds by stamps -/
namespace K1
open PySem L2
theorem atD_perm {ds es : List PyData} (nd : (ds.map keyD).Nodup) (p : es.Perm ds) (k : List Int) : atD es k = atD ds k := by
  have nd2 : (es.map keyD).Nodup := ((p.map keyD).nodup_iff).mpr nd
  cases h : atD ds k with
  | some d =>
    obtain ⟨h1, h2⟩ := atD_mem h
    rw [← h2]
    exact at_of nd2 (p.mem_iff.mpr h1)
  | none =>
    cases h' : atD es k with
    | none => rfl
    | some d =>
      obtain ⟨h1, h2⟩ := atD_mem h'
      have := at_of nd (p.mem_iff.mp h1)
      rw [h2, h] at this
      cases this
theorem closed_perm {ds es : List PyData} (nd : (ds.map keyD).Nodup) (p : es.Perm ds) (l : List Int) : closedD es l = closedD ds l := by
  unfold closedD
  congr 1
  funext h
  unfold okAt
  rw [atD_perm nd p]
theorem nm_perm {ds es : List PyData} (nd : (ds.map keyD).Nodup) (p : es.Perm ds) (d : PyData) : nmOk es d = nmOk ds d := by
  unfold nmOk
  congr 1
  funext k
  unfold oneOk
  rw [atD_perm nd p]
/-- the greatest time of a hand, 0 without one -/
def IsTop (xs : List PyData) (h : Nat) (v : Int) : Prop := (v = 0 ∨ ∃ e ∈ xs, handD e = h ∧ tmD e = v) ∧ 0 ≤ v ∧ ∀ e ∈ xs, handD e = h → tmD e ≤ v
theorem IsTop.one {xs : List PyData} {h : Nat} {v w : Int} (a : IsTop xs h v) (b : IsTop xs h w) : v = w := by
  obtain ⟨a1, a2, a3⟩ := a
  obtain ⟨b1, b2, b3⟩ := b
  have h1 : v ≤ w := by
    rcases a1 with z | ⟨e, he, c, z⟩
    · omega
    · rw [← z]
      exact b3 e he c
  have h2 : w ≤ v := by
    rcases b1 with z | ⟨e, he, c, z⟩
    · omega
    · rw [← z]
      exact a3 e he c
  omega
theorem IsTop.perm {xs ys : List PyData} {h : Nat} {v : Int} (a : IsTop xs h v) (p : ∀ e, e ∈ ys ↔ e ∈ xs) : IsTop ys h v :=
  ⟨a.1.imp id fun ⟨e, he, z⟩ => ⟨e, (p e).mpr he, z⟩, a.2.1, fun e he => a.2.2 e ((p e).mp he)⟩
theorem lt_time {a b : PyData} (ra : deedD a = true) (rb : deedD b = true) (hh : handD a = handD b) (h : lt1000 (keyD a) (keyD b)) : tmD a < tmD b := by
  have z : TS.code 1000 (keyD a) < TS.code 1000 (keyD b) := h
  rw [key_of ra, key_of rb, code2, code2, hh] at z
  omega
theorem last_top {ds : List PyData} (u : UpD ds) (right : ∀ d ∈ ds, deedD d = true) {h : Nat} (hh : h < 4) : ∀ i, i ≤ ds.length → IsTop (ds.take i) h ((lastD (ds.take i) l0).getD h 0)
  | 0, _ => by
    refine ⟨.inl ?_, ?_, fun e he => absurd he List.not_mem_nil⟩
    · obtain rfl | rfl | rfl | rfl : h = 0 ∨ h = 1 ∨ h = 2 ∨ h = 3 := by omega
      all_goals rfl
    · obtain rfl | rfl | rfl | rfl : h = 0 ∨ h = 1 ∨ h = 2 ∨ h = 3 := by omega
      all_goals exact Int.le_refl 0
  | i + 1, hi => by
    obtain ⟨a1, a2, a3⟩ := last_top u right hh i (by omega)
    have hd : ds[i]? = some (ds[i]'(by omega)) := List.getElem?_eq_getElem (by omega)
    generalize ds[i]'(by omega) = d at hd
    have tk : ds.take (i + 1) = ds.take i ++ [d] := by
      rw [List.take_succ, hd]
      rfl
    have hm := List.mem_of_getElem? hd
    have rd := right d hm
    have ll : (lastD (ds.take i) l0).length = 4 := lastD_len _ _
    rw [tk, lastD_app, getD_seti (by omega)]
    by_cases c : handD d = h
    · rw [if_pos c]
      obtain ⟨t, j, x, r, hk, ht, hj, _⟩ := deed_pure rd
      have et := time_of hk
      refine ⟨.inr ⟨d, List.mem_append_right _ (List.mem_singleton.mpr rfl), c, rfl⟩, by omega, fun e he ce => ?_⟩
      rcases List.mem_append.mp he with z | z
      · obtain ⟨j, hj⟩ := List.getElem?_of_mem z
        have hji : j < i := by
          have := (List.getElem?_eq_some_iff.mp hj).1
          rw [List.length_take] at this
          omega
        rw [List.getElem?_take_of_lt hji] at hj
        obtain ⟨l1, g1⟩ := List.getElem?_eq_some_iff.mp hj
        obtain ⟨l2, g2⟩ := List.getElem?_eq_some_iff.mp hd
        have y := List.pairwise_iff_getElem.mp u j i l1 l2 hji
        rw [g1, g2] at y
        exact Int.le_of_lt (lt_time (right e (List.mem_of_getElem? hj)) rd (ce.trans c.symm) y)
      · rw [List.mem_singleton.mp z]
        exact Int.le_refl _
    · rw [if_neg c]
      refine ⟨a1.imp id fun ⟨e, he, z⟩ => ⟨e, List.mem_append_left _ he, z⟩, a2, fun e he ce => ?_⟩
      rcases List.mem_append.mp he with z | z
      · exact a3 e z ce
      · rw [List.mem_singleton.mp z] at ce
        exact absurd ce c
theorem top_all {ds : List PyData} (u : UpD ds) (right : ∀ d ∈ ds, deedD d = true) {h : Nat} (hh : h < 4) : IsTop ds h ((lastD ds l0).getD h 0) := by
  have z := last_top u right hh ds.length (Nat.le_refl _)
  rw [List.take_length] at z
  exact z
/-- what is ahead of a deed, by stamps, is what came ahead of it -/
theorem ahead_last {ds es : List PyData} {i : Nat} {d : PyData} {m : Int} (u : UpD es) (right : ∀ d ∈ ds, deedD d = true) (p : es.Perm ds) (hd : es[i]? = some d) (h : IsAhead ds d m) : (lastD (es.take i) l0).getD (handD d) 0 = m := by
  have right' : ∀ e ∈ es, deedD e = true := fun e he => right e (p.mem_iff.mp he)
  have rd := right' d (List.mem_of_getElem? hd)
  have hi := (List.getElem?_eq_some_iff.mp hd).1
  have top : IsTop (es.take i) (handD d) m := by
    refine ⟨?_, h.2.1, fun e he c => ?_⟩
    · rcases h.1 with z | ⟨e, he, c1, c2, c3⟩
      · exact .inl z
      · refine .inr ⟨e, ?_, c1, c3⟩
        obtain ⟨j, hj⟩ := List.getElem?_of_mem (p.mem_iff.mpr he)
        obtain ⟨l1, g1⟩ := List.getElem?_eq_some_iff.mp hj
        obtain ⟨l2, g2⟩ := List.getElem?_eq_some_iff.mp hd
        have re := right e he
        rcases Nat.lt_trichotomy j i with lt | eq | gt
        · exact List.mem_of_getElem? (i := j) (by rw [List.getElem?_take_of_lt lt]; exact hj)
        · subst eq
          rw [hj] at hd
          cases hd
          omega
        · have y := List.pairwise_iff_getElem.mp u i j l2 l1 gt
          rw [g1, g2] at y
          have := lt_time rd re c1.symm y
          omega
    · obtain ⟨j, hj⟩ := List.getElem?_of_mem he
      have hji : j < i := by
        have := (List.getElem?_eq_some_iff.mp hj).1
        rw [List.length_take] at this
        omega
      rw [List.getElem?_take_of_lt hji] at hj
      obtain ⟨l1, g1⟩ := List.getElem?_eq_some_iff.mp hj
      obtain ⟨l2, g2⟩ := List.getElem?_eq_some_iff.mp hd
      have y := List.pairwise_iff_getElem.mp u j i l1 l2 hji
      rw [g1, g2] at y
      have re := right' e (List.mem_of_getElem? hj)
      exact h.2.2 e (p.mem_iff.mp (List.mem_of_getElem? hj)) c (lt_time re rd c y)
  exact IsTop.one (last_top u right' (hand_lt rd) i (Nat.le_of_lt hi)) top
theorem nodup_up {ds : List PyData} (u : UpD ds) : (ds.map keyD).Nodup := by
  rw [List.nodup_iff_pairwise_ne, List.pairwise_map]
  exact u.imp fun {a b} h e => by
    have z : TS.code 1000 (keyD a) < TS.code 1000 (keyD b) := h
    rw [e] at z
    exact Int.lt_irrefl _ z
/-- a drawn world is a right book -/
theorem ok_right {ds es : List PyData} {rs : List (List Int)} (ok : Ok ds rs) (u : UpD es) (p : es.Perm ds) : errC es es l0 = none := by
  have right' : ∀ e ∈ es, deedD e = true := fun e he => ok.right e (p.mem_iff.mp he)
  have go : ∀ n i, i + n = es.length → errC es (es.drop i) (lastD (es.take i) l0) = none := by
    intro n
    induction n with
    | zero =>
      intro i hi
      rw [List.drop_eq_nil_of_le (by omega)]
      rfl
    | succ n ih =>
      intro i hi
      have hd : es[i]? = some (es[i]'(by omega)) := List.getElem?_eq_getElem (by omega)
      generalize es[i]'(by omega) = d at hd
      have hm := p.mem_iff.mp (List.mem_of_getElem? hd)
      have rd := ok.right d hm
      have edrop : es.drop i = d :: es.drop (i + 1) := by
        have hl := List.getElem?_eq_some_iff.mp hd
        rw [List.drop_eq_getElem_cons hl.1, hl.2]
      have etake : es.take (i + 1) = es.take i ++ [d] := by
        rw [List.take_succ, hd]
        rfl
      have hl4 := hand_lt rd
      -- its own entry
      have ia : IsAhead ds d ((snD d).getD (handD d) 0) := by
        refine ⟨?_, (sn_bd rd _ hl4).1, fun e he c1 c2 => ok.own d hm e he c1 c2⟩
        rcases ok.cls d hm (handD d) hl4 with z | ⟨e, he, hk, _⟩
        · exact .inl z
        · have re := ok.right e he
          rw [key_of re] at hk
          have e1 : tmD e = (snD d).getD (handD d) 0 := (List.cons.inj hk).1
          have e2 : (handD e : Int) = handD d := (List.cons.inj (List.cons.inj hk).2).1
          have := (sn_bd rd _ hl4).2
          exact .inr ⟨e, he, by omega, by omega, e1⟩
      have own : ownOk es (lastD (es.take i) l0) d = true := by
        unfold ownOk
        rw [ahead_last u ok.right p hd ia, decide_eq_true rfl, Bool.true_and, closed_perm ok.nd p]
        exact (closed_iff ok.nd ok.right).mpr (ok.cls d hm)
      have nms : nmOk es d = true := by
        rw [nm_perm ok.nd p]
        unfold nmOk
        rw [List.all_eq_true]
        intro k hk
        obtain ⟨e, he, ek, hle⟩ := ok.nms d hm k hk
        have re := ok.right e he
        unfold oneOk
        rw [← ek, at_of ok.nd he, key_of re]
        show (true && decide (tmD e ≤ (snD d).getD ((handD e : Int)).toNat 0)) = true
        rw [Int.toNat_natCast, decide_eq_true hle]
        rfl
      rw [edrop]
      show (if ownOk es (lastD (es.take i) l0) d = true then if nmOk es d = true then errC es (es.drop (i + 1)) ((lastD (es.take i) l0).set (handD d) (tmD d)) else _ else _) = none
      rw [if_pos own, if_pos nms, ← lastD_app, ← etake]
      exact ih (i + 1) (by omega)
  exact go es.length 0 (Nat.zero_add _)
theorem bad_ok : ∀ {ds : List PyData} {seen : List (List Int)} {i : Nat}, (∀ d ∈ ds, deedD d = true) → (ds.map keyD).Nodup → (∀ d ∈ ds, keyD d ∉ seen) → badFrom seen ds i = none
  | [], _, _, _, _, _ => rfl
  | d :: ds, seen, i, r, nd, h => by
    rw [List.map_cons, List.nodup_cons] at nd
    unfold badFrom
    rw [if_pos ⟨r d List.mem_cons_self, h d List.mem_cons_self⟩]
    refine bad_ok (fun e he => r e (List.mem_cons_of_mem _ he)) nd.2 fun e he hm => ?_
    rcases List.mem_cons.mp hm with z | z
    · exact nd.1 (List.mem_map.mpr ⟨e, he, z⟩)
    · exact h e (List.mem_cons_of_mem _ he) z
end K1
/-! _law_turned -/
namespace K1
open PySem L2 PySem.Spec PyProof.Rows
theorem perm_erase {α : Type} : ∀ (l : List α) (k : Nat) (h : k < l.length), (l[k] :: l.eraseIdx k).Perm l
  | [], k, h => absurd h (Nat.not_lt_zero _)
  | a :: l, 0, h => .refl _
  | a :: l, k + 1, h => (List.Perm.swap a _ _).trans ((perm_erase l k (Nat.lt_of_succ_lt_succ h)).cons a)
def spTurned (K : PySem.W.Frag) : Sp := fun vs H Q _ => ∃ p a us, vs = [.ref p, .ref a] ∧ Src H p ∧ SqL K (hid p H) a us ∧ us.length ≤ 100 ∧ ∀ H' q us', Bt p H H' → us'.Perm us → H q = none → q ≠ p → H' q = some (.lst us') → Q (.ref q) H'
section
variable {P : Program} {w : World} {K : PySem.W.Frag} {mg : Str → Option Value} {base : Heap}
theorem sc_turned : FnScope ["_law_source", "_law_things", "_law_left", "_law_found"] ["_law_source", "_law_things"] (defScope (top 63)) := ⟨rfl, rfl, rfl, by decide +kernel, rfl, by decide +kernel, by decide +kernel⟩
theorem cl_turned (T : All K mg) (M : Nms mg) (M2 : Nms2 mg) : Cl P w K mg base 2 "_law_turned" ["_law_source", "_law_things"] (spTurned K) := by
  obtain ⟨g, fd, D⟩ := T.dn 63 _ _ rfl
  refine D.cl (D.fn.ok sc_turned (fun vs H Q E h => ?_) (fun cdv A outer s H vs Q E hr h => ?_))
  · obtain ⟨p, a, us, rfl, _⟩ := h
    rfl
  · obtain ⟨p, a, us, rfl, src, ha, few, k⟩ := h
    refine ⟨_, (pss_cons (ps_par (i := 2) (j := 3) rfl sc_turned.nd rfl rfl (by decide) rfl rfl (pa_cons (pe_callTy call_list_of (by rfl) M2.list (by decide +kernel) (pa_cons (pv 1) pa_nil)) (pa_cons (pe_lst pa_nil) pa_nil)) (by rfl))
      (pss_cons (ps_while PassesOwn.never (pt_cmpR (op_neE hr.units) (pv 2) (pe_lst pa_nil) (nomark _)) (pss_one (ps_expr (pe_bm PySem.F.plainAttrs_list PySem.F.slot_list_append PySem.F.type_list_append mt_append (pv 3) (pa_cons (pe_bm PySem.F.plainAttrs_list PySem.F.slot_list_pop PySem.F.type_list_pop mt_popAt (pv 2) (pa_cons (pe_cl (cl_takeB T M) hr (by decide) (pa_cons (pv 0) (pa_cons (pe_callB call_len_seq (by rfl) T.bi.len PySem.boot_len (pa_cons (pv 2) pa_nil)) pa_nil))) pa_nil)) pa_nil)))))
      (pss_one (ps_ret (pv 3))))), ?_⟩
    have b0 := Bt.refl src
    refine ⟨_, rfl, a, us, rfl, .inl ((hid_same p H).seq ha), fun l nl => ⟨Nat.zero_le _, fun f nf => ⟨_, _, rfl, ?_⟩⟩⟩
    have b1 := b0.new (o := .lst us) nl
    have e1 := @upd_same H l (.lst us)
    have ne1 := b0.ne nl
    generalize upd H l (.lst us) = H1 at b1 e1 nf ⊢
    have b2 := b1.new (o := .lst []) nf
    have e2 := @upd_same H1 f (.lst [])
    have ne2 := b1.ne nf
    have nlf : l ≠ f := ne_of_none e1 nf
    have e12 : upd H1 f (.lst []) l = some (.lst us) := (upd_ne nlf).trans e1
    have nf0 : H f = none := by
      cases e : H f with
      | none => rfl
      | some u =>
        rw [b1.at ne2 e] at nf
        cases nf
    generalize upd H1 f (.lst []) = H2 at b2 e2 e12 ⊢
    refine ⟨fun m σ J => σ = [some (V.ref p), some (.ref a), some (.ref l), some (.ref f)] ∧ Bt p H J ∧ ∃ ls fs, J l = some (.lst ls) ∧ J f = some (.lst fs) ∧ ls.length = m ∧ (fs ++ ls).Perm us, ⟨us.length, rfl, b2, us, [], e12, e2, rfl, .refl _⟩, ?_⟩
    rintro m σ J ⟨rfl, b, ls, fs, hl, hf, hm, hp⟩
    have lp := hp.length_eq
    rw [List.length_append] at lp
    refine ⟨_, rfl, Nat.zero_le _, fun q nq => ⟨l, q, ls, rfl, rfl, SqL.of ((upd_ne (ne_of_none hl nq)).trans hl), SqL.of upd_same, _, rfl, ?_⟩⟩
    have b3 := b.new (o := .lst []) nq
    have hl3 : upd J q (.lst []) l = some (.lst ls) := (upd_ne (ne_of_none hl nq)).trans hl
    have hf3 : upd J q (.lst []) f = some (.lst fs) := (upd_ne (ne_of_none hf nq)).trans hf
    generalize upd J q (.lst []) = J3 at b3 hl3 hf3 ⊢
    cases ls with
    | nil =>
      refine iteF ⟨_, rfl, k J3 f fs b3 (by rw [List.append_nil] at hp; exact hp) nf0 ne2 hf3⟩
    | cons y0 ls =>
      refine iteT ⟨fun σ' J' => σ' = [some (V.ref p), some (.ref a), some (.ref l), some (.ref f)] ∧ Bt p H J' ∧ ∃ ls' fs', J' l = some (.lst ls') ∧ J' f = some (.lst fs') ∧ ls'.length = m - 1 ∧ (fs' ++ ls').Perm us, fun σ' J' w => ⟨m - 1, by rw [List.length_cons] at hm; omega, w⟩, ?_⟩
      refine ⟨_, rfl, .inl ⟨rfl, _, SqL.of hf3⟩, _, rfl, .inl ⟨rfl, _, SqL.of hl3⟩, _, rfl, _, rfl, l, _, rfl, .inl (SqL.of hl3), p, _, rfl, b3.src, by rw [List.length_cons]; omega, by rw [List.length_cons] at lp ⊢; omega, fun r J4 r0 r1 b4 => ?_⟩
      obtain ⟨kk, rfl⟩ : ∃ n : Nat, r = (n : Int) := ⟨r.toNat, by omega⟩
      have hkk : kk < (y0 :: ls).length := by omega
      have hl4 := b4.at ne1 hl3
      have hf4 := b4.at ne2 hf3
      have hget : (y0 :: ls)[kk]? = some ((y0 :: ls)[kk]'hkk) := List.getElem?_eq_getElem hkk
      have hperm : ((y0 :: ls)[kk]'hkk :: (y0 :: ls).eraseIdx kk).Perm (y0 :: ls) := perm_erase _ _ hkk
      have hlen : ((y0 :: ls).eraseIdx kk).length = (y0 :: ls).length - 1 := List.length_eraseIdx_of_lt hkk
      generalize (y0 :: ls)[kk]'hkk = y at hget hperm
      refine ⟨l, _, _, kk, y, rfl, rfl, hl4, by omega, by rw [List.length_cons] at lp hkk; omega, seqIndex_of (by omega) (by omega), hget, f, fs, y, rfl, rfl, (upd_ne (Ne.symm nlf)).trans hf4, by rw [sizeLine_eq]; omega, rfl, ((b3.trans b4).over nl ne1).over nf0 ne2, _, _, (upd_ne nlf).trans upd_same, upd_same, by rw [hlen, hm], ?_⟩
      rw [List.append_assoc]
      exact (List.Perm.append_left fs hperm).trans hp
end
end K1
set_option maxHeartbeats 4000000
/-! a lot of deeds is a right book: deeds behind it, its beginning -/
namespace K1
open PySem L2
structure OkD (ds : List PyData) : Prop where
  nd : (ds.map keyD).Nodup
  right : ∀ d ∈ ds, deedD d = true
  cls : ∀ d ∈ ds, Cls4 ds (snD d)
  own : ∀ d ∈ ds, ∀ e ∈ ds, handD e = handD d → tmD e < tmD d → tmD e ≤ (snD d).getD (handD d) 0
  nms : ∀ d ∈ ds, ∀ k ∈ namesD d, ∃ e ∈ ds, keyD e = k ∧ tmD e ≤ (snD d).getD (handD e) 0
theorem Ok.okD {ds : List PyData} {rs : List (List Int)} (h : Ok ds rs) : OkD ds := ⟨h.nd, h.right, h.cls, h.own, h.nms⟩
theorem OkD.perm {ds es : List PyData} (h : OkD ds) (p : es.Perm ds) : OkD es where
  nd := ((p.map keyD).nodup_iff).mpr h.nd
  right := fun d hd => h.right d (p.mem_iff.mp hd)
  cls := fun d hd => (h.cls d (p.mem_iff.mp hd)).mono fun e he => p.mem_iff.mpr he
  own := fun d hd e he => h.own d (p.mem_iff.mp hd) e (p.mem_iff.mp he)
  nms := fun d hd k hk => by
    obtain ⟨e, he, z⟩ := h.nms d (p.mem_iff.mp hd) k hk
    exact ⟨e, p.mem_iff.mpr he, z⟩
/-- the last times of all are closed -/
theorem cls_last {ds : List PyData} (h : OkD ds) (u : UpD ds) : Cls4 ds (lastD ds l0) := fun n hn => by
  obtain ⟨a1, a2, a3⟩ := top_all u h.right hn
  refine a1.imp id fun ⟨e, he, c, z⟩ => ⟨e, he, by rw [key_of (h.right e he), c, z], fun i hi => ?_⟩
  rcases h.cls e he i hi with y | ⟨x, hx, hk, _⟩
  · rw [y]
    exact (top_all u h.right hi).2.1
  · have rx := h.right x hx
    rw [key_of rx] at hk
    have e1 : tmD x = (snD e).getD i 0 := (List.cons.inj hk).1
    have e2 : (handD x : Int) = i := (List.cons.inj (List.cons.inj hk).2).1
    rw [← e1]
    exact (top_all u h.right hi).2.2 x hx (by omega)
theorem rep4 {r : List Int} {i : Nat} (hi : i < 4) : (List.replicate 4 r).getD i [] = r := by
  rw [List.getD_eq_getElem?_getD, List.getElem?_replicate, if_pos hi]
  rfl
theorem OkD.ok {ds : List PyData} (h : OkD ds) (u : UpD ds) : Ok ds (List.replicate 4 (lastD ds l0)) where
  nd := h.nd
  right := h.right
  cls := h.cls
  own := h.own
  nms := h.nms
  rows := fun r hr => by
    rw [List.eq_of_mem_replicate hr]
    exact cls_last h u
  top := fun e he => by
    have hh := hand_lt (h.right e he)
    rw [rep4 hh]
    exact (top_all u h.right hh).2.2 e he rfl
theorem OkD.good {ds : List PyData} (h : OkD ds) (u : UpD ds) : errC ds ds l0 = none := ok_right (h.ok u) u (List.Perm.refl _)
/-- the deed that a hand that has seen all does -/
def mkD (t : Int) (j : Nat) (l : List Int) (b : PyData) : PyData := .tuple [.tuple [.int t, .int (j : Int)], .tuple (l.map PyData.int), b]
def newD : Int → Nat → List Int → List PyData → List PyData
  | _, _, _, [] => []
  | t, j, l, b :: bs => mkD t j l b :: newD (t + 1) j (l.set j t) bs
theorem newD_len : ∀ (bs : List PyData) (t : Int) (j : Nat) (l : List Int), (newD t j l bs).length = bs.length
  | [], _, _, _ => rfl
  | b :: bs, t, j, l => congrArg (· + 1) (newD_len bs (t + 1) j (l.set j t))
theorem newD_app : ∀ (bs : List PyData) (t : Int) (j : Nat) (l : List Int) (b : PyData), newD t j l (bs ++ [b]) = newD t j l bs ++ newD (t + (bs.length : Int)) j ((List.range bs.length).foldl (fun (l : List Int) (n : Nat) => l.set j (t + (n : Int))) l) [b]
  | [], t, j, l, b => by
    show [mkD t j l b] = [mkD (t + 0) j l b]
    rw [Int.add_zero]
  | a :: bs, t, j, l, b => by
    show mkD t j l a :: newD (t + 1) j (l.set j t) (bs ++ [b]) = mkD t j l a :: _
    rw [newD_app bs (t + 1) j (l.set j t) b]
    refine congrArg (mkD t j l a :: ·) (congrArg (newD (t + 1) j (l.set j t) bs ++ ·) ?_)
    have e1 : t + 1 + (bs.length : Int) = t + ((a :: bs).length : Int) := by rw [List.length_cons]; omega
    rw [e1]
    congr 1
    show _ = (List.range (bs.length + 1)).foldl (fun (l : List Int) (n : Nat) => l.set j (t + (n : Int))) l
    rw [List.range_succ_eq_map, List.foldl_cons, List.foldl_map]
    have e0 : t + ((0 : Nat) : Int) = t := Int.add_zero t
    rw [e0]
    congr 1
    funext l n
    have : t + 1 + (n : Int) = t + ((n + 1 : Nat) : Int) := by omega
    rw [this]
theorem mkD_key (t : Int) (j : Nat) (l : List Int) (b : PyData) : keyD (mkD t j l b) = [t, (j : Int)] := rfl
theorem mkD_tm (t : Int) (j : Nat) (l : List Int) (b : PyData) : tmD (mkD t j l b) = t := rfl
theorem mkD_hand (t : Int) (j : Nat) (l : List Int) (b : PyData) : handD (mkD t j l b) = j := rfl
theorem map_int (l : List Int) : (l.map PyData.int).map intD = l := by
  rw [List.map_map]
  exact (List.map_congr_left fun x _ => rfl).trans (List.map_id l)
theorem mkD_sn (t : Int) (j : Nat) (l : List Int) (b : PyData) : snD (mkD t j l b) = l := map_int l
theorem mkD_deed {t : Int} {j : Nat} {l : List Int} {b : PyData} (ht : 1 ≤ t ∧ t ≤ 999) (hj : j < 4) (hl : l.length = 4) (hb : ∀ e ∈ l, 0 ≤ e ∧ e ≤ t - 1) (hB : bodyD b = true) : deedD (mkD t j l b) = true := by
  show (stampD (.tuple [.int t, .int (j : Int)]) && (seenD t (.tuple (l.map PyData.int)) && bodyD b)) = true
  have h1 : stampD (.tuple [.int t, .int (j : Int)]) = true := by
    show ((decide (1 ≤ t) && decide (t ≤ 999)) && (decide (0 ≤ (j : Int)) && decide ((j : Int) ≤ 3))) = true
    rw [decide_eq_true ht.1, decide_eq_true ht.2, decide_eq_true (by omega : 0 ≤ (j : Int)), decide_eq_true (by omega : (j : Int) ≤ 3)]
    rfl
  have h2 : seenD t (.tuple (l.map PyData.int)) = true := by
    show (decide ((l.map PyData.int).length = 4) && (l.map PyData.int).all (fromD 0 (t - 1))) = true
    rw [List.length_map, decide_eq_true hl, Bool.true_and, List.all_eq_true]
    intro e he
    obtain ⟨i, hi, rfl⟩ := List.mem_map.mp he
    show (decide (0 ≤ i) && decide (i ≤ t - 1)) = true
    rw [decide_eq_true (hb i hi).1, decide_eq_true (hb i hi).2]
    rfl
  rw [h1, h2, hB]
  rfl
/-- a body that names of these alone -/
def InB (ds : List PyData) (b : PyData) : Prop := ∃ x r, b = .tuple (.str x :: r) ∧ bodyR x r = true ∧ ∀ k ∈ keysOf (namedD x r), ∃ e ∈ ds, keyD e = k
theorem InB.body {ds : List PyData} {b : PyData} (h : InB ds b) : bodyD b = true := by
  obtain ⟨x, r, rfl, h1, _⟩ := h
  exact h1
theorem InB.mono {ds es : List PyData} {b : PyData} (h : InB ds b) (s : ∀ e ∈ ds, e ∈ es) : InB es b := by
  obtain ⟨x, r, e, h1, h2⟩ := h
  exact ⟨x, r, e, h1, fun k hk => by
    obtain ⟨e, he, z⟩ := h2 k hk
    exact ⟨e, s e he, z⟩⟩
theorem last4 (ds : List PyData) : (lastD ds l0).length = 4 := lastD_len _ _
theorem last_bd {ds : List PyData} {t : Int} (h : OkD ds) (u : UpD ds) (ht : ∀ e ∈ ds, tmD e < t) (t1 : 1 ≤ t) : ∀ e ∈ lastD ds l0, 0 ≤ e ∧ e ≤ t - 1 := fun e he => by
  obtain ⟨n, hn⟩ := List.getElem?_of_mem he
  have hl := (List.getElem?_eq_some_iff.mp hn).1
  rw [last4] at hl
  have eg : (lastD ds l0).getD n 0 = e := by
    rw [List.getD_eq_getElem?_getD, hn]
    rfl
  obtain ⟨a1, a2, a3⟩ := top_all u h.right hl
  rw [eg] at a1 a2
  refine ⟨a2, ?_⟩
  rcases a1 with z | ⟨x, hx, _, z⟩
  · omega
  · have := ht x hx
    omega
theorem up_app {ds : List PyData} {d : PyData} (right : ∀ e ∈ ds, deedD e = true) (r : deedD d = true) (u : UpD ds) (ht : ∀ e ∈ ds, tmD e < tmD d) : UpD (ds ++ [d]) := by
  refine List.pairwise_append.mpr ⟨u, List.pairwise_singleton _ _, fun a ha b hb => ?_⟩
  rw [List.mem_singleton.mp hb]
  show TS.code 1000 (keyD a) < TS.code 1000 (keyD d)
  have ra := right a ha
  rw [key_of ra, key_of r, code2, code2]
  have := ht a ha
  have := hand_lt ra
  omega
/-- one deed more, by a hand that has seen all -/
theorem OkD.app {ds : List PyData} {t : Int} {j : Nat} {b : PyData} (h : OkD ds) (u : UpD ds) (ht : ∀ e ∈ ds, tmD e < t) (t1 : 1 ≤ t) (t9 : t ≤ 999) (hj : j < 4) (hb : InB ds b) :
    OkD (ds ++ [mkD t j (lastD ds l0) b]) ∧ UpD (ds ++ [mkD t j (lastD ds l0) b]) ∧ lastD (ds ++ [mkD t j (lastD ds l0) b]) l0 = (lastD ds l0).set j t := by
  have r : deedD (mkD t j (lastD ds l0) b) = true := mkD_deed ⟨t1, t9⟩ hj (last4 _) (last_bd h u ht t1) hb.body
  have row : (List.replicate 4 (lastD ds l0)).getD j [] = lastD ds l0 := rep4 hj
  refine ⟨?_, up_app h.right r u ht, lastD_app _ _ _⟩
  refine (Ok.done (h.ok u) (List.length_replicate ..) r (mkD_hand t j (lastD ds l0) b) ?_ ?_ ?_).okD
  · rw [row]
    exact mkD_sn _ _ _ _
  · intro n hn
    rw [row]
    have := (last_bd h u ht t1 _ (getD_mem (by rw [last4]; exact hn))).2
    show _ < t
    omega
  · obtain ⟨x, r', rfl, h1, h2⟩ := hb
    intro k hk
    obtain ⟨e, he, ek⟩ := h2 k hk
    refine ⟨e, he, ek, ?_⟩
    rw [row]
    exact (top_all u h.right (hand_lt (h.right e he))).2.2 e he rfl
/-- bodies, each naming what is there by then -/
def InBs : List PyData → Int → Nat → List Int → List PyData → Prop
  | _, _, _, _, [] => True
  | ds, t, j, l, b :: bs => InB ds b ∧ InBs (ds ++ [mkD t j l b]) (t + 1) j (l.set j t) bs
theorem OkD.apps : ∀ {bs ds : List PyData} {t : Int} {j : Nat}, OkD ds → UpD ds → (∀ e ∈ ds, tmD e < t) → 1 ≤ t → t + (bs.length : Int) ≤ 1000 → j < 4 → InBs ds t j (lastD ds l0) bs →
    OkD (ds ++ newD t j (lastD ds l0) bs) ∧ UpD (ds ++ newD t j (lastD ds l0) bs)
  | [], ds, t, j, h, u, _, _, _, _, _ => by
    show OkD (ds ++ []) ∧ UpD (ds ++ [])
    rw [List.append_nil]
    exact ⟨h, u⟩
  | b :: bs, ds, t, j, h, u, ht, t1, t9, hj, hb => by
    rw [List.length_cons] at t9
    obtain ⟨h', u', e⟩ := h.app (b := b) u ht t1 (by omega) hj hb.1
    have z := OkD.apps (bs := bs) (ds := ds ++ [mkD t j (lastD ds l0) b]) (t := t + 1) h' u' (fun x hx => by
      rcases List.mem_append.mp hx with y | y
      · have := ht x y
        omega
      · rw [List.mem_singleton.mp y]
        show t < t + 1
        omega) (by omega) (by omega) hj (by rw [e]; exact hb.2)
    rw [e, List.append_assoc] at z
    exact z
/-- the beginning of a book by stamps -/
theorem take_has {es : List PyData} {n : Nat} {d e : PyData} (u : UpD es) (right : ∀ d ∈ es, deedD d = true) (hd : d ∈ es.take n) (he : e ∈ es) (lt : tmD e < tmD d) : e ∈ es.take n := by
  obtain ⟨i, hi⟩ := List.getElem?_of_mem hd
  have hin : i < n := by
    have := (List.getElem?_eq_some_iff.mp hi).1
    rw [List.length_take] at this
    omega
  rw [List.getElem?_take_of_lt hin] at hi
  obtain ⟨k, hk⟩ := List.getElem?_of_mem he
  obtain ⟨l1, g1⟩ := List.getElem?_eq_some_iff.mp hi
  obtain ⟨l2, g2⟩ := List.getElem?_eq_some_iff.mp hk
  by_cases c : k < n
  · exact List.mem_of_getElem? (i := k) (by rw [List.getElem?_take_of_lt c]; exact hk)
  · have y := List.pairwise_iff_getElem.mp u i k l1 l2 (by omega)
    rw [g1, g2] at y
    have y' : TS.code 1000 (keyD d) < TS.code 1000 (keyD e) := y
    have rd := right d (List.mem_of_getElem? hi)
    have re := right e he
    rw [key_of rd, key_of re, code2, code2] at y'
    have := hand_lt rd
    have := hand_lt re
    omega
theorem OkD.take {es : List PyData} (h : OkD es) (u : UpD es) (n : Nat) : OkD (es.take n) where
  nd := by
    rw [List.map_take]
    exact h.nd.sublist (List.take_sublist _ _)
  right := fun d hd => h.right d (List.mem_of_mem_take hd)
  cls := fun d hd i hi => by
    have rd := h.right d (List.mem_of_mem_take hd)
    refine (h.cls d (List.mem_of_mem_take hd) i hi).imp id fun ⟨e, he, hk, z⟩ => ⟨e, ?_, hk, z⟩
    refine take_has u h.right hd he ?_
    rw [key_of (h.right e he)] at hk
    have e1 : tmD e = (snD d).getD i 0 := (List.cons.inj hk).1
    have := (sn_bd rd i hi).2
    omega
  own := fun d hd e he => h.own d (List.mem_of_mem_take hd) e (List.mem_of_mem_take he)
  nms := fun d hd k hk => by
    have rd := h.right d (List.mem_of_mem_take hd)
    obtain ⟨e, he, ek, z⟩ := h.nms d (List.mem_of_mem_take hd) k hk
    refine ⟨e, take_has u h.right hd he ?_, ek, z⟩
    have := (sn_bd rd _ (hand_lt (h.right e he))).2
    omega
theorem up_take {es : List PyData} (u : UpD es) (n : Nat) : UpD (es.take n) := u.sublist (List.take_sublist _ _)
end K1
set_option maxHeartbeats 4000000
/-! _law_due -/
namespace K1
open PySem L2 PySem.Spec PyProof.Rows RZ
/-- two texts -/
def twoS (x y : Str) : PyData := .list [.str x, .str y]
/-- the refusal that is due: ds the deeds, es the same by stamps -/
def dueD (ds es : List PyData) : PyData := match badAt ds with
  | some i => twoS "book" (PyData.int i).shown
  | none => if 60 < ds.length then twoS "many" "60" else match errC es es l0 with
    | some (true, e) => twoS "closed" (stOf e).shown
    | some (false, e) => twoS "unseen" (stOf e).shown
    | none => .none
theorem due_book {ds es : List PyData} {i : Nat} (h : badAt ds = some i) : dueD ds es = twoS "book" (PyData.int i).shown := by
  unfold dueD
  simp only [h]
theorem due_many {ds es : List PyData} (h : badAt ds = none) (l : 60 < ds.length) : dueD ds es = twoS "many" "60" := by
  unfold dueD
  simp only [h]
  rw [if_pos l]
theorem due_err {ds es : List PyData} {b : Bool} {e : PyData} (h : badAt ds = none) (l : ¬ 60 < ds.length) (r : errC es es l0 = some (b, e)) : dueD ds es = twoS (if b = true then "closed" else "unseen") (stOf e).shown := by
  unfold dueD
  simp only [h]
  rw [if_neg l, r]
  cases b <;> rfl
theorem due_none {ds es : List PyData} (h : badAt ds = none) (l : ¬ 60 < ds.length) (r : errC es es l0 = none) : dueD ds es = .none := by
  unfold dueD
  simp only [h]
  rw [if_neg l, r]
theorem st_stamp {d : PyData} (h : deedD d = true) : stampD (stOf d) = true := by
  obtain ⟨t, j, x, r, hk, ht, hj, _⟩ := deed_pure h
  unfold stOf
  rw [hk]
  show ((decide (1 ≤ t) && decide (t ≤ 999)) && (decide (0 ≤ j) && decide (j ≤ 3))) = true
  rw [decide_eq_true ht.1, decide_eq_true ht.2, decide_eq_true hj.1, decide_eq_true hj.2]
  rfl
theorem shows_st {K : PySem.W.Frag} {H : Hp} {v : V} {d : PyData} (h : DQ K H v (stOf d)) (r : deedD d = true) : Shows K H v (stOf d) :=
  shows_of h (nice_thing (stamp_thing (st_stamp r))) (by decide) (by decide) fun _ => (pure_thing (stamp_thing (st_stamp r))).2
theorem shows_int {K : PySem.W.Frag} {H : Hp} {i : Int} (h : i.natAbs < 10000) : Shows K H (.int i) (.int i) := shows_of (.int i) (nice_int h) (by decide) (by decide) fun _ => rfl
theorem list5 {α : Type} {l : List α} (h : l.length = 5) : ∃ a b c d e, l = [a, b, c, d, e] := by
  match l, h with
  | [a, b, c, d, e], _ => exact ⟨a, b, c, d, e, rfl⟩
theorem namesD_of {d : PyData} (h : deedD d = true) : namesD d = keysOf (namedOf d) := by
  obtain ⟨t, j, x, r, hk, ht, hj, l4, hb, hx, e⟩ := deed_pure h
  rw [e]
  rfl
def spDue (K : PySem.W.Frag) : Sp := fun vs H Q _ => ∃ v ds, vs = [v] ∧ (∃ a us, v = .ref a ∧ SqL K H a us ∧ DQs K H us ds ∧ ∀ (i : Nat) (u : V) (e : PyData), us[i]? = some u → ds[i]? = some e → StT K H u e) ∧ (∀ d ∈ ds, deedD d = true) ∧ ds.length ≤ 62 ∧
  ∀ es u H', Same H H' → (badAt ds = none → ds.length ≤ 60 → es.Perm ds ∧ UpD es) → ((dueD ds es = .none ∧ u = .non) ∨ ∃ x y q, dueD ds es = twoS x y ∧ u = .ref q ∧ H' q = some (.lst [.str x, .str y])) → Q u H'
section
variable {P : Program} {w : World} {K : PySem.W.Frag} {mg : Str → Option Value} {base : Heap}
end
end K1
/-! the end of a law that makes lambdas and tells by repr: its def at the caller, with the tables of code objects -/
namespace K1
open PySem L2 PySem.Spec PyProof.Rows LamX
/-- nothing is tracked but the script and the tables, which are empty -/
structure Start (cs : List (Addr × Addr)) (a : Addr) (H : Hp) : Prop where
  tab : ∀ p ∈ cs, H p.2 = some (.tbl #[])
  any : ∀ b, H b = none ∨ (b ∈ cs.map (·.2) ∧ H b = some (.tbl #[])) ∨ (b = a ∧ ∃ o xs, H b = some (.frz o (.lst xs)))
def GoodT (P : Program) (w : World) (K : PySem.W.Frag) (mg : Str → Option Value) (fa : Addr) (n : Nat) (cs : List (Addr × Addr)) : Prop :=
  ∀ (base : Heap) (s : Shared) (H : Hp) (a : Addr) (ns : List Int), ns.length ≤ n → (∀ p ∈ cs, TabB base mg p.1 p.2) → Env0 P w K mg base callerA [] s H → Start cs a H → SqL K H a (ns.map V.int) →
    codeAny (model P w) callerA (.call (.ref fa) ⟨[.ref a], []⟩) (CR L2.CX0 [] P w H s (fun v _ => v = .bl true) L2.E0) s
section
variable {P : Program} {w : World} {K : PySem.W.Frag} {mg mb : Str → Option Value} {n : Nat} {fa a : Addr} {cs : List (Addr × Addr)} {s : Shared} {vs : List Value} {ns : List Int}
/-- what the ground keeps: all but lists and empty fields -/
theorem ground_of {H : Hp} (ha : s.heap.get? a = some { cls := .type "list", data := .seq vs.toArray }) (hT : ∀ p ∈ cs, s.heap.get? p.2 = some { cls := .none, data := .fields #[] }) (S : Start cs a H) {b : Addr} {o : Obj}
    (e : s.heap.get? b = some o) (h1 : ∀ us n, o.data ≠ .seq us n) (h2 : o.data ≠ .fields #[]) : (hidT s.heap H).get? b = some o := by
  refine hidT_get e ?_
  rcases S.any b with z | ⟨m, _⟩ | ⟨z, _⟩
  · exact z
  · obtain ⟨p, hp, q⟩ := List.mem_map.mp m
    rw [← q, hT p hp] at e
    cases e
    exact absurd rfl h2
  · rw [z, ha] at e
    cases e
    exact absurd rfl (h1 _ _)
theorem good_tabs (KX : K.In s.heap) (hns : s.heap.Ns mainGlobals mg) (hb : s.heap.Ns builtinsNs mb) (hbb : ∀ x : Str, x ≠ "__name__" → mb x = bootBuiltins x) (hlim : s.heap.NoLimit) (hg : s.gens = #[])
    (hT : ∀ p ∈ cs, s.heap.get? p.2 = some { cls := .none, data := .fields #[] }) (nT : ∀ p ∈ cs, K.lookup p.2 = none) (C : ∀ p ∈ cs, PySem.W.CodeHd s.heap p.1 p.2)
    (hbm : ∃ (bm : Addr) (ob : Obj), mg "__builtins__" = some (.ref bm) ∧ bm ≠ builtinsNs ∧ s.heap.get? bm = some ob ∧ ob.cls = .type "module" ∧ ob.dict = some builtinsNs ∧ ob.data = .plain)
    (ha : s.heap.get? a = some { cls := .type "list", data := .seq vs.toArray }) (hi : IntsAre vs ns) (hl : ns.length ≤ n) (hn : n ≤ sizeLine) (F : GoodT P w K mg fa n cs) :
    codeAny (model P w) callerA (.call (.ref fa) ⟨[.ref a], []⟩) (fun r s' => r = .ok (.ret (.bool true)) ∧ OldK s.heap s'.heap ∧ s'.os = s.os ∧ AllBare s'.gens) s := by
  have rv := vals_ints hi
  have lenV := hi.length
  have hls : ns.length ≤ sizeLine := Nat.le_trans hl hn
  have main : ∀ H : Hp, Start cs a H → SqL K H a (ns.map V.int) → HOk P w H s.heap → (H a ≠ none → K.lookup a = none) →
      codeAny (model P w) callerA (.call (.ref fa) ⟨[.ref a], []⟩) (fun r s' => r = .ok (.ret (.bool true)) ∧ OldK s.heap s'.heap ∧ s'.os = s.os ∧ AllBare s'.gens) s := by
    intro H S hS hok hK
    have gr := @ground_of a cs s vs H ha hT S
    have dic : ∀ {b : Addr} {o : Obj} {es : Array DictEntry} {ep : Nat}, s.heap.get? b = some o → o.data = .dict es ep → (hidT s.heap H).get? b = some o := fun e d => by
      refine gr e (fun us n z => ?_) fun z => ?_
      all_goals
        rw [d] at z
        cases z
    have nsK : ∀ {b : Addr} {m : Str → Option Value}, s.heap.Ns b m → (hidT s.heap H).Ns b m := fun ⟨o, es, ep, e, d, r⟩ => ⟨o, es, ep, dic e d, d, r⟩
    have hKb : K.In (hidT s.heap H) := fun b o e => by
      refine hidT_get (KX b o e) ?_
      rcases S.any b with z | ⟨m, _⟩ | ⟨z, o', xs, q⟩
      · exact z
      · obtain ⟨p, hp, q⟩ := List.mem_map.mp m
        rw [← q, nT p hp] at e
        cases e
      · rw [z] at e q
        rw [hK (by rw [q]; exact fun y => nomatch y)] at e
        cases e
    have TB : ∀ p ∈ cs, TabB (hidT s.heap H) mg p.1 p.2 := fun p hp => by
      refine ⟨?_, ?_, fun z => ?_⟩
      · obtain ⟨o, us, file, tf, flags, tg, inF, text, tt, e1, r1, r2, r3, r⟩ := C p hp
        refine ⟨o, us, file, tf, flags, tg, inF, text, tt, gr e1 (fun vs n z => ?_) (fun z => ?_), r1, r2, r3, r⟩
        · rw [r2] at z
          cases z
        · rw [r2] at z
          cases z
          simp at r3
      · obtain ⟨bm, ob, b1, b2, b3, b4, b5, b6⟩ := hbm
        refine ⟨bm, ob, b1, b2, fun q => ?_, fun q => ?_, gr b3 (fun vs n z => ?_) (fun z => ?_), b4, b5, b6⟩
        · obtain ⟨o, es, ep, e, hd, _⟩ := hns
          rw [q, e] at b3
          cases b3
          rw [hd] at b6
          cases b6
        · rw [q, hT p hp] at b3
          cases b3
          cases b6
        all_goals
          rw [b6] at z
          cases z
      · obtain ⟨o, es, ep, e, hd, _⟩ := hns
        rw [z, hT p hp] at e
        cases e
        cases hd
    obtain ⟨mc, l1, l2⟩ := hlim
    have e0 : Env0 P w K mg (hidT s.heap H) callerA [] s H :=
      ⟨rfl, ⟨hKb, nsK hns, ⟨mb, nsK hb, hbb⟩, ⟨mc, nsK l1, l2⟩⟩, fun b o e => of_hidT e, Nat.le_of_eq (hidT_size _ _), trivial, fun b hb => absurd hb List.not_mem_nil, hok, .of_eq hg⟩
    refine codeAny_mono (F _ s H a ns hl TB e0 S hS) fun r s' h => ?_
    cases r with
    | error e => exact False.elim h
    | ok fl =>
      cases fl with
      | next => exact False.elim h
      | brk => exact False.elim h
      | cont => exact False.elim h
      | ret u =>
        obtain ⟨v, H', os, bare, un, hok', r', q⟩ := h
        have q' : v = .bl true := q
        subst q'
        obtain rfl : u = Value.bool true := r'
        have stay : ∀ b o, b ∉ cs.map (·.2) → s.heap.get? b = some o → s'.heap.get? b = some o := fun b o nb e => by
          rcases S.any b with z | ⟨m, _⟩ | ⟨_, ob, xs, z⟩
          · exact un.keep b o e z List.not_mem_nil List.not_mem_nil
          · exact absurd m nb
          · obtain ⟨e1, _⟩ := hok b _ z
            obtain ⟨e2, _⟩ := hok' b _ (un.frzs b ob _ z)
            rw [e] at e1
            cases e1
            exact e2
        have grown : ∀ p ∈ cs, ∃ more : Array Value, s'.heap.get? p.2 = some { cls := .none, data := .fields more } := fun p hp => by
          obtain ⟨more, z⟩ := un.tbls p.2 #[] (S.tab p hp)
          exact ⟨_, hok' p.2 _ z⟩
        refine ⟨rfl, ⟨fun b o e => ?_, fun b o e => ?_⟩, os, bare⟩
        · by_cases m : b ∈ cs.map (·.2)
          · obtain ⟨p, hp, q⟩ := List.mem_map.mp m
            obtain ⟨more, hm⟩ := grown p hp
            rw [← q] at e ⊢
            rw [hT p hp] at e
            cases e
            exact .inr (.inl ⟨((C p hp).tab (hT p hp)).isCodeTable, rfl, #[], more, rfl, by rw [Array.empty_append]; exact hm⟩)
          · exact .inl (stay b o m e)
        · by_cases m : b ∈ cs.map (·.2)
          · obtain ⟨p, hp, q⟩ := List.mem_map.mp m
            obtain ⟨more, hm⟩ := grown p hp
            rw [← q]
            exact ⟨_, hm⟩
          · exact ⟨o, stay b o m e⟩
  have tabs : ∀ {b : Addr}, b ∈ cs.map (·.2) → s.heap.get? b = some { cls := .none, data := .fields #[] } := fun m => by
    obtain ⟨p, hp, q⟩ := List.mem_map.mp m
    rw [← q]
    exact hT p hp
  have aT : a ∉ cs.map (·.2) := fun m => by
    have z := tabs m
    rw [ha] at z
    have z' : Data.seq vs.toArray _ = Data.fields #[] := congrArg Obj.data (Option.some.inj z)
    cases z'
  have into : ∀ p ∈ cs, p.2 ∈ cs.map (·.2) := fun p hp => List.mem_map.mpr ⟨p, hp, rfl⟩
  cases hk : K.lookup a with
  | some o =>
    have e := KX a o hk
    rw [ha] at e
    cases e
    let H : Hp := fun b => if b ∈ cs.map (·.2) then some (.tbl #[]) else none
    have yes : ∀ {b}, b ∈ cs.map (·.2) → H b = some (.tbl #[]) := fun m => if_pos m
    have no : ∀ {b}, b ∉ cs.map (·.2) → H b = none := fun m => if_neg m
    refine main H ⟨fun p hp => yes (into p hp), fun b => ?_⟩ (.inr ⟨_, vs.toArray, _, hk, rfl, rfl, rfl, by rw [List.size_toArray, lenV]; exact hls, by simpa using rv⟩) (fun b u z => ?_) fun z => absurd (no aT) z
    · by_cases m : b ∈ cs.map (·.2)
      · exact .inr (.inl ⟨m, yes m⟩)
      · exact .inl (no m)
    · by_cases m : b ∈ cs.map (·.2)
      · rw [yes m] at z
        cases z
        exact tabs m
      · rw [no m] at z
        cases z
  | none =>
    let o : Obj := { cls := .type "list", data := .seq vs.toArray }
    let H : Hp := fun b => if b = a then some (.frz o (.lst (ns.map V.int))) else if b ∈ cs.map (·.2) then some (.tbl #[]) else none
    have at_a : H a = some (.frz o (.lst (ns.map V.int))) := if_pos rfl
    have yes : ∀ {b}, b ∈ cs.map (·.2) → H b = some (.tbl #[]) := fun {b} m => (if_neg (fun z => aT (by rw [← z]; exact m))).trans (if_pos m)
    have no : ∀ {b}, b ≠ a → b ∉ cs.map (·.2) → H b = none := fun h m => (if_neg h).trans (if_neg m)
    refine main H ⟨fun p hp => yes (into p hp), fun b => ?_⟩ (.inl (.inr ⟨o, at_a⟩)) (fun b u z => ?_) fun _ => hk
    · by_cases h : b = a
      · exact .inr (.inr ⟨h, _, _, by rw [h]; exact at_a⟩)
      · by_cases m : b ∈ cs.map (·.2)
        · exact .inr (.inl ⟨m, yes m⟩)
        · exact .inl (no h m)
    · by_cases h : b = a
      · rw [h, at_a] at z
        cases z
        rw [h]
        exact ⟨ha, by rw [List.length_map]; exact hls, vs, _, rv, ha⟩
      · by_cases m : b ∈ cs.map (·.2)
        · rw [yes m] at z
          cases z
          exact tabs m
        · rw [no h m] at z
          cases z
end
/-- the goal that the head leaves, from GoodT -/
def GoodAtS (l : PySem.W.OpenLaw) (w : World) (K : PySem.W.Frag) (n : Nat) (mg : Str → Option Value) (fa : Addr) (h : Heap) : Prop :=
  ∃ cs : List (Addr × Addr), (∀ p ∈ cs, h.get? p.2 = some { cls := .none, data := .fields #[] }) ∧ (∀ p ∈ cs, K.lookup p.2 = none) ∧ (∀ p ∈ cs, PySem.W.CodeHd h p.1 p.2) ∧ GoodT l.prog w K mg fa n cs
theorem walk_tabs {l : PySem.W.OpenLaw} {n : Nat} {q : Program} {loose : List Str} {XP : (Str → Option Value) → Heap → Prop} {YP : World → Heap → Prop} {d : DefRec} {K : Params → PySem.W.Frag}
    (hn : l.most = some n) (hn2 : n ≤ sizeLine) (hdf : d.params.defaults = []) (hY : ∀ (w : World) (h : Heap), YP w h → (K w.params).In h)
    (F : ∀ (w : World) (mg : Str → Option Value) (fa : Addr) (h : Heap), YP w h → (K w.params).In h → h.Ns mainGlobals mg → mg d.name = some (.ref fa) → GoodAtS l w (K w.params) n mg fa h) :
    PySem.W.WalkO q loose XP YP l.row.toRowW d [] (fun f vs => PySem.call f vs) := by
  refine Att.attach_call hn hdf fun w s₀ s₁ mg mb fa o pm cd doc a vs ns G Y ho hd hcd hmg hobj hints hlen hg => ?_
  have KX := hY w _ Y
  obtain ⟨cs, hT, nT, C, hF⟩ := F w mg fa _ Y KX G.T.g hmg
  exact good_tabs KX G.T.g G.T.b G.T.builtins G.T.nolimit hg hT nT C G.T.bmain hobj hints hlen hn2 hF
end K1
/-! defs that make lambdas; beside the tables -/
namespace K1
open PySem L2 LamX
section
variable {P : Program} {w : World} {K : PySem.W.Frag} {mg : Str → Option Value} {base : Heap}
/-- a def of the text whose code object stands at c -/
structure FunC (K : PySem.W.Frag) (x qual : Str) (st : Stmt) (f : Addr) (fd : FuncData) (c : Addr) : Prop where
  ex : ∃ (oc : Value) (od : Option Addr) (kV doc pm : Value) (an : Option Addr) (ct : Value) (osl : Array (Option Value)),
    fd = PySem.W.fnOf x qual (defArgs st) (defBody st) (defScope st) .none kV doc pm an (.ref c) ct ∧ K.lookup f = some ⟨oc, od, .func fd, osl⟩ ∧ PySem.W.codeIn K (.ref c) qual = true
theorem okGC {x qual : Str} {st : Stmt} {f c : Addr} {fd : FuncData} {N ps : List Str} {k : Nat} {sp : Sp} (F : FunC K x qual st f fd c) (S : FnScope N ps (defScope st)) (len : ∀ vs H Q E, sp vs H Q E → vs.length = ps.length)
    (hbody : ∀ (A : Around) (outer : List Env) (s : Shared) (H : Hp) (vs : List V) (Q : VK) (E : XK), A.guards = some [] → Room k (A.deeper (PyProof.Rows.envOfC qual (defScope st) s.heap.objs.size f (.ref c))) → sp vs H Q E →
      ∃ t, PSs (cxOf CX0 P w K mg base N qual (defScope st) f (.ref c) A outer s H E).nox (defBody st) t ∧ t { nx := fun _ H' => Q .non H', rt := Q } (start N vs) H) : FnG P w K mg base (k + 1) f fd ps sp := by
  obtain ⟨oc, od, kV, doc, pm, an, ct, osl, rfl, lk, hcd⟩ := F.ex
  refine ⟨len, fun A outer s H args us vs Q E hg hr e0 hb r h => ?_⟩
  obtain ⟨t, ht, q⟩ := hbody A outer s H vs Q E hg (hr.deeper _) h
  exact run_at lk hcd S (len _ _ _ _ h) hr e0 hb r ⟨t, ht.nox, q⟩
end
/-- two lists of the same two texts -/
def rTT (K : PySem.W.Frag) (r : Bool) : R2 := fun x y H Q => ∃ a b s t, x = .ref a ∧ y = .ref b ∧ SqL K H a [.str s, .str t] ∧ SqL K H b [.str s, .str t] ∧ Q (.bl r) H
theorem tt_items {us ws : List Value} {s t : Str} (r1 : Vals [.str s, .str t] us) (r2 : Vals [.str s, .str t] ws) : ∃ a b c d, us = [Value.str s a, .str t b] ∧ ws = [Value.str s c, .str t d] := by
  cases r1 with
  | cons h1 r1 =>
    cases r1 with
    | cons h2 r1 =>
      cases r1
      cases r2 with
      | cons h3 r2 =>
        cases r2 with
        | cons h4 r2 =>
          cases r2
          obtain ⟨a, rfl⟩ := h1
          obtain ⟨b, rfl⟩ := h2
          obtain ⟨c, rfl⟩ := h3
          obtain ⟨d, rfl⟩ := h4
          exact ⟨a, b, c, d, rfl, rfl⟩
theorem tt_each {A : Around} {s0 : Shared} {s t : Str} {a b c d : Tok} (j : Nat) (h1 : j < [Value.str s a, .str t b].toArray.size) (h2 : j < [Value.str s c, .str t d].toArray.size) : SeqAt.EqAt A s0 ([Value.str s a, .str t b].toArray[j]) ([Value.str s c, .str t d].toArray[j]) true := by
  intro prog w E Q hq
  match j, h1, h2 with
  | 0, _, _ => exact PyProof.Rows.eqBool_str (by rw [beq_self_eq_true]; exact hq)
  | 1, _, _ => exact PyProof.Rows.eqBool_str (by rw [beq_self_eq_true]; exact hq)
  | j + 2, h1, _ => exact absurd h1 (by simp)
theorem op_eqTT {X : Cx} (hu : X.A.units + 64 < cLine) : OpR X (compareOp .Eq) (rTT X.K true) := by
  intro pins s0 σ H x y v u Q I rx ry h
  obtain ⟨a, b, s, t, rfl, rfl, h1, h2, q⟩ := h
  cases rx
  cases ry
  obtain ⟨us, r1, p1, _⟩ := I.list h1
  obtain ⟨ws, r2, p2, _⟩ := I.list h2
  obtain ⟨i1, i2, i3, i4, rfl, rfl⟩ := tt_items r1 r2
  exact SeqAt.eq_listAt (e := fun _ => true) p1.isList p2.isList rfl (by omega) (fun j h1 h2 => tt_each j h1 h2) ⟨.bl true, H, I, rfl, q⟩
theorem op_neTT {X : Cx} (hu : X.A.units + 64 < cLine) : OpR X (compareOp .NotEq) (rTT X.K false) := by
  intro pins s0 σ H x y v u Q I rx ry h
  obtain ⟨a, b, s, t, rfl, rfl, h1, h2, q⟩ := h
  cases rx
  cases ry
  obtain ⟨us, r1, p1, _⟩ := I.list h1
  obtain ⟨ws, r2, p2, _⟩ := I.list h2
  obtain ⟨i1, i2, i3, i4, rfl, rfl⟩ := tt_items r1 r2
  exact SeqAt.RcNeAt.lists (e := fun _ => true) p1.isList p2.isList rfl (by omega) (fun j h1 h2 => tt_each j h1 h2) _ _ _ _ ⟨.bl false, H, I, rfl, q⟩
/-- all but the tables -/
def nt (H : Hp) : Hp := fun b => match H b with
  | some (.tbl _) => none
  | x => x
theorem nt_at {H : Hp} {b : Addr} {u : HO} (h : nt H b = some u) : H b = some u ∧ ∀ ps, u ≠ .tbl ps := by
  unfold nt at h
  cases e : H b with
  | none =>
    rw [e] at h
    cases h
  | some x =>
    rw [e] at h
    cases x with
    | tbl ps => cases h
    | _ =>
      cases h
      exact ⟨rfl, fun ps z => by cases z⟩
theorem nt_of {H : Hp} {b : Addr} {u : HO} (h : H b = some u) (n : ∀ ps, u ≠ .tbl ps) : nt H b = some u := by
  unfold nt
  rw [h]
  cases u with
  | tbl ps => exact absurd rfl (n ps)
  | _ => rfl
theorem nt_in (H : Hp) : Same (nt H) H := fun b u e => (nt_at e).1
theorem nt_mono {A B : Hp} (s : Same A B) : Same (nt A) (nt B) := fun b u e => nt_of (s _ _ (nt_at e).1) (nt_at e).2
theorem nt_ext {A B : Hp} (s : ExtN A B) : Same (nt A) (nt B) := fun b u e => nt_of (s _ _ (nt_at e).1 (nt_at e).2) (nt_at e).2
/-- what the law keeps: all but the source and the tables -/
def grd (p : Addr) (H : Hp) : Hp := nt (hid p H)
theorem grd_hid (p : Addr) (H : Hp) : Same (grd p H) (hid p H) := nt_in _
theorem grd_in (p : Addr) (H : Hp) : Same (grd p H) H := (nt_in _).trans (hid_same p H)
theorem grd_of {p b : Addr} {H : Hp} {u : HO} (h : H b = some u) (n : b ≠ p) (nt : ∀ ps, u ≠ .tbl ps) : grd p H b = some u := nt_of (by rw [hid_ne n]; exact h) nt
theorem grd_bt {p : Addr} {H H' : Hp} (b : Bt p H H') : Same (grd p H) (grd p H') := nt_mono b.same
theorem grd_same {p : Addr} {H H' : Hp} (s : Same H H') : Same (grd p H) (grd p H') := nt_mono (hid_mono s)
theorem grd_ext {p : Addr} {H H' : Hp} (s : ExtN H H') : Same (grd p H) (grd p H') := fun b u e => by
  obtain ⟨h1, h2⟩ := nt_at e
  obtain ⟨h3, h4⟩ := hid_at h1
  exact grd_of (s _ _ h4 h2) h3 h2
theorem src_ext {p : Addr} {H H' : Hp} (h : Src H p) (s : ExtN H H') : Src H' p := by
  obtain ⟨a, b, e, r⟩ := h
  exact ⟨a, b, s _ _ e (fun ps z => by cases z), r⟩
theorem src_same {p : Addr} {H H' : Hp} (h : Src H p) (s : Same H H') : Src H' p := by
  obtain ⟨a, b, e, r⟩ := h
  exact ⟨a, b, s _ _ e, r⟩
theorem seq_grd {K : PySem.W.Frag} {p a : Addr} {H : Hp} {xs : List V} (h : SqL K (hid p H) a xs) : SqL K (grd p H) a xs := by
  rcases h with (h | ⟨o, h⟩) | h
  · exact .inl (.inl (nt_of h (fun ps z => by cases z)))
  · exact .inl (.inr ⟨o, nt_of h (fun ps z => by cases z)⟩)
  · exact .inr h
theorem tup_grd {K : PySem.W.Frag} {p a : Addr} {H : Hp} {xs : List V} (h : SqT K (hid p H) a xs) : SqT K (grd p H) a xs := by
  rcases h with (h | ⟨o, h⟩) | h
  · exact .inl (.inl (nt_of h (fun ps z => by cases z)))
  · exact .inl (.inr ⟨o, nt_of h (fun ps z => by cases z)⟩)
  · exact .inr h
mutual
theorem dq_grd {K : PySem.W.Frag} {p : Addr} {H : Hp} : ∀ (d : PyData) (v : V), DQ K (hid p H) v d → DQ K (grd p H) v d
  | .none, _, h => by
    cases h
    exact .non
  | .bool b, _, h => by
    cases h
    exact .bl b
  | .int i, _, h => by
    cases h
    exact .int i
  | .str x, _, h => by
    cases h with
    | str _ h => exact .str x h
  | .list ds, _, h => by
    cases h with
    | lst h1 h2 => exact .lst (seq_grd h1) (dqs_grd ds _ h2)
  | .tuple ds, _, h => by
    cases h with
    | tup h1 h2 => exact .tup (tup_grd h1) (dqs_grd ds _ h2)
  | .dict [], _, h => by
    cases h with
    | dct h => exact .dct (nt_of h (fun ps z => by cases z))
  | .dict (_ :: _), _, h => by cases h
theorem dqs_grd {K : PySem.W.Frag} {p : Addr} {H : Hp} : ∀ (ds : List PyData) (vs : List V), DQs K (hid p H) vs ds → DQs K (grd p H) vs ds
  | [], _, h => by
    cases h
    exact .nil
  | d :: ds, _, h => by
    cases h with
    | cons h1 h2 => exact .cons (dq_grd d _ h1) (dqs_grd ds _ h2)
end
theorem DQ.grd {K : PySem.W.Frag} {p : Addr} {H : Hp} {d : PyData} {v : V} (h : DQ K (hid p H) v d) : DQ K (grd p H) v d := dq_grd d v h
/-- tables stand while one draws -/
theorem tabs_bt {T : List (Addr × Str)} {p : Addr} {H H' : Hp} (src : Src H p) (t : Tabs T H) (b : Bt p H H') : Tabs T H' := fun x hx => by
  obtain ⟨ps, h1, h2, h3⟩ := t x hx
  obtain ⟨y, z, e, _⟩ := src
  refine ⟨ps, b.at (ne_of h1 e (by intro z; cases z)) h1, h2, fun pos cv hc => ?_⟩
  obtain ⟨c, e1, e2⟩ := h3 pos cv hc
  exact ⟨c, e1, b.at (ne_of e2 e (by unfold CodeO; intro z; cases z)) e2⟩
theorem tabs_same {T : List (Addr × Str)} {H H' : Hp} (t : Tabs T H) (s : Same H H') : Tabs T H' := t.ext s
/-- kept: all but the source and the tables -/
structure Kp (Ts : List (Addr × Str)) (p : Addr) (H H' : Hp) : Prop where
  g : Same (grd p H) (grd p H')
  s : Src H' p
  t : Tabs Ts H'
theorem Kp.refl {Ts : List (Addr × Str)} {p : Addr} {H : Hp} (s : Src H p) (t : Tabs Ts H) : Kp Ts p H H := ⟨Same.refl _, s, t⟩
theorem Kp.same {Ts : List (Addr × Str)} {p : Addr} {H H1 H2 : Hp} (k : Kp Ts p H H1) (s : Same H1 H2) : Kp Ts p H H2 := ⟨k.g.trans (grd_same s), src_same k.s s, tabs_same k.t s⟩
theorem Kp.bt {Ts : List (Addr × Str)} {p : Addr} {H H1 H2 : Hp} (k : Kp Ts p H H1) (b : Bt p H1 H2) : Kp Ts p H H2 := ⟨k.g.trans (grd_bt b), b.src, tabs_bt k.s k.t b⟩
theorem Kp.ext {Ts : List (Addr × Str)} {p : Addr} {H H1 H2 : Hp} (k : Kp Ts p H H1) (e : ExtN H1 H2) (t : Tabs Ts H2) : Kp Ts p H H2 := ⟨k.g.trans (grd_ext e), src_ext k.s e, t⟩
theorem Kp.trans {Ts : List (Addr × Str)} {p : Addr} {H H1 H2 : Hp} (k : Kp Ts p H H1) (l : Kp Ts p H1 H2) : Kp Ts p H H2 := ⟨k.g.trans l.g, l.s, l.t⟩
/-- a comprehension over a range, by a step that may leave new things -/
theorem lc_funRG {n : Nat} {te : TE} {j : Nat} {σ : St} {H1 : Hp} {D : Addr} {Qd : Hp → Prop} (f : Nat → V) (nD : H1 D = none) (hz : n ≤ 1000) (hw : ∀ x, wipe ((wipe σ [j]).set j (some x)) [j] = wipe σ [j])
    (he : ∀ i H' Q, i < n → Same H1 H' → (∀ H'', Same H' H'' → Q (f i) H'') → te ((wipe σ [j]).set j (some (.int (0 + (i : Int))))) H' Q) (hd : ∀ H', Same H1 H' → H' D = some (.lst ((List.range n).map f)) → Qd H') :
    ∃ W : Nat → Nat → Hp → Prop, (∃ m, W 0 m (upd H1 D (.lst []))) ∧ ∀ i m H, W i m H →
      ((Itr 0 n).stop i H ∧ Qd H) ∨ ((Itr 0 n).go i H ∧ ∃ Nx : Hp → Prop, (∀ H', Nx H' → ∃ m', m' < m ∧ W (i + 1) m' H') ∧ ∀ x H', (Itr 0 n).yld i H x H' → (gName j) x (wipe σ [j]) H' fun σ2 H2 => wipe σ2 [j] = wipe σ [j] ∧ tYes σ2 H2 fun b H3 =>
        if b = true then te σ2 H3 fun y H4 => ∃ acc, H4 D = some (.lst acc) ∧ acc.length < sizeLine ∧ Nx (upd H4 D (.lst (acc ++ [y]))) else Nx H3) := by
  refine lc_range (lo := 0) (n := n) (fun i H' => i ≤ n ∧ Same H1 H' ∧ H' D = some (.lst ((List.range i).map f))) ⟨Nat.zero_le _, K0.same_upd nD, upd_same⟩ ?_ (fun H' ⟨_, s, h⟩ => hd H' s h)
  intro i H' hlt ⟨hle, s, h⟩
  refine ⟨hw _, ?_⟩
  unfold tYes
  dsimp only
  rw [if_pos rfl]
  refine he i H' _ hlt s fun H'' s2 => ⟨_, s2 _ _ h, ?_, hlt, K0.same_over (s.trans s2) nD, ?_⟩
  · rw [List.length_map, List.length_range, sizeLine_eq]
    omega
  · rw [upd_same, List.range_succ, List.map_append]
    rfl
end K1
/-! Book, all that the head tells of it; _law_right -/
namespace K1
open PySem L2 LamX
/-- o.m(e, ..), which may raise -/
def tMethS (C : Addr) (m : Str) (sp : Sp) (E : L2.St → XK) (ta : TE) (t : TA) : TE := fun σ H Q => ta σ H fun x H1 => ∃ a dx fs, x = .ref a ∧ H1 a = some (.ins C dx fs) ∧ fs.lookup m = none ∧ t σ H1 fun vs H2 => sp (x :: vs) H2 Q (E σ)
theorem pe_methS {X : Cx} {CX : CXT} {k : Nat} {f C : Addr} {fd : FuncData} {ps : List Str} {sp : Sp} {E : L2.St → XK} {m : Str} {pos apos : Pos} {e o : Expr} {es : List Expr} {ta : TE} {t : TA} {pl : Sem Bool} (he : PE X o ta) (c : Cls X.K C) (hm : Meth X.K C m f) (F : FnOk X.prog X.w X.K X.mg X.base CX k f fd ps sp) (hr : Room k X.A) (hb : Binds X.K fd ps []) (hx : ∀ σ, PassesAt CX X σ (E σ)) (ha : PA X (e :: es) t)
    (hst : starEach (e :: es) X.env = (false, eval e X.env) :: starEach es X.env := by rfl) (hpl : (backTo pos (starEach es X.env)).any (·.1) = false := by rfl)
    (ht : eval (.Call (.Attribute o m apos) (e :: es) [] pos) X.env = (do
      let ov ← eval o X.env
      standAt apos.atName
      let (f, first) ← holding [ov] (getMethod ov m pl)
      callWith pos f first (backTo pos (starEach (e :: es) X.env)) (backToKw pos (keywordEach [] X.env))) := by rfl) :
    PE X (.Call (.Attribute o m apos) (e :: es) [] pos) (tMethS C m sp E ta t) := by
  refine ⟨fun pins s σ H Q I h => ?_⟩
  refine PySem.W.methodCall_KW (pl := pl) (thn (he.run pins s σ H _ I h) fun u s1 ⟨x, H1, I1, rx, a, dx, fs, ex, ea, l, q⟩ => ?_) ht
  subst ex
  obtain rfl : u = Value.ref a := rx
  refine getmeth_ok I1 ea c hm l ?_
  refine PySem.W.callWith_K (first := [.ref a]) (h₀ := X.base) I.ok.mod.kin hm.kp (thn (ha.run pos pins s1 σ H1 _ I1 q) fun us s2 ⟨vs, H2, I2, r, q2⟩ => ⟨I2.kIn, ?_⟩) hst hpl
  exact run_fnA (us := .ref a :: us) (vs := .ref a :: vs) F hr rfl hb (hx σ) I2 (.cons rfl r) q2
/-- all that the top has made of the class Book and the errors -/
structure BkAll (K : PySem.W.Frag) (mg : Str → Option Value) (C : Addr) (c : Nat → Addr) : Prop where
  B : Bk K mg C
  Y : BkT K C
  Rb : ∃ f, Er K mg "NoBook" (c 1) f
  Rm : ∃ f, ErM K mg "TooMany" (c 0) f
  Rc : ∃ f, Er K mg "NotClosed" (c 2) f
  Ru : ∃ f, Er K mg "Unseen" (c 3) f
  Rs : ∃ f, Er K mg "NoStamp" (c 6) f
  Rh : ∃ f, Er K mg "NoHand" (c 8) f
  ini : ∃ f fd aE, FunD K "__init__" "Book.__init__" (inClass (top 40) 0) f fd ∧ Mk K C f ∧ Binds K fd ["self", "deeds"] [] ∧ Binds K fd ["self", "deeds"] [.ref aE] ∧ ∀ H, SqT K H aE []
  deeds : ∃ f fd, Fun K "deeds" "Book.deeds" (inClass (top 40) 1) f fd ∧ Binds K fd ["self"] [] ∧ Meth K C "deeds" f
  wdeeds : ∃ f fd, Fun K "with_deeds" "Book.with_deeds" (inClass (top 40) 4) f fd ∧ Binds K fd ["self", "more"] [] ∧ Meth K C "with_deeds" f
  last : ∃ f fd, Fun K "last" "Book.last" (inClass (top 40) 3) f fd ∧ Binds K fd ["self", "hand"] [] ∧ Meth K C "last" f
  get : ∃ f fd, Fun K "__getitem__" "Book.__getitem__" (inClass (top 40) 8) f fd ∧ Binds K fd ["self", "at"] [] ∧ PySem.W.findIn K (.ref C) "__getitem__" = some (some (.ref f)) ∧ PySem.W.fnIn K f = true ∧ PySem.W.isFn K (.ref f) = true
  has : ∃ f fd, Fun K "__contains__" "Book.__contains__" (inClass (top 40) 9) f fd ∧ Binds K fd ["self", "x"] [] ∧ PySem.W.findIn K (.ref C) "__contains__" = some (some (.ref f)) ∧ PySem.W.isFn K (.ref f) = true
  len : ∃ f fd, Fun K "__len__" "Book.__len__" (inClass (top 40) 10) f fd ∧ Binds K fd ["self"] [] ∧ PySem.W.findIn K (.ref C) "__len__" = some (some (.ref f)) ∧ PySem.W.isFn K (.ref f) = true
  eq : ∃ f fd, Fun K "__eq__" "Book.__eq__" (inClass (top 40) 12) f fd ∧ Binds K fd ["self", "other"] [] ∧ PySem.W.findIn K (.ref C) "__eq__" = some (some (.ref f)) ∧ PySem.W.isFn K (.ref f) = true
  iter : ∃ f fd, Fun K "__iter__" "Book.__iter__" (inClass (top 40) 11) f fd ∧ Binds K fd ["self"] [] ∧ PySem.W.findIn K (.ref C) "__iter__" = some (some (.ref f)) ∧ PySem.W.isFn K (.ref f) = true ∧ PySem.W.keepIn K (.ref f) = true
  ne : PySem.W.findIn K (.ref C) "__ne__" = some (some (.builtin "object.__ne__"))
  noI : PySem.W.kitOne K (.type "int") (.ref C) = some false
  Rbr : ∃ f, Er K mg "NoBranch" (c 4) f
  root : ∃ aR, mg "ROOT" = some (.ref aR) ∧ ∀ H, SqT K H aR [.int 0, .int 0]
  most : ∃ tM, mg "MOST_DEEDS" = some (.int 60 tM)
  zip : mg "zip" = none
  enu : mg "enumerate" = none
  set : mg "set" = none
section
variable {P : Program} {w : World} {K : PySem.W.Frag} {mg : Str → Option Value} {base : Heap} {C : Addr} {c : Nat → Addr}
theorem BkAll.book {f : Addr} {fd : FuncData} (W : BkAll K mg C c) (T : All K mg) (M2 : Nms2 mg) (F : FunD K "__init__" "Book.__init__" (inClass (top 40) 0) f fd) : FnOk P w K mg base (L2.CX P w) 13 f fd ["self", "deeds"] (spBook K C (c 1) (c 0) (c 2) (c 3)) := by
  obtain ⟨_, Rb⟩ := W.Rb
  obtain ⟨_, Rm⟩ := W.Rm
  obtain ⟨_, Rc⟩ := W.Rc
  obtain ⟨_, Ru⟩ := W.Ru
  obtain ⟨aR, mR, tR⟩ := W.root
  obtain ⟨tM, hM⟩ := W.most
  exact ok_book F T M2 W.B Rb Rm Rc Ru mR tR M2.sorted W.zip W.enu W.set hM
end
end K1
/-! Book(..), as law calls it -/
namespace K1
open PySem L2 LamX
section
variable {K : PySem.W.Frag} {C : Addr} {c : Nat → Addr} {J : Hp} {x dx : Addr}
theorem mk_same {o1 o2 : HO} (nx : J x = none) (nd : J dx = none) : Same J (hid x (upd (upd J dx o1) x o2)) := fun b o e => by
  have b1 := ne_of_none e nx
  have b2 := ne_of_none e nd
  rw [hid_ne b1, upd_ne b1, upd_ne b2]
  exact e
theorem bad_app {e : PyData} {rest : List PyData} : ∀ {ds : List PyData} {seen : List (List Int)} {i : Nat}, (∀ d ∈ ds, deedD d = true) → (ds.map keyD).Nodup → (∀ d ∈ ds, keyD d ∉ seen) → (deedD e = false ∨ keyD e ∈ seen ∨ ∃ d ∈ ds, keyD d = keyD e) → badFrom seen (ds ++ e :: rest) i = some (i + ds.length)
  | [], seen, i, _, _, _, h => by
    show (if deedD e = true ∧ keyD e ∉ seen then badFrom (keyD e :: seen) rest (i + 1) else some i) = some i
    refine if_neg fun z => ?_
    rcases h with h | h | ⟨d, hd, _⟩
    · rw [h] at z
      cases z.1
    · exact z.2 h
    · cases hd
  | d :: ds, seen, i, r, nd, s, h => by
    rw [List.map_cons, List.nodup_cons] at nd
    show (if deedD d = true ∧ keyD d ∉ seen then badFrom (keyD d :: seen) (ds ++ e :: rest) (i + 1) else some i) = some (i + (ds.length + 1))
    rw [if_pos ⟨r d List.mem_cons_self, s d List.mem_cons_self⟩, bad_app (fun a ha => r a (List.mem_cons_of_mem _ ha)) nd.2 (fun a ha => ?_) ?_]
    · rw [Nat.add_assoc, Nat.add_comm 1]
    · rcases h with h | h | ⟨a, ha, z⟩
      · exact .inl h
      · exact .inr (.inl (List.mem_cons_of_mem _ h))
      · rcases List.mem_cons.mp ha with y | y
        · exact .inr (.inl (by rw [← z, y]; exact List.mem_cons_self))
        · exact .inr (.inr ⟨a, y, z⟩)
    · intro m
      rcases List.mem_cons.mp m with z | z
      · exact nd.1 (z ▸ List.mem_map_of_mem ha)
      · exact s a (List.mem_cons_of_mem _ ha) z
theorem Its.to {H H' : Hp} {v : V} {ds : List PyData} (h : Its K H v ds) (s : Same H H') : Its K H' v ds := by
  obtain ⟨a, us, e, h1, h2, h3⟩ := h
  exact ⟨a, us, e, h1.imp s.seq (K0.seqT_same s), h2.to s, fun i u d hu hd => (h3 i u d hu hd).to s⟩
theorem book_gen {v : V} {d : PyData} {Q : VK} {E : XK} {Cb Cm Cc Cu : Addr} (nx : J x = none) (nd : J dx = none) (h : DQ K J v d) (len : listD d = true → (itemsD d).length ≤ 62) (its : listD d = true → badAt (itemsD d) = none → Its K J v (itemsD d))
    (k0 : listD d = false → ∀ H' dd, Same J H' → H' dd = some (.xd [("told", .non)]) → E (.ref Cb) (some dd) H')
    (k1 : ∀ i : Nat, listD d = true → badAt (itemsD d) = some i → ∀ H' dd, Same J H' → H' dd = some (.xd [("told", .int i)]) → E (.ref Cb) (some dd) H')
    (k2 : listD d = true → badAt (itemsD d) = none → 60 < (itemsD d).length → ∀ H' dd, Same J H' → H' dd = some (.xd [("most", .int 60)]) → E (.ref Cm) (some dd) H')
    (k3 : ∀ ds, listD d = true → badAt (itemsD d) = none → (itemsD d).length ≤ 60 → ds.Perm (itemsD d) → UpD ds → (errC ds ds l0 = none → ∀ H', Same J H' → BookAt K C H' x ds → (∀ a us, J a = some (.lst us) → BookAt K C (hid a H') x ds) → Q .non H') ∧
      ∀ b e, errC ds ds l0 = some (b, e) → ∀ H' dd v', Same J H' → DQ K H' v' (stOf e) → H' dd = some (.xd [("told", v')]) → E (.ref (if b = true then Cc else Cu)) (some dd) H') :
    spBook K C Cb Cm Cc Cu [.ref x, v] (upd (upd J dx (.own x)) x (.ins C dx [])) Q E := by
  have S : Same J (hid x (upd (upd J dx (.own x)) x (.ins C dx []))) := mk_same nx nd
  refine ⟨x, dx, v, d, rfl, upd_same, h.to S, len, fun a b => (its a b).to S, fun a H' dd s => k0 a H' dd (S.trans s), fun i a b H' dd s => k1 i a b H' dd (S.trans s), fun a b l H' dd s => k2 a b l H' dd (S.trans s), fun ds a b l p u => ?_⟩
  obtain ⟨h1, h2⟩ := k3 ds a b l p u
  exact ⟨fun e H' s b hh => h1 e H' (S.trans s) b fun a us ha => hh a us (S.trans (hid_same x _) _ _ ha), fun b' e' he H' dd v' s => h2 b' e' he H' dd v' (S.trans s)⟩
/-- right deeds, whose book has no error -/
theorem book_right {v : V} {d : PyData} {ds : List PyData} {Q : VK} {E : XK} {Cb Cm Cc Cu : Addr} (nx : J x = none) (nd : J dx = none) (h : DQ K J v d) (hl : listD d = true) (hi : itemsD d = ds) (its : Its K J v ds) (right : ∀ d ∈ ds, deedD d = true) (nod : (ds.map keyD).Nodup) (few : ds.length ≤ 60)
    (herr : ∀ es, es.Perm ds → UpD es → errC es es l0 = none) (k : ∀ H' es, Same J H' → BookAt K C H' x es → (∀ a us, J a = some (.lst us) → BookAt K C (hid a H') x es) → es.Perm ds → UpD es → Q .non H') : spBook K C Cb Cm Cc Cu [.ref x, v] (upd (upd J dx (.own x)) x (.ins C dx [])) Q E := by
  subst hi
  have bn : badAt (itemsD d) = none := bad_ok right nod fun d hd => List.not_mem_nil
  refine book_gen nx nd h (fun _ => by omega) (fun _ _ => its) (fun z => by rw [hl] at z; cases z) (fun i _ z => by rw [bn] at z; cases z) (fun _ _ z => by omega) fun es _ _ _ p u => ⟨fun _ H' s b hh => k H' es s b hh p u, fun b e he => ?_⟩
  rw [herr es p u] at he
  cases he
theorem err_mem {ds : List PyData} {b : Bool} {e : PyData} : ∀ {r : List PyData} {l : List Int}, errC ds r l = some (b, e) → e ∈ r
  | [], _, h => by cases h
  | d :: r, l, h => by
    rw [errC] at h
    split at h
    · split at h
      · exact List.mem_cons_of_mem _ (err_mem h)
      · cases h
        exact List.mem_cons_self
    · cases h
      exact List.mem_cons_self
mutual
/-- data without lists and dicts lies beside a list -/
theorem dq_beside {p : Addr} {l : List V} (hp : J p = some (.lst l)) : ∀ (d : PyData) (v : V), d.hasDict = false → noList d = true → DQ K J v d → DQ K (hid p J) v d
  | .none, _, _, _, h => by
    cases h
    exact .non
  | .bool b, _, _, _, h => by
    cases h
    exact .bl b
  | .int i, _, _, _, h => by
    cases h
    exact .int i
  | .str x, _, _, _, h => by
    cases h with
    | str _ h => exact .str x h
  | .list ds, _, _, n, h => by cases n
  | .tuple ds, _, f, n, h => by
    cases h with
    | tup h1 h2 =>
      refine .tup ?_ (dqs_beside hp ds _ f n h2)
      rcases h1 with (h | ⟨o, h⟩) | h
      · exact .inl (.inl (by rw [hid_ne (ne_of h hp (by intro z; cases z))]; exact h))
      · exact .inl (.inr ⟨o, by rw [hid_ne (ne_of h hp (by intro z; cases z))]; exact h⟩)
      · exact .inr h
  | .dict _, _, f, _, h => by cases f
theorem dqs_beside {p : Addr} {l : List V} (hp : J p = some (.lst l)) : ∀ (ds : List PyData) (vs : List V), PyData.hasDictAll ds = false → noListAll ds = true → DQs K J vs ds → DQs K (hid p J) vs ds
  | [], _, _, _, h => by
    cases h
    exact .nil
  | d :: ds, _, f, n, h => by
    have f' : (d.hasDict || PyData.hasDictAll ds) = false := f
    have n' : (noList d && noListAll ds) = true := n
    rw [Bool.or_eq_false_iff] at f'
    rw [Bool.and_eq_true] at n'
    cases h with
    | cons h1 h2 => exact .cons (dq_beside hp d _ f'.1 n'.1 h1) (dqs_beside hp ds _ f'.2 n'.2 h2)
end
theorem pure_right {d : PyData} (h : deedD d = true) : Pure d := by
  obtain ⟨s, k, b, rfl, ps, pk, pb⟩ := pure_deed h
  exact Pure.tuple fun e he => by
    simp only [List.mem_cons, List.not_mem_nil, or_false] at he
    rcases he with rfl | rfl | rfl
    · exact ps
    · exact pk
    · exact pb
theorem sts_grd {p : Addr} {us : List V} {ds : List PyData} (h : Sts K (hid p J) us ds) : Sts K (grd p J) us ds := fun i u e hu he => by
  obtain ⟨a, s, x, y, t, j, e1, h1, h2, h3, e', f', h4, h5, h6⟩ := h i u e hu he
  exact ⟨a, s, x, y, t, j, e1, tup_grd h1, nt_of h2 (fun ps z => by cases z), h3, e', f', h4, h5.grd, h6.grd⟩
theorem stT_grd {p : Addr} {v : V} {d : PyData} (h : StT K (hid p J) v d) : StT K (grd p J) v d := by
  obtain ⟨a, s, x, y, t, j, e1, h1, h2, h3, e', f', h4, h5, h6⟩ := h
  exact ⟨a, s, x, y, t, j, e1, tup_grd h1, nt_of h2 (fun ps z => by cases z), h3, e', f', h4, h5.grd, h6.grd⟩
theorem book_grd {p bk : Addr} {es : List PyData} (src : Src J p) (b : BookAt K C J bk es) : BookAt K C (grd p J) bk es := by
  obtain ⟨A, B, hp, _⟩ := src
  obtain ⟨⟨dx, rA, tA, sA, lA, us, kvs, ss, h1, h2, h3, h4, h5, h6, h7, h8, h9⟩, r, f, u, gd⟩ := b
  have n1 : bk ≠ p := ne_of h1 hp (by intro z; cases z)
  have n4 : tA ≠ p := ne_of h4 hp (by intro z; cases z)
  have n8 : lA ≠ p := ne_of h8 hp (by intro z; cases z)
  have n2 : rA ≠ p := fun z => by
    rw [z, hp] at h2
    cases h2
    cases h3 with
    | cons g1 _ =>
      have := r _ List.mem_cons_self
      cases g1
      cases this
  have n6 : sA ≠ p := fun z => by
    rw [z, hp] at h6
    cases h6
    cases es with
    | nil => cases h7
    | cons e es =>
      cases h7 with
      | cons g1 _ => cases g1
  have p1 := pure_all fun d hd => pure_right (r d hd)
  have p2 := pure_all (ds := es.map stOf) fun d hd => by
    obtain ⟨e, he, rfl⟩ := List.mem_map.mp hd
    exact pure_thing (stamp_thing (st_stamp (r e he)))
  refine ⟨⟨dx, rA, tA, sA, lA, us, kvs, ss, grd_of h1 n1 (fun _ z => by cases z), grd_of h2 n2 (fun _ z => by cases z), dqs_grd _ _ (dqs_beside hp _ _ p1.1 p1.2 h3), grd_of h4 n4 (fun _ z => by cases z), ?_, grd_of h6 n6 (fun _ z => by cases z), dqs_grd _ _ (dqs_beside hp _ _ p2.1 p2.2 h7), grd_of h8 n8 (fun _ z => by cases z), ?_⟩, r, f, u, gd⟩
  rotate_left
  · exact sts_grd fun i u e hu he => stT_hide hp (r e (List.mem_of_getElem? he)) (h9 i u e hu he)
  have go : ∀ {kvs : List (List Key × V)} {es : List PyData}, (∀ d ∈ es, deedD d = true) → TbS K J kvs es → TbS K (grd p J) kvs es := by
    intro kvs
    induction kvs with
    | nil =>
      intro es _ h
      cases h
      exact .nil
    | cons k kvs ih =>
      intro es r h
      cases h with
      | cons g1 g2 =>
        have q := pure_right (r _ List.mem_cons_self)
        exact .cons ⟨g1.1, (dq_beside hp _ _ q.1 q.2 g1.2.1).grd, stT_grd (stT_hide hp (r _ List.mem_cons_self) g1.2.2)⟩ (ih (fun d hd => r d (List.mem_cons_of_mem _ hd)) g2)
  exact go r h5
theorem turned_pairs {us us' : List V} {ds : List PyData} (hd : DQs K J us ds) (st : Sts K J us ds) (p : us'.Perm us) : ∃ ds' : List PyData, ds'.Perm ds ∧ DQs K J us' ds' ∧ Sts K J us' ds' := by
  have l := hd.len
  obtain ⟨L', e, pL⟩ := perm_map_inv p.symm (L := us.zip ds) (f := Prod.fst) (List.map_fst_zip (Nat.le_of_eq l)).symm
  have key : ∀ (i : Nat) (u : V) (d : PyData), us'[i]? = some u → (L'.map Prod.snd)[i]? = some d → ∃ j, us[j]? = some u ∧ ds[j]? = some d := fun i u d hu hd' => by
    rw [e, List.getElem?_map] at hu
    rw [List.getElem?_map] at hd'
    obtain ⟨x, hx, rfl⟩ := Option.map_eq_some_iff.mp hu
    rw [hx] at hd'
    cases hd'
    obtain ⟨j, hj⟩ := List.getElem?_of_mem (pL.mem_iff.mp (List.mem_of_getElem? hx))
    rw [List.getElem?_zip_eq_some] at hj
    exact ⟨j, hj.1, hj.2⟩
  refine ⟨L'.map Prod.snd, ?_, dqs_by (by rw [e, List.length_map, List.length_map]) fun i u d hu hd' => ?_, fun i u d hu hd' => ?_⟩
  · have := pL.map Prod.snd
    rw [List.map_snd_zip (Nat.le_of_eq l.symm)] at this
    exact this
  · obtain ⟨j, h1, h2⟩ := key i u d hu hd'
    obtain ⟨d', e1, e2⟩ := hd.at h1
    rw [h2] at e1
    cases e1
    exact e2
  · obtain ⟨j, h1, h2⟩ := key i u d hu hd'
    exact st j u d h1 h2
theorem split_if {b : Bool} {A G : Hp → Prop} {P : Hp → Prop} (h : ∀ J, P J → G J) (ht : b = true → (∀ J, P J → G J) → ∀ J, P J → A J) : ∀ J, P J → if b = true then A J else G J := fun J p => by
  cases b with
  | true => exact iteT (ht rfl h J p)
  | false => exact iteF (h J p)
theorem split_if2 {b : Bool} {A G : Option V → Option V → Hp → Prop} {P : Hp → Prop} (h : ∀ z w J, P J → G z w J) (ht : b = true → (∀ z w J, P J → G z w J) → ∀ z w J, P J → A z w J) : ∀ z w J, P J → if b = true then A z w J else G z w J := fun z w J p => by
  cases b with
  | true => exact iteT (ht rfl h z w J p)
  | false => exact iteF (h z w J p)
end
end K1
/-! check_book, check_stamp, has_seen, are_apart, stand_apart, check_room -/
namespace K1
open PySem L2 PySem.Spec PyProof.Rows RZ
section
variable {P : Program} {w : World} {K : PySem.W.Frag} {mg : Str → Option Value} {base : Heap} {C : Addr} {c : Nat → Addr}
def spCkB (K : PySem.W.Frag) (C Cb : Addr) : Sp := fun vs H Q E => (∃ p ds, vs = [.ref p] ∧ BookAt K C H p ds ∧ Q .non H) ∨ ∃ i : Int, vs = [.int i] ∧ ∀ H' dd, Same H H' → H' dd = some (.xd [("told", .int i)]) → E (.ref Cb) (some dd) H'
theorem sc_ckB : FnScope ["book"] ["book"] (defScope (top 41)) := ⟨rfl, rfl, rfl, by decide +kernel, rfl, by decide +kernel, by decide +kernel⟩
theorem cl_ckB (T : All K mg) (W : BkAll K mg C c) : ClX P w K mg base 10 "check_book" ["book"] (spCkB K C (c 1)) := by
  obtain ⟨g, fd, D⟩ := T.dn 41 _ _ rfl
  obtain ⟨fb, Rb⟩ := W.Rb
  refine D.clX (D.fn.okX sc_ckB (fun vs H Q E h => ?_) (fun cdv A outer s H vs Q E hr h => ?_))
  · rcases h with ⟨p, ds, rfl, _⟩ | ⟨i, rfl, _⟩
    · rfl
    · rfl
  · refine ⟨_, pss_one (ps_if (pt_not (pt_val (pe_callB call_isi (by rfl) T.bi.isi (by decide +kernel) (pa_cons (pv 0) (pa_cons (pe_glob (v := .ref C) rfl W.B.mgC rfl) pa_nil))))) (pss_one (ps_raise rfl (takes_of rfl rfl rfl rfl) (pmk_err Rb hr (by decide) (pa_cons (pv 0) pa_nil)))) pss_nil), ?_⟩
    rcases h with ⟨p, ds, rfl, b, k⟩ | ⟨i, rfl, k⟩
    · obtain ⟨⟨dx, rA, tA, sA, lA, us, kvs, ss, h1, _⟩, _⟩ := b
      exact ⟨_, rfl, .ref p, .ref C, .ref C, .ref C, true, rfl, .own C, .base (.ins h1 W.B.cl W.Y.ha W.Y.hn W.Y.htk W.Y.hm), W.Y.kO, _, rfl, iteF k⟩
    · exact ⟨_, rfl, .int i, .ref C, .type "int", .ref C, false, rfl, .own C, tyX_of (DQ.int (K := K) (H := H) i), W.noI, _, rfl, iteT ⟨_, rfl, _, rfl, fun H2 d2 S2 h2 => k H2 d2 S2 h2⟩⟩
def spCkS (K : PySem.W.Frag) (C Cs : Addr) : Sp := fun vs H Q E => ∃ p ds v d, vs = [.ref p, v] ∧ BookAt K C H p ds ∧ DQ K H v d ∧ okOr Cs (hasD ds d) v H E (∀ H', Same H H' → Q .non H')
theorem sc_ckS : FnScope ["book", "stamp"] ["book", "stamp"] (defScope (top 42)) := ⟨rfl, rfl, rfl, by decide +kernel, rfl, by decide +kernel, by decide +kernel⟩
theorem cl_ckS (T : All K mg) (W : BkAll K mg C c) : ClX P w K mg base 10 "check_stamp" ["book", "stamp"] (spCkS K C (c 6)) := by
  obtain ⟨g, fd, D⟩ := T.dn 42 _ _ rfl
  obtain ⟨fs, Rs⟩ := W.Rs
  obtain ⟨fh, fdh, Fh, bh, sh, ih⟩ := W.has
  have GO : FnOk P w K mg base CX0 4 fh fdh ["self", "x"] (spHas K C) := ok_has Fh T W.B
  refine D.clX (D.fn.okX sc_ckS (fun vs H Q E h => ?_) (fun cdv A outer s H vs Q E hr h => ?_))
  · obtain ⟨p, ds, v, d, rfl, _⟩ := h
    rfl
  · obtain ⟨p, ds, v, d, rfl, b, hd, k⟩ := h
    refine ⟨_, pss_one (ps_if (pt_cmpR (op_notInO GO (hr.mono (by decide)) bh sh ih) (pv 1) (pv 0) rfl) (pss_one (ps_raise rfl (takes_of rfl rfl rfl rfl) (pmk_err Rs hr (by decide) (pa_cons (pv 1) pa_nil)))) pss_nil), ?_⟩
    obtain ⟨⟨dx0, _, _, _, _, _, _, _, h10, _⟩, _⟩ := id b
    refine ⟨_, rfl, _, rfl, p, dx0, _, rfl, h10, p, ds, v, d, rfl, b, hd, fun H1 S1 => ⟨_, rfl, _, rfl, ?_⟩⟩
    cases e : hasD ds d with
    | true =>
      rw [e] at k
      exact iteF (k.1 rfl H1 S1)
    | false =>
      rw [e] at k
      exact iteT ⟨_, rfl, _, rfl, fun H2 d2 S2 h2 => k.2 rfl H2 d2 (S1.trans S2) h2⟩
theorem has_pair {K : PySem.W.Frag} {H : Hp} {ds : List PyData} {v : V} {d : PyData} (h : hasD ds d = true) (hv : DQ K H v d) : ∃ e b t j, atD ds (pairK d) = some e ∧ v = .ref b ∧ SqT K H b [.int t, .int j] ∧ d = .tuple [.int t, .int j] ∧ 0 ≤ j ∧ j ≤ 3 ∧ pairK d = [t, j] := by
  unfold hasD at h
  rw [Bool.and_eq_true] at h
  obtain ⟨b, t, j, rfl, hb, rfl, _, j0, j3⟩ := stamp_pair hv h.1
  obtain ⟨e, he⟩ := Option.isSome_iff_exists.mp h.2
  exact ⟨e, b, t, j, he, rfl, hb, rfl, j0, j3, rfl⟩
theorem eqv_pair (a b x y : Int) : PyData.eqv (.tuple [.int a, .int b]) (.tuple [.int x, .int y]) = decide (a = x ∧ b = y) := by
  rw [Bool.eq_iff_iff]
  simp [PyData.eqv, PyData.eqvAll]
end
end K1
set_option maxHeartbeats 4000000
/-! _law_right -/
namespace K1
open PySem L2 LamX
theorem pairs_nodict : ∀ ks : List (List Int), (PyData.list (ks.map pairD)).hasDict = false := fun ks => by
  have go : ∀ ks : List (List Int), PyData.hasDictAll (ks.map pairD) = false := by
    intro ks
    induction ks with
    | nil => rfl
    | cons k ks ih =>
      have one : ∀ l : List Int, PyData.hasDictAll (l.map .int) = false := by
        intro l
        induction l with
        | nil => rfl
        | cons i l ih =>
          show ((PyData.int i).hasDict || PyData.hasDictAll (l.map .int)) = false
          rw [ih]
          rfl
      show ((pairD k).hasDict || PyData.hasDictAll (ks.map pairD)) = false
      rw [ih, Bool.or_false]
      exact one k
  exact go ks
theorem nodict_deed {d : PyData} (h : deedD d = true) : d.hasDict = false := by
  have z := dict_deeds (ds := [d]) fun e he => by rw [List.mem_singleton.mp he]; exact h
  have y : (d.hasDict || false) = false := z
  rw [Bool.or_false] at y
  exact y
theorem top_of {es : List PyData} {i : Nat} {acc : List Int} {m : Int} (h1 : ∀ x ∈ acc, ∃ e ∈ es, handD e = i ∧ tmD e = x) (h2 : ∀ e ∈ es, handD e = i → tmD e ∈ acc) (hm : m ∈ 0 :: acc) (hle : ∀ y ∈ 0 :: acc, y ≤ m) : IsTop es i m := by
  refine ⟨?_, hle 0 List.mem_cons_self, fun e he c => hle _ (List.mem_cons_of_mem _ (h2 e he c))⟩
  rcases List.mem_cons.mp hm with z | z
  · exact .inl z
  · exact .inr (h1 m z)
theorem flds_no (m : Str) (h : (!decide (m = "_rows") && (!decide (m = "_table") && (!decide (m = "_stamps") && !decide (m = "_last")))) = true) {rA tA sA lA : Addr} : (flds rA tA sA lA).lookup m = none := by
  simp only [Bool.and_eq_true, Bool.not_eq_true', decide_eq_false_iff_not] at h
  exact fl_no h.1 h.2.1 h.2.2.1 h.2.2.2
theorem BookAt.ins {K : PySem.W.Frag} {C p : Addr} {H : Hp} {ds : List PyData} (b : BookAt K C H p ds) : ∃ dx rA tA sA lA, H p = some (.ins C dx (flds rA tA sA lA)) := by
  obtain ⟨⟨dx, rA, tA, sA, lA, _, _, _, h, _⟩, _⟩ := b
  exact ⟨dx, rA, tA, sA, lA, h⟩
theorem st_pair (d : PyData) : stOf d = pairD (keyD d) := rfl
theorem sts_pairs (es : List PyData) : es.map stOf = (es.map keyD).map pairD := by
  rw [List.map_map]
  rfl
theorem sts_shaped {es : List PyData} (h : ∀ d ∈ es, deedD d = true) : SeqAt.shaped (.list (es.map stOf)) = true ∧ (PyData.list (es.map stOf)).hasDict = false := by
  rw [sts_pairs]
  refine ⟨pairs_shaped fun k hk => ?_, pairs_nodict _⟩
  obtain ⟨d, hd, rfl⟩ := List.mem_map.mp hk
  obtain ⟨t, j, x, r, hk, _⟩ := deed_pure (h d hd)
  exact ⟨t, j, hk⟩
theorem pairK_st {d : PyData} (h : deedD d = true) : pairK (stOf d) = keyD d := by
  obtain ⟨t, j, x, r, hk, _⟩ := deed_pure h
  unfold stOf
  rw [hk]
  rfl
theorem has_st {es : List PyData} {d : PyData} (nd : (es.map keyD).Nodup) (h : deedD d = true) (hd : d ∈ es) : hasD es (stOf d) = true ∧ atD es (pairK (stOf d)) = some d := by
  have e : atD es (pairK (stOf d)) = some d := by
    rw [pairK_st h]
    exact at_of nd hd
  refine ⟨?_, e⟩
  unfold hasD
  rw [e, st_stamp h]
  rfl
section
variable {P : Program} {w : World} {K : PySem.W.Frag} {mg : Str → Option Value} {base : Heap} {C : Addr} {c : Nat → Addr}
end
end K1
namespace K1
open PySem L2 LamX
/-- a def that may raise, and never does here -/
theorem pe_clN {X : Cx} {k m : Nat} {x : Str} {ps : List Str} {sp : Sp} {e : Expr} {es : List Expr} {t : TA} {p pos : Pos} (C : ClX X.prog X.w X.K X.mg X.base k x ps sp) (hr : Room m X.A) (hk : k ≤ m) (ha : PA X (e :: es) t) (hg : Gl X x := by rfl) (hdb : (x == ("__debug__" : Str)) = false := by decide)
    (he : starEach (e :: es) X.env = (false, eval e X.env) :: starEach es X.env := by rfl) (hpl : (backTo pos (starEach es X.env)).any (·.1) = false := by rfl) : PE X (.Call (.Name x p) (e :: es) [] pos) (tCallS sp (fun _ => E0) t) := by
  obtain ⟨g, fd, F, hm, hk', hb⟩ := C
  exact pe_callS F (hr.mono hk) hg hm hk' hb (fun σ => passN) ha hdb he hpl
theorem shows_bl {K : PySem.W.Frag} {H : Hp} (b : Bool) : Shows K H (.bl b) (.bool b) := by
  cases b with
  | true => exact shows_of (.bl true) (k := 0) (W := 14) ⟨by decide, by decide, by decide, by decide +kernel⟩ (by decide) (by decide) (fun _ => rfl)
  | false => exact shows_of (.bl false) (k := 0) (W := 14) ⟨by decide, by decide, by decide, by decide +kernel⟩ (by decide) (by decide) (fun _ => rfl)
/-- deeds in a list, beside a book of them -/
structure Deeds (K : PySem.W.Frag) (H : Hp) (us : List V) (ds : List PyData) : Prop where
  dq : DQs K H us ds
  st : Sts K H us ds
  ok : OkD ds
theorem Deeds.to {K : PySem.W.Frag} {H H' : Hp} {us : List V} {ds : List PyData} (h : Deeds K H us ds) (s : Same H H') : Deeds K H' us ds := ⟨h.dq.to s, h.st.to s, h.ok⟩
theorem Deeds.get {K : PySem.W.Frag} {H : Hp} {us : List V} {ds : List PyData} (h : Deeds K H us ds) {i : Nat} {u : V} (hu : us[i]? = some u) : ∃ d, ds[i]? = some d ∧ d ∈ ds ∧ deedD d = true ∧ DQ K H u d ∧ StT K H u d := by
  obtain ⟨d, hd, hq⟩ := h.dq.at hu
  have hm := List.mem_of_getElem? hd
  exact ⟨d, hd, hm, h.ok.right d hm, hq, h.st i u d hu hd⟩
theorem stT_stamp {K : PySem.W.Frag} {H : Hp} {v : V} {d : PyData} (h : StT K H v d) : ∃ a s x y, v = .ref a ∧ SqT K H a [.ref s, x, y] ∧ DQ K H (.ref s) (stOf d) := by
  obtain ⟨a, s, x, y, t, j, rfl, h1, h2, h3, _⟩ := h
  exact ⟨a, s, x, y, rfl, h1, st_dq h2 h3⟩
theorem hid_into {a : Addr} {J : Hp} {o : HO} : Same (hid a J) (upd J a o) := fun b u e => by
  obtain ⟨h1, h2⟩ := hid_at e
  rw [upd_ne h1]
  exact h2
theorem Deeds.its {K : PySem.W.Frag} {H : Hp} {us : List V} {ds : List PyData} {a : Addr} (h : Deeds K H us ds) (ha : SqL K H a us) : Its K H (.ref a) ds := ⟨a, us, rfl, .inl ha, h.dq, h.st⟩
theorem Deeds.itsT {K : PySem.W.Frag} {H : Hp} {us : List V} {ds : List PyData} {a : Addr} (h : Deeds K H us ds) (ha : SqT K H a us) : Its K H (.ref a) ds := ⟨a, us, rfl, .inr ha, h.dq, h.st⟩
/-- Book(some) -/
theorem make_list {K : PySem.W.Frag} {C x dx a : Addr} {J : Hp} {us : List V} {ds : List PyData} {Q : VK} {E : XK} {Cb Cm Cc Cu : Addr} (nx : J x = none) (nd : J dx = none) (h : Deeds K J us ds) (ha : SqL K J a us) (few : ds.length ≤ 60)
    (k : ∀ H' es, Same J H' → BookAt K C H' x es → (∀ a us, J a = some (.lst us) → BookAt K C (hid a H') x es) → es.Perm ds → UpD es → Q .non H') :
    spBook K C Cb Cm Cc Cu [.ref x, .ref a] (upd (upd J dx (.own x)) x (.ins C dx [])) Q E :=
  book_right (d := .list ds) nx nd (.lst ha h.dq) rfl rfl (h.its ha) h.ok.right h.ok.nd few (fun es p u => (h.ok.perm p).good u) k
theorem st_keys {es : List PyData} : es.map stOf = (es.map keyD).map pairD := by
  rw [List.map_map]
  rfl
theorem up_keys {es : List PyData} (u : UpD es) : (es.map keyD).Pairwise lt1000 := List.pairwise_map.mpr u
theorem cut_to {us : List V} {n : Nat} (h : n ≤ us.length) : cutV us none (some (n : Int)) = us.take n := by
  unfold cutV
  rw [HT.sIx_none, HT.sIx_nat, List.drop_zero, Nat.sub_zero, Nat.min_eq_left h]
theorem cut_at {us : List V} {n : Nat} (h : n ≤ us.length) : cutV us (some (n : Int)) none = us.drop n := by
  unfold cutV
  rw [HT.sIx_none, HT.sIx_nat, Nat.min_eq_left h, List.take_of_length_le (by rw [List.length_drop]; omega)]
theorem Sts.take {K : PySem.W.Frag} {H : Hp} {us : List V} {ds : List PyData} (h : Sts K H us ds) (n : Nat) : Sts K H (us.take n) (ds.take n) := fun i u e hu he => by
  have hi := (List.getElem?_eq_some_iff.mp hu).1
  rw [List.length_take] at hi
  rw [List.getElem?_take_of_lt (by omega)] at hu he
  exact h i u e hu he
theorem Sts.drop {K : PySem.W.Frag} {H : Hp} {us : List V} {ds : List PyData} (h : Sts K H us ds) (n : Nat) : Sts K H (us.drop n) (ds.drop n) := fun i u e hu he => by
  rw [List.getElem?_drop] at hu he
  exact h _ u e hu he
theorem Deeds.by {K : PySem.W.Frag} {H : Hp} {us us' : List V} {ds ds' : List PyData} (h : Deeds K H us ds) (hq : DQs K H us' ds') (pm : ds'.Perm ds) (pair : ∀ (i : Nat) (u : V) (e : PyData), us'[i]? = some u → ds'[i]? = some e → ∃ j : Nat, us[j]? = some u ∧ ds[j]? = some e) : Deeds K H us' ds' :=
  ⟨hq, fun i u e hu he => by
    obtain ⟨j, h1, h2⟩ := pair i u e hu he
    exact h.st j u e h1 h2, h.ok.perm pm⟩
theorem Deeds.take {K : PySem.W.Frag} {H : Hp} {us : List V} {ds : List PyData} (h : Deeds K H us ds) (u : UpD ds) (n : Nat) : Deeds K H (us.take n) (ds.take n) := ⟨h.dq.take n, h.st.take n, h.ok.take u n⟩
theorem Deeds.of {K : PySem.W.Frag} {H : Hp} {us us' : List V} {ds ds' : List PyData} (h : Deeds K H us ds) (hl : us'.length = ds'.length) (pm : ds'.Perm ds) (pair : ∀ (i : Nat) (u : V) (e : PyData), us'[i]? = some u → ds'[i]? = some e → ∃ j : Nat, us[j]? = some u ∧ ds[j]? = some e) : Deeds K H us' ds' :=
  h.by (dqs_by hl fun i u e hu he => by
    obtain ⟨j, h1, h2⟩ := pair i u e hu he
    obtain ⟨d', e1, e2⟩ := h.dq.at h1
    rw [h2] at e1
    cases e1
    exact e2) pm pair
/-- the greatest time of all -/
def IsMax (es : List PyData) (m : Int) : Prop := (m = 0 ∨ ∃ e ∈ es, tmD e = m) ∧ 0 ≤ m ∧ ∀ e ∈ es, tmD e ≤ m
def hidL (l : List Addr) (J : Hp) : Hp := fun b => if b ∈ l then none else J b
theorem hidL_in (l : List Addr) (J : Hp) : Same (hidL l J) J := fun b u e => by
  unfold hidL at e
  split at e
  · cases e
  · exact e
theorem hidL_mono {l : List Addr} {A B : Hp} (s : Same A B) : Same (hidL l A) (hidL l B) := fun b u e => by
  unfold hidL at e ⊢
  split at e
  · cases e
  · rename_i c
    rw [if_neg c]
    exact s b u e
theorem hidL_of {l : List Addr} {J : Hp} {b : Addr} {u : HO} (h : J b = some u) (n : b ∉ l) : hidL l J b = some u := by
  unfold hidL
  rw [if_neg n]
  exact h
theorem hidL_upd {l : List Addr} {J : Hp} {a : Addr} {o : HO} (h : a ∈ l) : hidL l (upd J a o) = hidL l J := by
  funext b
  unfold hidL
  by_cases c : b ∈ l
  · rw [if_pos c, if_pos c]
  · rw [if_neg c, if_neg c, upd_ne (fun z => c (by rw [z]; exact h))]
theorem hidL_hid {l : List Addr} {J : Hp} {a : Addr} (h : a ∈ l) : Same (hidL l J) (hid a J) := fun b u e => by
  unfold hidL at e
  split at e
  · cases e
  · rename_i c
    rw [hid_ne (fun z => c (by rw [z]; exact h))]
    exact e
theorem hidL_bt {l : List Addr} {A B : Hp} {p : Addr} (h : p ∈ l) (b : Bt p A B) : Same (hidL l A) (hidL l B) := fun x u e => by
  unfold hidL at e ⊢
  split at e
  · cases e
  · rename_i c
    rw [if_neg c]
    exact (hid_same p B) _ _ (b.same x u (by rw [hid_ne (fun z => c (by rw [z]; exact h))]; exact e))
theorem IsMax.of {ds es : List PyData} {m : Int} (pm : es.Perm ds) (hm : m ∈ 0 :: ds.map tmD) (hle : ∀ y ∈ 0 :: ds.map tmD, y ≤ m) : IsMax es m := by
  refine ⟨?_, hle 0 List.mem_cons_self, fun e he => hle _ (List.mem_cons_of_mem _ (List.mem_map_of_mem (pm.mem_iff.mp he)))⟩
  rcases List.mem_cons.mp hm with z | z
  · exact .inl z
  · obtain ⟨e, he, z⟩ := List.mem_map.mp z
    exact .inr ⟨e, pm.mem_iff.mpr he, z⟩
theorem st_eq {d : PyData} (rd : deedD d = true) : stOf d = .tuple [.int (tmD d), .int (handD d : Int)] := by
  unfold stOf
  rw [key_of rd]
  rfl
theorem nodict_st {d : PyData} (rd : deedD d = true) : (stOf d).hasDict = false := by
  rw [st_eq rd]
  rfl
theorem shaped_st {d : PyData} (rd : deedD d = true) : SeqAt.shaped (stOf d) = true := by
  rw [st_eq rd]
  exact shaped_pair _ _
theorem StT.key {K : PySem.W.Frag} {H : Hp} {v : V} {d : PyData} (h : StT K H v d) (rd : deedD d = true) : ∃ a s x y, v = .ref a ∧ SqT K H a [.ref s, x, y] ∧ SqT K H s [.int (tmD d), .int (handD d : Int)] := by
  obtain ⟨a, s, x, y, rfl, h1, h2⟩ := stT_stamp h
  have es : stOf d = .tuple [.int (tmD d), .int (handD d : Int)] := by
    unfold stOf
    rw [key_of rd]
    rfl
  rw [es] at h2
  obtain ⟨sa, e, p1⟩ := DQ.pair h2
  cases e
  exact ⟨a, s, x, y, rfl, h1, p1⟩
def ofH (n : Nat) (ds : List PyData) : List Int := (ds.filter fun d => decide (handD d = n)).map tmD
theorem ofH_snoc {n : Nat} {ds : List PyData} {d : PyData} : ofH n (ds ++ [d]) = if handD d = n then ofH n ds ++ [tmD d] else ofH n ds := by
  unfold ofH
  rw [List.filter_append]
  by_cases c : handD d = n
  · rw [if_pos c, List.filter_cons_of_pos (by simpa using c), List.map_append]
    rfl
  · rw [if_neg c, List.filter_cons_of_neg (by simpa using c)]
    simp
theorem ofH_max {ds es : List PyData} {m : Int} {n : Nat} (h : OkD es) (u : UpD es) (pm : es.Perm ds) (hn : n < 4) (hm : m ∈ 0 :: ofH n ds) (hle : ∀ y ∈ 0 :: ofH n ds, y ≤ m) : m = (lastD es l0).getD n 0 := by
  obtain ⟨a1, a2, a3⟩ := top_all u h.right hn
  have mem : ∀ e ∈ es, handD e = n → tmD e ∈ ofH n ds := fun e he c => List.mem_map.mpr ⟨e, List.mem_filter.mpr ⟨pm.mem_iff.mp he, decide_eq_true c⟩, rfl⟩
  have le1 : (lastD es l0).getD n 0 ≤ m := by
    rcases a1 with z | ⟨e, he, c, z⟩
    · rw [z]
      exact hle 0 List.mem_cons_self
    · rw [← z]
      exact hle _ (List.mem_cons_of_mem _ (mem e he c))
  have le2 : m ≤ (lastD es l0).getD n 0 := by
    rcases List.mem_cons.mp hm with z | z
    · rw [z]
      exact a2
    · obtain ⟨e, he, z⟩ := List.mem_map.mp z
      obtain ⟨h1, h2⟩ := List.mem_filter.mp he
      have h2' : handD e = n := of_decide_eq_true h2
      rw [← z]
      exact a3 e (pm.mem_iff.mpr h1) h2'
  omega
theorem last_range {es : List PyData} : (List.range 4).map (fun i => V.int ((lastD es l0).getD i 0)) = (lastD es l0).map V.int := by
  obtain ⟨a, b, c, d, e⟩ := list4 (last4 es)
  rw [e]
  rfl
theorem Kp.fresh {Ts : List (Addr × Str)} {p a : Addr} {H J : Hp} (k : Kp Ts p H J) (n : J a = none) : grd p H a = none ∧ a ≠ p := by
  refine ⟨?_, fun c => ?_⟩
  · cases e : grd p H a with
    | none => rfl
    | some u =>
      have := grd_in p J _ _ (k.g _ _ e)
      rw [n] at this
      cases this
  · obtain ⟨y, z, e, _⟩ := k.s
    rw [← c, n] at e
    cases e
/-- a list of the law's own is written to -/
theorem Kp.over {Ts : List (Addr × Str)} {p a : Addr} {H J : Hp} {us us' : List V} (k : Kp Ts p H J) (n : grd p H a = none ∧ a ≠ p) (h : J a = some (.lst us)) : Kp Ts p H (upd J a (.lst us')) := by
  obtain ⟨n, nap⟩ := n
  refine ⟨fun b u hb => ?_, ?_, fun x hx => ?_⟩
  · have hJ := k.g b u hb
    have nba : b ≠ a := fun c => by
      rw [c, n] at hb
      cases hb
    obtain ⟨h1, h2⟩ := nt_at hJ
    obtain ⟨h3, h4⟩ := hid_at h1
    exact grd_of (by rw [upd_ne nba]; exact h4) h3 h2
  · obtain ⟨y', z', e', r⟩ := k.s
    exact ⟨y', z', by rw [upd_ne (Ne.symm nap)]; exact e', r⟩
  · obtain ⟨ps, h1, h2, h3⟩ := k.t x hx
    refine ⟨ps, by rw [upd_ne (ne_of h1 h (by intro z; cases z))]; exact h1, h2, fun pos cv hc => ?_⟩
    obtain ⟨c, e1, e2⟩ := h3 pos cv hc
    exact ⟨c, e1, by rw [upd_ne (ne_of e2 h (by unfold CodeO; intro z; cases z))]; exact e2⟩
theorem shows_non {K : PySem.W.Frag} {H : Hp} : Shows K H .non .none := shows_of .non nice_none (by decide) (by decide) fun _ => rfl
/-- a promise told once, asked more than once -/
theorem viaTE {te : TE} {σ : St} {H : Hp} {Q : VK} (Pr : V → Hp → Prop) (k : ∀ u J, Pr u J → Q u J) (h : (∀ u J, Pr u J → Q u J) → te σ H Q) : te σ H Q := h k
theorem hidL_cons (a : Addr) (l : List Addr) (J : Hp) : hidL (a :: l) J = hid a (hidL l J) := by
  funext b
  unfold hidL
  by_cases c : b = a
  · rw [if_pos (by rw [c]; exact List.mem_cons_self), c]
    unfold hid
    rw [if_pos rfl]
  · rw [hid_ne c]
    by_cases d : b ∈ l
    · rw [if_pos d, if_pos (List.mem_cons_of_mem _ d)]
    · rw [if_neg d, if_neg (fun z => (List.mem_cons.mp z).elim c d)]
theorem hidL_one (p : Addr) (J : Hp) : hidL [p] J = hid p J := by
  rw [hidL_cons]
  rfl
/-- flat data stands beside lists -/
theorem Flat.hideL {K : PySem.W.Frag} {J : Hp} {p : Addr} {d : PyData} {v : V} (f : Flat d) (h : DQ K (hid p J) v d) : ∀ {l : List Addr}, (∀ a ∈ l, a ≠ p ∧ ∃ us, J a = some (.lst us)) → DQ K (hidL (l ++ [p]) J) v d
  | [], _ => by
    show DQ K (hidL [p] J) v d
    rw [hidL_one]
    exact h
  | a :: l, hl => by
    have ih := Flat.hideL f h (l := l) fun b hb => hl b (List.mem_cons_of_mem _ hb)
    obtain ⟨nap, us, hus⟩ := hl a List.mem_cons_self
    show DQ K (hidL (a :: (l ++ [p])) J) v d
    rw [hidL_cons]
    by_cases c : a ∈ l ++ [p]
    · have : hid a (hidL (l ++ [p]) J) = hidL (l ++ [p]) J := by
        funext b
        by_cases e : b = a
        · rw [e]
          unfold hid hidL
          rw [if_pos rfl, if_pos c]
        · rw [hid_ne e]
      rw [this]
      exact ih
    · exact Flat.hide (hidL_of hus c) d v f ih
theorem seq_nt {K : PySem.W.Frag} {a : Addr} {H : Hp} {xs : List V} (h : SqL K H a xs) : SqL K (nt H) a xs := by
  rcases h with (h | ⟨o, h⟩) | h
  · exact .inl (.inl (nt_of h (fun ps z => by cases z)))
  · exact .inl (.inr ⟨o, nt_of h (fun ps z => by cases z)⟩)
  · exact .inr h
theorem tup_nt {K : PySem.W.Frag} {a : Addr} {H : Hp} {xs : List V} (h : SqT K H a xs) : SqT K (nt H) a xs := by
  rcases h with (h | ⟨o, h⟩) | h
  · exact .inl (.inl (nt_of h (fun ps z => by cases z)))
  · exact .inl (.inr ⟨o, nt_of h (fun ps z => by cases z)⟩)
  · exact .inr h
mutual
theorem dq_nt {K : PySem.W.Frag} {H : Hp} : ∀ (d : PyData) (v : V), DQ K H v d → DQ K (nt H) v d
  | .none, _, h => by
    cases h
    exact .non
  | .bool b, _, h => by
    cases h
    exact .bl b
  | .int i, _, h => by
    cases h
    exact .int i
  | .str x, _, h => by
    cases h with
    | str _ h => exact .str x h
  | .list ds, _, h => by
    cases h with
    | lst h1 h2 => exact .lst (seq_nt h1) (dqs_nt ds _ h2)
  | .tuple ds, _, h => by
    cases h with
    | tup h1 h2 => exact .tup (tup_nt h1) (dqs_nt ds _ h2)
  | .dict [], _, h => by
    cases h with
    | dct h => exact .dct (nt_of h (fun ps z => by cases z))
  | .dict (_ :: _), _, h => by cases h
theorem dqs_nt {K : PySem.W.Frag} {H : Hp} : ∀ (ds : List PyData) (vs : List V), DQs K H vs ds → DQs K (nt H) vs ds
  | [], _, h => by
    cases h
    exact .nil
  | d :: ds, _, h => by
    cases h with
    | cons h1 h2 => exact .cons (dq_nt d _ h1) (dqs_nt ds _ h2)
end
theorem StT.nt {K : PySem.W.Frag} {H : Hp} {v : V} {d : PyData} (h : StT K H v d) : StT K (nt H) v d := by
  obtain ⟨b, s, x, y, t, j, e, h1, h2, h3, e', f', h4, h5, h6⟩ := h
  exact ⟨b, s, x, y, t, j, e, tup_nt h1, nt_of h2 (fun ps z => by cases z), h3, e', f', h4, dq_nt _ _ h5, dq_nt _ _ h6⟩
/-- a book is no table -/
theorem BookAt.nt {K : PySem.W.Frag} {C q : Addr} {H : Hp} {ds : List PyData} (b : BookAt K C H q ds) : BookAt K C (nt H) q ds := by
  obtain ⟨⟨dx, rA, tA, sA, lA, us, kvs, ss, h1, h2, h3, h4, h5, h6, h7, h8, h9⟩, r, f, u, g⟩ := b
  exact ⟨⟨dx, rA, tA, sA, lA, us, kvs, ss, nt_of h1 (fun ps z => by cases z), nt_of h2 (fun ps z => by cases z), dqs_nt _ _ h3, nt_of h4 (fun ps z => by cases z), paired_imp (fun _ _ r => ⟨r.1, dq_nt _ _ r.2.1, r.2.2.nt⟩) h5, nt_of h6 (fun ps z => by cases z), dqs_nt _ _ h7, nt_of h8 (fun ps z => by cases z), fun i u e hu he => (h9 i u e hu he).nt⟩, r, f, u, g⟩
theorem BookAt.ext {K : PySem.W.Frag} {C q : Addr} {H H' : Hp} {ds : List PyData} (b : BookAt K C H q ds) (s : ExtN H H') : BookAt K C H' q ds := b.nt.to ((nt_ext s).trans (nt_in H'))
theorem DQ.extN {K : PySem.W.Frag} {H H' : Hp} {v : V} {d : PyData} (h : DQ K H v d) (s : ExtN H H') : DQ K H' v d := (dq_nt d v h).to ((nt_ext s).trans (nt_in H'))
theorem nil_step {σ : St} {H : Hp} {Q : List V → Hp → Prop} (h : Q [] H) : tNil σ H Q := h
end K1
/-! a != b, of two objects whose class has an own __eq__ and no own __ne__ -/
namespace K1
open PySem L2 PySem.Spec PyProof.Rows RZ
section
variable {prog : Program} {w : World} {A : Around} {E : Value → Shared → Prop} {s : Shared} {K : PySem.W.Frag} {x y C f : Addr} {ox oy : Obj} {od oe : Option Obj}
/-- the answer turned -/
abbrev Turned (Q : Value → Shared → Prop) : Value → Shared → Prop := fun v s' => ∃ b, v = Value.bool b ∧ Q (.bool !b) s'
theorem ne_slot (X : K.In s.heap) (I : PySem.W.InstAt s.heap x ox C od) (hs : PySem.W.findIn K (.ref C) "__eq__" = some (some (.ref f))) (hf : PySem.W.isFn K (.ref f) = true) (hu : A.units < cLine) {Q : Fin → Shared → Prop}
    (h : wpAny (model prog w) A (call (.ref f) [.ref x, .ref y]) (Turned fun v => Q (.done (.ret v))) E s) : wpAny (model prog w) A (Builtin.«object.__ne__» ⟨[.ref x, .ref y], []⟩) Q E s := by
  have back : wpAny (model prog w) A (callSpecialIfBound? (.ref x) "__eq__" [.ref y]) (fun r s' => ∃ b, r = some (.bool b) ∧ Q (.done (.ret (.bool !b))) s') E s :=
    PySem.W.ifBound_K X I hs hf (wpAny_mono h (fun v s' ⟨b, e, q⟩ => ⟨b, by rw [e], q⟩) fun _ _ z => z)
  unfold Builtin.«object.__ne__»
  repeat (first
    | with_reducible refine wpAny_cRoomFor hu ?_
    | (refine wpAny_bind (m := callSpecialIfBound? (.ref x) (Str.ofString "__eq__") [.ref y]) (wpAny_mono back (fun r s' hr => ?_) fun _ _ z => z)
       obtain ⟨b, rfl, q⟩ := hr
       repeat (first | exact q | exact wpAny_pure q | exact wpAny_truthy_bool q | (refine wpAny_bind (wpAny_truthy_bool ?_)) | wp_step))
    | wp_step)
theorem ne_own (X : K.In s.heap) (I : PySem.W.InstAt s.heap x ox C od) (J : PySem.W.InstAt s.heap y oy C oe) (hn : PySem.W.findIn K (.ref C) "__ne__" = some (some (.builtin "object.__ne__"))) (hs : PySem.W.findIn K (.ref C) "__eq__" = some (some (.ref f)))
    (hf : PySem.W.isFn K (.ref f) = true) (hm : PySem.W.mroIn K C (.type "object") = some true) (hu : A.units + 1 < cLine) {Q : Value → Shared → Prop}
    (h : wpAny (model prog w) A.in1 (call (.ref f) [.ref x, .ref y]) (Turned Q) E s) : wpAny (model prog w) A (richCompare .NotEq (.ref x) (.ref y)) Q E s := by
  have FB := PySem.F.cmp_object
  have sub : PySem.W.Looks (model prog w) s.heap (isInstance (.ref x) (.type "object")) true := I.type.andThen (PySem.W.looks_mroIn X hm)
  have run : wpAny (model prog w) A (call (.builtin "object.__ne__") [.ref x, .ref y]) (fun v s' => ∃ b, v = Value.bool b ∧ Q v s') E s := by
    refine wpAny_call (codeAny_call_builtin FB.ne.plain F.cmpEntry_ne (@PySem.W.check_slot (model prog w) _ _ s "object.__ne__" "object" "__ne__" (.ref x) [.ref y] [] _ F.cmpKind_ne F.cmpSplit_ne sub (F.cmpArgs_ne _ _) ?_))
    exact ne_slot (A := A.in1) X I hs hf hu (wpAny_mono h (fun v s' ⟨b, e, q⟩ => ⟨b, e, _, rfl, q⟩) fun _ _ z => z)
  have one : wpAny (model prog w) A (tryCompare (.ref x) "__ne__" (.ref y)) (fun r s' => ∃ v, r = some v ∧ Q v s') E s := by
    unfold tryCompare
    simp only [callSpecialIfBound?, bindSpecialIfBound?]
    have fin : wpAny (model prog w) A (call (.builtin "object.__ne__") ([.ref x] ++ [.ref y]) >>= fun v => pure (some v)) (fun r s' => ∃ b, r = some (Value.bool b) ∧ Q (.bool b) s') E s :=
      wpAny_bind (wpAny_mono run (fun v s' ⟨b, e, q⟩ => wpAny_pure ⟨b, by rw [e], by rw [← e]; exact q⟩) fun _ _ z => z)
    refine wpAny_bind (wpAny_mono (Q := fun r s' => ∃ b, r = some (Value.bool b) ∧ Q (.bool b) s') ?_ (fun r s' ⟨b, e, q⟩ => ?_) fun _ _ z => z)
    · refine wpAny_holding (wpAny_bind (wpAny_bind (wpAny_bind (I.type.here ((PySem.W.looks_findIn X hn).here ?_)))))
      refine wpAny_bind (wpAny_askSetting (wpAny_ite ?_))
      rw [FB.ne.bind]
      split
      · exact wpAny_bind (wpAny_pure (wpAny_pure fin))
      · exact wpAny_tryCatch (wpAny_bind (wpAny_pure (wpAny_pure fin)))
    · subst e
      exact wpAny_pure ⟨_, rfl, q⟩
  unfold richCompare
  simp only [oneThing_ref]
  refine wpAny_holding (wpAny_bind (wpAny_cRoomFor (by omega) ?_))
  refine wpAny_bind (I.type.here (wpAny_bind (J.type.here ?_)))
  have same : (Value.ref C != Value.ref C) = false := by simp
  rw [same]
  simp only [Bool.false_eq_true, if_false]
  refine wpAny_bind (wpAny_pure ?_)
  simp only [Bool.false_eq_true, if_false]
  refine wpAny_bind (wpAny_mono one (fun r s' z => ?_) fun _ _ z => z)
  obtain ⟨v, rfl, hq⟩ := z
  exact wpAny_pure hq
end
/-! ### o != o -/
def rNeO (C : Addr) (sp : Sp) : R2 := fun x y H Q => ∃ a b dx dy fs gs, x = .ref a ∧ y = .ref b ∧ H a = some (.ins C dx fs) ∧ H b = some (.ins C dy gs) ∧ sp [.ref a, .ref b] H (fun v H' => ∃ c, v = .bl c ∧ Q (.bl (!c)) H') E0
theorem op_neO {X : Cx} {k : Nat} {f C : Addr} {fd : FuncData} {ps : List Str} {sp : Sp} (F : FnOk X.prog X.w X.K X.mg X.base CX0 k f fd ps sp) (hr : Room (k + 1) X.A) (hb : Binds X.K fd ps []) (hn : PySem.W.findIn X.K (.ref C) "__ne__" = some (some (.builtin "object.__ne__")))
    (hs : PySem.W.findIn X.K (.ref C) "__eq__" = some (some (.ref f))) (hf : PySem.W.isFn X.K (.ref f) = true) (hm : PySem.W.mroIn X.K C (.type "object") = some true) : OpR X (compareOp .NotEq) (rNeO C sp) := by
  intro pins s σ H x y v u Q I rx ry hq
  obtain ⟨a, b, dx, dy, fs, gs, rfl, rfl, ha, hb', q⟩ := hq
  cases rx
  cases ry
  obtain ⟨od, J⟩ := ins_look I ha
  obtain ⟨od', J'⟩ := ins_look I hb'
  show wpAny (model X.prog X.w) X.A (richCompare .NotEq (.ref a) (.ref b)) (EP X pins σ Q) X.xe s
  refine ne_own I.kIn J J' hn hs hf hm (by have := hr.units; omega) (wpAny_mono (run_fnA F hr.in1 rfl hb (fun pins H s e s' I c => pass0 pins σ H s e s' I c) I (.cons (rr _) (.cons (rr _) .nil)) q) (fun r s' z => ?_) fun _ _ z => z)
  obtain ⟨v', H', I', rv, c, rfl, q'⟩ := z
  cases rv
  exact ⟨c, rfl, _, H', I', rb _, q'⟩
end K1
namespace K1
open PySem L2 PySem.Spec PyProof.Rows RZ
def rMaxT (K : PySem.W.Frag) : List V → Hp → VK → Prop := fun vs H Q => ∃ (a : Addr) (n : Int) (ns : List Int), vs = [V.ref a] ∧ SqT K H a ((n :: ns).map V.int) ∧ ∀ m, m ∈ n :: ns → (∀ y ∈ n :: ns, y ≤ m) → Q (.int m) H
theorem fold_max : ∀ (ns : List Int) (n : Int), ns.foldl max n ∈ n :: ns ∧ ∀ y ∈ n :: ns, y ≤ ns.foldl max n
  | [], n => ⟨List.mem_singleton.mpr rfl, fun y hy => by rw [List.mem_singleton.mp hy]; exact Int.le_refl _⟩
  | a :: ns, n => by
    obtain ⟨h1, h2⟩ := fold_max ns (max n a)
    have e : (a :: ns).foldl max n = ns.foldl max (max n a) := rfl
    rw [e]
    refine ⟨?_, fun y hy => ?_⟩
    · rcases List.mem_cons.mp h1 with z | z
      · rw [z]
        by_cases c : n ≤ a
        · rw [Int.max_eq_right c]
          exact List.mem_cons_of_mem _ List.mem_cons_self
        · rw [Int.max_eq_left (by omega)]
          exact List.mem_cons_self
      · exact List.mem_cons_of_mem _ (List.mem_cons_of_mem _ z)
    · have hm := h2 (max n a) List.mem_cons_self
      rcases List.mem_cons.mp hy with z | z
      · rw [z]
        omega
      · rcases List.mem_cons.mp z with z | z
        · rw [z]
          omega
        · exact h2 y (List.mem_cons_of_mem _ z)
theorem cr_maxT {X : Cx} (hc : X.calm = true) (hu : X.A.units + 64 < cLine) : CallR X (.builtin "max") (rMaxT X.K) := by
  intro pins s σ H vs us Q I r h
  obtain ⟨a, n, ns, rfl, hs, q⟩ := h
  obtain ⟨its, rv, hl, _⟩ := I.tuple hs
  rw [Vals.ref1 r]
  have HH := PySem.W.HoldAll.of_ints (h := s.heap) rv.ints
  refine PySem.W.max_tuple_datum (α := Int) (I.ok.hd hc) hl (x := n) (xs := ns) HH (by show X.A.units + 1 + 0 < cLine; omega) fun i v h' tk hi hv hk => ?_
  obtain ⟨as, hv⟩ := hv
  have hv' : Reads h' v (.int (PySem.W.maxOf n ns)) as := hv
  obtain ⟨t, rfl⟩ : ∃ t, v = Value.int (PySem.W.maxOf n ns) t := by
    generalize PySem.W.maxOf n ns = M at hv'
    cases hv' with
    | int _ t => exact ⟨t, rfl⟩
  have e : PySem.W.maxOf n ns = ns.foldl max n := by
    unfold PySem.W.maxOf
    congr 1
    funext a y
    show (if decide (a < y) = true then y else a) = max a y
    by_cases c : a < y
    · rw [if_pos (decide_eq_true c), Int.max_eq_right (by omega)]
    · rw [if_neg (fun z => c (of_decide_eq_true z)), Int.max_eq_left (by omega)]
  rw [e]
  exact ⟨.int _, H, I.kept hk, ⟨_, rfl⟩, q _ (fold_max ns n).1 (fold_max ns n).2⟩
end K1
set_option maxHeartbeats 4000000
/-! with_deeds -/
namespace K1
open PySem L2 PySem.Spec PyProof.Rows RZ
section
variable {P : Program} {w : World} {K : PySem.W.Frag} {mg : Str → Option Value} {base : Heap} {C : Addr} {c : Nat → Addr}
/-- what comes of a list of deeds: the book, or what is told instead -/
def Comes (K : PySem.W.Frag) (C : Addr) (c : Nat → Addr) (H : Hp) (fs : List PyData) (Q : VK) (E : XK) : Prop :=
  (∀ i : Nat, badAt fs = some i → ∀ H' dd, Same H H' → H' dd = some (.xd [("told", .int i)]) → E (.ref (c 1)) (some dd) H') ∧
  (badAt fs = none → 60 < fs.length → ∀ H' dd, Same H H' → H' dd = some (.xd [("most", .int 60)]) → E (.ref (c 0)) (some dd) H') ∧
  ∀ es : List PyData, badAt fs = none → fs.length ≤ 60 → es.Perm fs → UpD es → (errC es es l0 = none → ∀ H' q, Same H H' → BookAt K C H' q es → (∀ a us, H a = some (.lst us) → BookAt K C (hid a H') q es) → Q (.ref q) H') ∧
    ∀ b e, errC es es l0 = some (b, e) → ∀ H' dd v', Same H H' → DQ K H' v' (stOf e) → H' dd = some (.xd [("told", v')]) → E (.ref (if b = true then c 2 else c 3)) (some dd) H'
theorem Comes.to {H J : Hp} {fs : List PyData} {Q : VK} {E : XK} (h : Comes K C c H fs Q E) (s : Same H J) : Comes K C c J fs Q E := by
  obtain ⟨h1, h2, h3⟩ := h
  refine ⟨fun i e H' dd S => h1 i e H' dd (s.trans S), fun e l H' dd S => h2 e l H' dd (s.trans S), fun es e l p u => ?_⟩
  obtain ⟨k, z⟩ := h3 es e l p u
  exact ⟨fun he H' q S b hh => k he H' q (s.trans S) b fun a us ha => hh a us (s _ _ ha), fun b e he H' dd v' S => z b e he H' dd v' (s.trans S)⟩
/-- Book(v), v a list of these -/
theorem comes_book {J : Hp} {x dx : Addr} {v : V} {d : PyData} {Q : VK} {E : XK} (nx : J x = none) (nd : J dx = none) (h : DQ K J v d) (hl : listD d = true) (len : (itemsD d).length ≤ 62) (its : badAt (itemsD d) = none → Its K J v (itemsD d)) (k : Comes K C c J (itemsD d) Q E) :
    spBook K C (c 1) (c 0) (c 2) (c 3) [.ref x, v] (upd (upd J dx (.own x)) x (.ins C dx [])) (fun v H2 => v = .non ∧ Q (.ref x) H2) E := by
  obtain ⟨k1, k2, k3⟩ := k
  refine book_gen nx nd h (fun _ => len) (fun _ e => its e) (fun z => by rw [hl] at z; cases z) (fun i _ hi => k1 i hi) (fun _ e l => k2 e l) fun es _ bn l p u => ⟨fun he H' S b hh => ⟨rfl, (k3 es bn l p u).1 he H' x S b hh⟩, (k3 es bn l p u).2⟩
def spWith (K : PySem.W.Frag) (C : Addr) (c : Nat → Addr) : Sp := fun vs H Q E => ∃ p ds v d, vs = [.ref p, v] ∧ BookAt K C H p ds ∧ DQ K H v d ∧
  (listD d = false → ∀ H' dd, Same H H' → H' dd = some (.xd [("told", .non)]) → E (.ref (c 1)) (some dd) H') ∧
  (listD d = true → (ds ++ itemsD d).length ≤ 62 ∧ (∃ a us, v = .ref a ∧ (SqL K H a us ∨ SqT K H a us) ∧ DQs K H us (itemsD d) ∧ (badAt (ds ++ itemsD d) = none → Sts K H us (itemsD d))) ∧ Comes K C c H (ds ++ itemsD d) Q E)
theorem sc_with : FnScope ["self", "more"] ["self", "more"] (defScope (inClass (top 40) 4)) := ⟨rfl, rfl, rfl, by decide +kernel, rfl, by decide +kernel, by decide +kernel⟩
theorem sts_app {H : Hp} {us vs : List V} {ds es : List PyData} (h1 : Sts K H us ds) (hl : us.length = ds.length) (h2 : Sts K H vs es) : Sts K H (us ++ vs) (ds ++ es) := fun i u e hu he => by
  by_cases c : i < us.length
  · rw [List.getElem?_append_left c] at hu
    rw [List.getElem?_append_left (by omega)] at he
    exact h1 i u e hu he
  · rw [List.getElem?_append_right (by omega)] at hu
    rw [List.getElem?_append_right (by omega), ← hl] at he
    exact h2 _ u e hu he
theorem ok_with {f : Addr} {fd : FuncData} (F : Fun K "with_deeds" "Book.with_deeds" (inClass (top 40) 4) f fd) (T : All K mg) (M2 : Nms2 mg) (W : BkAll K mg C c) : FnOk P w K mg base (L2.CX P w) 15 f fd ["self", "more"] (spWith K C c) := by
  obtain ⟨fI, fdI, aE, F0, MK, bI, _, _⟩ := W.ini
  have GI : FnOk P w K mg base (L2.CX P w) 13 fI fdI ["self", "deeds"] (spBook K C (c 1) (c 0) (c 2) (c 3)) := W.book T M2 F0
  obtain ⟨fb, Rb⟩ := W.Rb
  refine F.okX sc_with (fun vs H Q E h => ?_) (fun cdv A outer s H vs Q E hr h => ?_)
  · obtain ⟨p, ds, v, d, rfl, _⟩ := h
    rfl
  · obtain ⟨p, ds, v, d, rfl, b, hd, k0, k1⟩ := h
    refine ⟨_, pss_cons (ps_if (pt_not (pt_val (pe_cl (cl_listing T M2) hr (by decide) (pa_cons (pv 1) pa_nil)))) (pss_one (ps_raise rfl (takes_of rfl rfl rfl rfl) (pmk_err Rb hr (by decide) (pa_cons pe_non pa_nil)))) pss_nil)
      (pss_one (ps_ret (pe_makeS MK GI hr rfl W.B.mgC bI .nil (fun σ => passAt (takes_of rfl rfl rfl rfl) σ) (pa_cons (pe_op op_cat (pe_fld (pv 0) rfl) (pe_callTy call_list_of (by rfl) M2.list (by decide +kernel) (pa_cons (pv 1) pa_nil))) pa_nil)))), ?_⟩
    refine ⟨_, rfl, v, d, rfl, hd, fun H1 S1 => ⟨_, rfl, ?_⟩⟩
    cases eL : listD d with
    | false => exact iteT ⟨_, rfl, fun H2 dd S2 h2 => k0 eL H2 dd (S1.trans S2) h2⟩
    | true =>
      obtain ⟨len, ⟨a, us, rfl, hsq, hus, its⟩, co⟩ := k1 eL
      obtain ⟨⟨dx, rA, tA, sA, lA, rs, kvs, ss, h1, h2, h3, h4, h5, h6, h7, h8, h9⟩, _⟩ := b.to S1
      refine iteF ⟨_, rfl, p, C, dx, _, _, rfl, h1, W.B.cl, W.B.nR, fl_rows, _, rfl, a, us, rfl, hsq.imp (fun z => S1.seq z) (fun z => K0.seqT_same S1 z), fun l nl => ?_⟩
      have SL := K0.same_upd (o := .lst us) nl
      have hl := @upd_same H1 l (.lst us)
      have hr2 := SL _ _ h2
      generalize upd H1 l (.lst us) = H2 at SL hl hr2 ⊢
      have hz := hus.len
      have hz2 := h3.len
      rw [List.length_append] at len
      refine ⟨rA, l, rs, us, rfl, rfl, hr2, hl, by rw [sizeLine_eq]; omega, fun q nq => ?_⟩
      have SQ := K0.same_upd (o := .lst (rs ++ us)) nq
      have hq := @upd_same H2 q (.lst (rs ++ us))
      generalize upd H2 q (.lst (rs ++ us)) = H3 at SQ hq ⊢
      have S13 := SL.trans SQ
      have S03 := S1.trans S13
      have hD : DQs K H3 (rs ++ us) (ds ++ itemsD d) := (h3.to S13).app (hus.to S03)
      intro x dx' nx nd _
      refine comes_book (d := .list (ds ++ itemsD d)) nx nd (.lst (SqL.of hq) hD) rfl (by show (ds ++ itemsD d).length ≤ 62; rw [List.length_append]; exact len) (fun bn => ⟨q, _, rfl, .inl (SqL.of hq), hD, ?_⟩) (co.to S03)
      exact sts_app (fun i u e hu he => (h9 i u e hu he).to S13) hz2 (Sts.to (its bn) S03)
end
end K1
namespace K1
open PySem L2 PySem.Spec PyProof.Rows RZ
section
variable {P : Program} {w : World} {K : PySem.W.Frag} {mg : Str → Option Value} {base : Heap} {C : Addr} {c : Nat → Addr}
/-- with_deeds, where all is right -/
theorem with_right {J : Hp} {x : Addr} {v : V} {d : PyData} {es fs : List PyData} {l : Addr} {us : List V} {Q : VK} {E : XK} (b : BookAt K C J x es) (hv : v = .ref l) (hd : DQ K J v d) (hl : listD d = true) (hi : itemsD d = fs) (hs : SqL K J l us ∨ SqT K J l us) (dq : DQs K J us fs) (st : Sts K J us fs) (ok : OkD (es ++ fs)) (few : (es ++ fs).length ≤ 60)
    (k : ∀ J' q gs, Same J J' → BookAt K C J' q gs → gs.Perm (es ++ fs) → UpD gs → Q (.ref q) J') : spWith K C c [.ref x, v] J Q E := by
  subst hi
  have bn : badAt (es ++ itemsD d) = none := bad_ok ok.right ok.nd fun d hd => List.not_mem_nil
  refine ⟨x, es, v, d, rfl, b, hd, fun z => (by rw [hl] at z; cases z), fun _ => ⟨by omega, ⟨l, us, hv, hs, dq, fun _ => st⟩, fun n hn => ?_, fun _ l60 => by omega, fun gs _ _ p u => ⟨fun _ J' q S b' _ => k J' q gs S b' p u, fun b e he => by
    rw [(ok.perm p).good u] at he
    cases he⟩⟩⟩
  rw [bn] at hn
  cases hn
end
end K1
namespace K1
open PySem L2
theorem dqs_nums {K : PySem.W.Frag} {H : Hp} : ∀ l : List Int, DQs K H (l.map V.int) (l.map PyData.int)
  | [] => .nil
  | i :: l => .cons (.int i) (dqs_nums l)
end K1
/-! _law_stamps, _law_sees -/
namespace K1
open PySem L2 PySem.Spec PyProof.Rows RZ
def spStamps (K : PySem.W.Frag) : Sp := fun vs H Q _ => ∃ a us, ∃ ds : List PyData, vs = [.ref a] ∧ SqL K H a us ∧ DQs K H us (ds.map stOf) ∧ (∀ d ∈ ds, deedD d = true) ∧ (ds.map keyD).Nodup ∧ ds.length ≤ 62 ∧
  ∀ p us' (ks : List (List Int)) H', Same H H' → H' p = some (.lst us') → DQs K H' us' (ks.map pairD) → ks.Perm (ds.map keyD) → ks.Pairwise lt1000 → Q (.ref p) H'
section
variable {P : Program} {w : World} {K : PySem.W.Frag} {mg : Str → Option Value} {base : Heap}
theorem sc_stamps : FnScope ["_law_some", "_law_one_here"] ["_law_some"] (defScope (top 75)) := ⟨rfl, rfl, rfl, by decide +kernel, rfl, by decide +kernel, by decide +kernel⟩
theorem cl_stamps (T : All K mg) (M : Nms mg) (M2 : Nms2 mg) : Cl P w K mg base 1 "_law_stamps" ["_law_some"] (spStamps K) := by
  obtain ⟨g, fd, D⟩ := T.dn 75 _ _ rfl
  refine D.cl (D.fn.ok sc_stamps (fun vs H Q E h => ?_) (fun cdv A outer s H vs Q E hr h => ?_))
  · obtain ⟨a, us, ds, rfl, _⟩ := h
    rfl
  · obtain ⟨a, us, ds, rfl, ha, hus, right, nd, few, k⟩ := h
    have hu3 : (A.deeper (envOfC "_law_stamps" (defScope (top 75)) s.heap.objs.size g cdv)).units + 3 < cLine := by have := hr.units; omega
    refine ⟨_, pss_one (ps_ret (pe_callB (call_sortDT rfl) (by rfl) M2.sorted (by decide +kernel) (pa_cons (pe_callTy (call_dictPV rfl hu3) (by rfl) M2.dict (by decide +kernel) (pa_cons (pe_lc (own := [("_law_one_here", 1)]) (g := gName 1) (tt := tYes) (te := tTup (tCons (tTup (tCons (tCB rI1 (tCons (tOp (rIxT K) (tVar 1) (tC (.int 0))) tNil)) (tCons (tCB rI1 (tCons (tOp (rIxT K) (tVar 1) (tC (.int 1))) tNil)) tNil))) (tCons (tC (.int 1)) tNil))) rfl sc_stamps.nd (pi_list (pv 0)) (blkOk_by (own := [("_law_one_here", 1)]) (N := ["_law_some", "_law_one_here"]) (sc := defScope (top 75)) (by decide +kernel)) (fun _ _ _ _ _ => pg_name (i := 1) sc_stamps.nd rfl (Or.inl rfl)) (fun _ _ _ _ _ => pts_nil) (fun _ _ _ _ _ => (pe_tup (pa_cons (pe_tup (pa_cons (pe_callTy call_int1 (by rfl) M.int (by decide +kernel) (pa_cons (pe_ix ix_tup (pv 1) pe_int (fun _ _ => rfl)) pa_nil)) (pa_cons (pe_callTy call_int1 (by rfl) M.int (by decide +kernel) (pa_cons (pe_ix ix_tup (pv 1) pe_int (fun _ _ => rfl)) pa_nil)) pa_nil))) (pa_cons pe_int pa_nil))))) pa_nil)) pa_nil))), ?_⟩
    have L := hus.len
    rw [List.length_map] at L
    refine ⟨_, rfl, a, rfl, ⟨us, ha⟩, fun D1 n1 => ?_⟩
    refine lc_list (K := K) (a := a) (xs := us) (fun i H' => Same H H' ∧ ∃ ps : List PQ, H' D1 = some (.lst (ps.map fun q => V.ref q.1)) ∧ (∀ q ∈ ps, H' q.1 = some (.tup [.ref q.2.1, q.2.2.2]) ∧ H' q.2.1 = some (.tup (q.2.2.1.map V.int))) ∧ ps.length = i ∧ ps.map (·.2.2.1) = (ds.take i).map keyD) ⟨K0.same_upd n1, [], upd_same, fun q hq => absurd hq List.not_mem_nil, rfl, rfl⟩
      (fun i H' _ ⟨s, _⟩ => s.seq ha) ?_ ?_
    · rintro i u H' hui ⟨s, ps, hl, hps, hlen, htk⟩
      refine ⟨rfl, ?_⟩
      unfold tYes
      dsimp only
      rw [if_pos rfl]
      obtain ⟨d0, hd0, hdq⟩ := hus.at hui
      rw [List.getElem?_map] at hd0
      obtain ⟨d, hd, rfl⟩ := Option.map_eq_some_iff.mp hd0
      have hi := (List.getElem?_eq_some_iff.mp hui).1
      obtain ⟨t, j, x, r, hk, ht, hj, _⟩ := deed_pure (right d (List.mem_of_getElem? hd))
      have es : stOf d = .tuple [.int t, .int j] := by
        unfold stOf
        rw [hk]
        rfl
      rw [es] at hdq
      obtain ⟨sa, rfl, p1⟩ := DQ.pair (hdq.to s)
      refine ⟨_, rfl, sa, _, _, _, rfl, rfl, p1, atI_nat (j := 0) rfl, .inl ⟨_, rfl, _, rfl, sa, _, _, _, rfl, rfl, p1, atI_nat (j := 1) rfl, .inl ⟨_, rfl, (by show 2 ≤ sizeLine; rw [sizeLine_eq]; decide), fun t' nt => ⟨(by show 2 ≤ sizeLine; rw [sizeLine_eq]; decide), fun q nq => ?_⟩⟩⟩⟩
      have h1 : upd H' t' (.tup [.int t, .int j]) D1 = some (.lst (ps.map fun q => V.ref q.1)) := (upd_ne (ne_of_none hl nt)).trans hl
      have s1 := s.trans (K0.same_upd (o := .tup [.int t, .int j]) nt)
      have c1 := K0.same_upd (o := .tup [.int t, .int j]) nt
      have f1 := @upd_same H' t' (.tup [.int t, .int j])
      generalize upd H' t' (.tup [.int t, .int j]) = H2 at h1 s1 c1 f1 nq ⊢
      have h2 : upd H2 q (.tup [.ref t', .int 1]) D1 = some (.lst (ps.map fun q => V.ref q.1)) := (upd_ne (ne_of_none h1 nq)).trans h1
      have s2 := s1.trans (K0.same_upd (o := .tup [.ref t', .int 1]) nq)
      have c2 := c1.trans (K0.same_upd (o := .tup [.ref t', .int 1]) nq)
      have f2 : upd H2 q (.tup [.ref t', .int 1]) t' = some (.tup [.int t, .int j]) := (upd_ne (ne_of_none f1 nq)).trans f1
      have g2 := @upd_same H2 q (.tup [.ref t', .int 1])
      generalize upd H2 q (.tup [.ref t', .int 1]) = H3 at h2 s2 c2 f2 g2 ⊢
      have over : ∀ {b : Addr} {xs : List V}, H3 b = some (.tup xs) → upd H3 D1 (.lst ((ps.map fun q => V.ref q.1) ++ [.ref q])) b = some (.tup xs) := fun {b xs} e => (upd_ne (ne_of e h2 (by intro z; cases z))).trans e
      refine ⟨_, h2, by rw [List.length_map, sizeLine_eq]; omega, K0.same_over s2 n1, ps ++ [(q, t', [t, j], V.int 1)], by rw [List.map_append]; exact upd_same, fun z hz => ?_, by rw [List.length_append, hlen]; rfl, ?_⟩
      · rcases List.mem_append.mp hz with e | e
        · exact ⟨over (c2 _ _ (hps z e).1), over (c2 _ _ (hps z e).2)⟩
        · rw [List.mem_singleton.mp e]
          exact ⟨over g2, over f2⟩
      · rw [List.map_append, htk, List.take_succ, hd, List.map_append]
        show _ ++ [[t, j]] = _ ++ [keyD d]
        rw [hk]
    · rintro H1 ⟨s, ps, hl, hps, hlen, htk⟩
      rw [L, List.take_length] at htk
      have key : ∀ q ∈ ps, ∃ d ∈ ds, keyD d = q.2.2.1 := fun q hq => by
        have hm : q.2.2.1 ∈ ps.map (·.2.2.1) := List.mem_map.mpr ⟨q, hq, rfl⟩
        rw [htk] at hm
        exact List.mem_map.mp hm
      refine ⟨D1, ps, rfl, SqL.of hl, hps, by omega, by rw [htk]; exact nd, fun dA nA => ?_⟩
      have sA := K0.same_upd (o := .dT (ps.map fun q => (kI q.2.2.1, q.2.2.2))) nA
      have fA := @upd_same H1 dA (.dT (ps.map fun q => (kI q.2.2.1, q.2.2.2)))
      generalize upd H1 dA (.dT (ps.map fun q => (kI q.2.2.1, q.2.2.2))) = H2 at sA fA ⊢
      have s2 := s.trans sA
      refine ⟨dA, ps.map fun q => (q.2.2.1, q.2.2.2), rfl, by rw [List.map_map]; exact fA, by rw [List.length_map]; omega, fun q hq => ?_, fun Lk p pm pw hLk np => ?_⟩
      · obtain ⟨r, hr', rfl⟩ := List.mem_map.mp hq
        obtain ⟨d, hd, ed⟩ := key r hr'
        obtain ⟨t, j, x, r', hk, ht, hj, _⟩ := deed_pure (right d hd)
        show r.2.2.1.length = 2 ∧ TS.Bd 1000 r.2.2.1
        rw [← ed, hk]
        refine ⟨rfl, fun m hm => ?_⟩
        rcases List.mem_cons.mp hm with z | z
        · rw [z]
          omega
        · rw [List.mem_singleton.mp z]
          omega
      · rw [List.map_map] at pm
        have pm' : (Lk.map (·.2)).Perm (ds.map keyD) := by
          have e : (ps.map (Prod.fst ∘ fun q : PQ => (q.2.2.1, q.2.2.2))) = ps.map (·.2.2.1) := rfl
          rw [e, htk] at pm
          exact pm
        have sP := K0.same_upd (o := .lst (Lk.map fun q => V.ref q.1)) np
        have fP := @upd_same H2 p (.lst (Lk.map fun q => V.ref q.1))
        generalize upd H2 p (.lst (Lk.map fun q => V.ref q.1)) = H3 at sP fP ⊢
        refine k p _ (Lk.map (·.2)) H3 (s2.trans sP) fP ?_ pm' ?_
        · have go : ∀ l : List (Addr × List Int), (∀ q ∈ l, H2 q.1 = some (.tup (q.2.map V.int))) → DQs K H3 (l.map fun q => V.ref q.1) ((l.map (·.2)).map pairD) := by
            intro l
            induction l with
            | nil => intro _; exact .nil
            | cons q l ih => intro h; exact .cons (.tup (.inl (.inl (sP _ _ (h q List.mem_cons_self)))) (dqs_nums _)) (ih fun r hr => h r (List.mem_cons_of_mem _ hr))
          exact go Lk hLk
        · rw [List.pairwise_map]
          have ndL : (Lk.map (·.2)).Nodup := pm'.nodup_iff.mpr nd
          refine (pw.and (List.pairwise_map.mp ndL)).imp_of_mem fun {q r} hq hr' hh => ?_
          have b : ∀ q ∈ Lk, ∃ x y : Int, q.2 = [x, y] ∧ (0 ≤ y ∧ y < 1000) := fun q hq => by
            have hm : q.2 ∈ ds.map keyD := pm'.mem_iff.mp (List.mem_map.mpr ⟨q, hq, rfl⟩)
            obtain ⟨d, hd, ed⟩ := List.mem_map.mp hm
            obtain ⟨t, j, x, r', hk, ht, hj, _⟩ := deed_pure (right d hd)
            exact ⟨t, j, by rw [← ed, hk], by omega⟩
          obtain ⟨x, y, e1, b1⟩ := b q hq
          obtain ⟨x', y', e2, b2⟩ := b r hr'
          obtain ⟨le, ne⟩ := hh
          show TS.code 1000 q.2 < TS.code 1000 r.2
          rw [e1, e2, code2, code2] at le ⊢
          rw [e1, e2] at ne
          have h3 : ¬ x * 1000 + y = x' * 1000 + y' := fun z => ne (by
            have ea : x = x' := by omega
            have eb : y = y' := by omega
            rw [ea, eb])
          omega
/-- two lists of pairs, rising, of the same pairs -/
theorem keys_same {ks js : List (List Int)} (h1 : ks.Pairwise lt1000) (h2 : js.Pairwise lt1000) (h : ∀ x, x ∈ ks ↔ x ∈ js) : ks = js := rising_unique (fun k => TS.code 1000 k) h1 h2 h
theorem stT_parts {K : PySem.W.Frag} {H : Hp} {v : V} {d : PyData} (h : StT K H v d) (r : deedD d = true) : ∃ (a s : Addr) (x y : V) (t j : Int), v = .ref a ∧ SqT K H a [.ref s, x, y] ∧ SqT K H s [.int t, .int j] ∧ keyD d = [t, j] ∧ 0 ≤ j ∧ j ≤ 3 ∧ ∃ b, x = .ref b ∧ SqT K H b ((snD d).map V.int) := by
  obtain ⟨a, s, x, y, t, j, rfl, h1, h2, h3, e', f', h4, h5, h6⟩ := h
  obtain ⟨t0, j0, x0, r0, k0, ht, hj, l4, hb, _, pd⟩ := deed_pure r
  have z := h4.symm.trans pd
  have ze : e' = .tuple ((snD d).map PyData.int) := by
    injection z with z
    injection z with z1 z
    injection z with z2 _
  rw [ze] at h5
  have ej : j = j0 := by
    rw [h3] at k0
    exact (List.cons.inj (List.cons.inj k0).2).1
  cases h5 with
  | tup g1 g2 =>
    rw [dqs_ints g2] at g1
    exact ⟨a, s, _, y, t, j, rfl, h1, .inl (.inl h2), h3, by omega, by omega, _, rfl, g1⟩
def spSees (K : PySem.W.Frag) : Sp := fun vs H Q _ => ∃ v d u e, vs = [v, u] ∧ StT K H v d ∧ StT K H u e ∧ deedD d = true ∧ deedD e = true ∧ Q (.bl (seenBy d (keyD e))) H
end
end K1
set_option maxHeartbeats 4000000
/-! for x in o, o of a class with an own __iter__ that tells iter(list) -/
namespace K1
open PySem L2 PySem.Spec PyProof.Rows PySem.Calls
section
variable {prog : Program} {w : World} {A : Around} {E : Value → Shared → Prop} {s : Shared} {K : PySem.W.Frag} {x C f : Addr} {ox : Obj} {od : Option Obj} {Q : Value → Shared → Prop}
theorem iter_K (X : K.In s.heap) (I : PySem.W.InstAt s.heap x ox C od) (hs : PySem.W.findIn K (.ref C) "__iter__" = some (some (.ref f))) (hf : PySem.W.isFn K (.ref f) = true)
    (h : wpAny (model prog w) A (call (.ref f) [.ref x]) (fun it s' => (∃ T' r, s'.TypeIs it T' ∧ typeLookup (.type T') "__next__" = pure (some r)) ∧ Q it s') E s) : wpAny (model prog w) A (pyIter (.ref x)) Q E s := by
  unfold pyIter
  refine wpAny_bind (wpAny_bind (I.type.here ((PySem.W.looks_findIn X hs).here ?_)))
  refine wpAny_bind ?_
  simp only [callSpecialIfBoundUnlessNone?, bindSpecialIfBound?]
  refine wpAny_holding (wpAny_bind (wpAny_bind (wpAny_bind (I.type.here ((PySem.W.looks_findIn X hs).here ?_)))))
  refine wpAny_bind (wpAny_askSetting (wpAny_ite ?_))
  split
  · refine wpAny_bind ((PySem.W.bind_fn X _ (beq_iff_eq.mp hf)).here (wpAny_pure ?_))
    show wpAny (model prog w) A (if (Value.ref f == Value.none) = true then _ else call (.ref f) [.ref x] >>= fun v => pure (some v)) _ E s
    rw [if_neg (by intro z; cases z)]
    refine wpAny_bind (wpAny_mono h (fun it s' z => ?_) fun _ _ z => z)
    obtain ⟨⟨T', r, ht, hl⟩, q⟩ := z
    exact wpAny_pure (wpAny_bind (wpAny_specialOf ht hl (wpAny_pure q)))
  · refine wpAny_tryCatch (wpAny_bind ((PySem.W.bind_fn X _ (beq_iff_eq.mp hf)).here (wpAny_pure ?_)))
    show wpAny (model prog w) A (if (Value.ref f == Value.none) = true then _ else call (.ref f) [.ref x] >>= fun v => pure (some v)) _ E s
    rw [if_neg (by intro z; cases z)]
    refine wpAny_bind (wpAny_mono h (fun it s' z => ?_) fun _ _ z => z)
    obtain ⟨⟨T', r, ht, hl⟩, q⟩ := z
    exact wpAny_pure (wpAny_bind (wpAny_specialOf ht hl (wpAny_pure q)))
theorem wpAny_iter_list {l : Addr} {items} (hl : s.heap.IsList l items)
    (hQ : Q (.ref s.heap.objs.size) { s with heap := s.heap.push { cls := .type "list_iterator", data := .fields #[.ref l, .int 0 0] } }) : wpAny (model prog w) A (call (.builtin "iter") [.ref l]) Q E s := by
  refine call_function_entry (by decide +kernel) (by decide +kernel) PySem.W.kdk_entry_iter (PySem.W.kdk_args_iter _) ?_
  unfold Builtin.«iter»
  refine wpAny_bind (m := someArgs "iter" 1 2 _) (wpAny_of_eq (a := [Value.ref l]) (by first | rfl | kernel_rfl!) ?_)
  show wpAny _ _ (pyIter (.ref l) >>= _) _ _ _
  refine wpAny_bind (wpAny_pyIter_list hl ?_)
  exact wpAny_pure ⟨_, rfl, hQ⟩
end
/-- return iter(e), e a list -/
theorem ret_iter {X : Cx} {e : Expr} {te : TE} {p pos q : Pos} {pins : List (Addr × Obj)} {σ : L2.St} {H : Hp} {s : Shared} {b : Addr} (hg : Gl X "iter") (hm : X.mg "iter" = none) (he : PE X e te) (I : Inv X pins σ H s) (h : te σ H fun v H1 => [v] = [V.ref b] ∧ H1 = H ∧ ∃ xs, SqL X.K H b xs)
    (hst : starEach [e] X.env = (false, eval e X.env) :: starEach [] X.env := by rfl) (hpl : (backTo pos (starEach [] X.env)).any (·.1) = false := by rfl) :
    wpAny (model X.prog X.w) X.A (execs [.Return (some (.Call (.Name "iter" p) [e] [] pos)) q] X.env) (fun fl s' => ∃ it, fl = .ret (.ref it) ∧ Inv X pins σ H s' ∧ s'.heap.IsListIter it b 0 ∧ X.s_0.heap.objs.size ≤ it) X.xe s := by
  refine wpAny_execs_cons (wpAny_Return_some (wpAny_Call_Name_kw (ld_blt I hg hm (u := .builtin "iter") (by decide +kernel) ?_)))
  refine PyProof.Rows.callWith_builtin1 (thn ((pa_cons he pa_nil hst).run pos pins s σ H (fun vs H1 => vs = [V.ref b] ∧ H1 = H ∧ ∃ xs, SqL X.K H b xs) I h) fun us s1 ⟨vs, H1, I1, r1, q1⟩ => ?_) hst hpl
  obtain ⟨rfl, rfl, xs, hs⟩ := q1
  rw [Vals.ref1 r1]
  obtain ⟨its, rv, pl, _⟩ := I1.list hs
  refine wpAny_iter_list pl.isList ?_
  refine ⟨_, rfl, I1.kept (t' := s1.toks) fun b o e => Heap.get?_push_of_some _ e, ⟨_, Heap.get?_push_size _ rfl, rfl, rfl⟩, I1.sz⟩
/-- a def that tells iter(list): what it leaves -/
structure IterOk (P : Program) (w : World) (K : PySem.W.Frag) (mg : Str → Option Value) (base : Heap) (k : Nat) (f : Addr) (C : Addr) : Prop where
  run : ∀ (A : Around) (outer : List Env) (s : Shared) (H : Hp) (a dx b : Addr) (fs : List (Str × V)) (xs : List V), Room k A → Env0 P w K mg base A outer s H → H a = some (.ins C dx fs) → fs.lookup ("_stamps" : Str) = some (.ref b) → SqL K H b xs →
    codeAny (model P w) A (.call (.ref f) ⟨[.ref a], []⟩) (fun r s' => ∃ it, r = .ok (.ret (.ref it)) ∧ CE outer P w H s (fun v H' => v = .ref it ∧ H' = H) (.ref it) s' ∧ s'.heap.IsListIter it b 0 ∧ s.heap.objs.size ≤ it) s
def iOwn (K : PySem.W.Frag) (C : Addr) (te : TE) : TI := fun σ H R => te σ H fun x H1 => ∃ a dx fs b xs, x = .ref a ∧ H1 a = some (.ins C dx fs) ∧ fs.lookup ("_stamps" : Str) = some (.ref b) ∧ SqL K H1 b xs ∧ R (Itl K b) H1
theorem pi_own {X : Cx} {tg e : Expr} {te : TE} {k : Nat} {f C : Addr} (he : PE X e te) (F : IterOk X.prog X.w X.K X.mg X.base k f C) (hr : Room k X.A) (hs : PySem.W.findIn X.K (.ref C) "__iter__" = some (some (.ref f))) (hf : PySem.W.isFn X.K (.ref f) = true) : PI X tg e (iOwn X.K C te) := by
  refine ⟨fun pins s σ H R I h => ?_⟩
  refine thn (he.run pins s σ H _ I h) fun v s1 ⟨x, H1, I1, r1, q1⟩ => ?_
  obtain ⟨a, dx, fs, b, xs, rfl, ha, hl, hq, q⟩ := q1
  obtain rfl : v = Value.ref a := r1
  obtain ⟨od, J⟩ := ins_look I1 ha
  refine iter_K I1.kIn J hs hf (wpAny_call (codeAny_mono (F.run X.A X.stack s1 H1 a dx b fs xs hr I1.env0 ha hl hq) fun r s' z => ?_))
  obtain ⟨it, rfl, ce, il, sz⟩ := z
  obtain ⟨v', H', I', rv, e1, e2⟩ := I1.after ce
  subst e1 e2
  refine ⟨⟨_, _, il.typeIs, slot_listiter_next.lookup⟩, it, [it], _, _, _, rfl, I', turn_list b it, il, fun c hc => ?_, q⟩
  have e : c = it := by simpa using hc
  subst e
  exact I1.fpOk sz (I1.hok.fresh sz)
end K1
set_option maxHeartbeats 4000000
/-! Book.__iter__ -/
namespace K1
open PySem L2 PySem.Spec PyProof.Rows PySem.Calls
section
variable {P : Program} {w : World} {K : PySem.W.Frag} {mg : Str → Option Value} {base : Heap} {C : Addr} {c : Nat → Addr}
theorem sc_iter : FnScope ["self"] ["self"] (defScope (inClass (top 40) 11)) := ⟨rfl, rfl, rfl, by decide +kernel, rfl, by decide +kernel, by decide +kernel⟩
theorem ok_iter {f : Addr} {fd : FuncData} (F : Fun K "__iter__" "Book.__iter__" (inClass (top 40) 11) f fd) (hb : Binds K fd ["self"] []) (hm : mg "iter" = none) (c : Cls K C) (hn : PySem.W.findIn K (.ref C) "_stamps" = some none) : IterOk P w K mg base 1 f C := by
  refine ⟨fun A outer s H a dx b fs xs hr e0 ha hl hq => ?_⟩
  have hb' := hb s [.ref a] (fun b o e => (e0.bs b o (e0.mod.kin b o e)).1) rfl
  obtain ⟨oc, od, kV, doc, pm, an, cdv, ct, osl, rfl, lk, hcd⟩ := F.ex
  have S := sc_iter
  have KX : K.In s.heap := e0.mod.kin.keeps fun b o e => (e0.bs b o e).1
  have lim : s.heap.NoLimit := e0.mod.nolimit.keeps fun b o e => (e0.bs b o e).1
  have hkind : ∀ y ∈ ([("self" : Str)].zip [Value.ref a]), (defScope (inClass (top 40) 11)).names.lookup y.1 = some .local ∨ ((defScope (inClass (top 40) 11)).names.lookup y.1 = some .cell ∧ ((cellsFrom (s.heap.objs.size + 1) (defScope (inClass (top 40) 11)).names []).lookup y.1).isSome = true) := fun y hy => by
    have hm : y.1 ∈ [("self" : Str)] := (List.of_mem_zip (show (y.1, y.2) ∈ [("self" : Str)].zip [Value.ref a] from hy)).1
    exact (S.par y.1 hm).imp id fun q => ⟨q, PySem.W.cellsFrom_some _ _ _ (.inl q)⟩
  refine codeAny_call_function hr.depth (KX _ _ lk) rfl S.co S.gen rfl (PySem.W.codeRec_of KX hcd) (hb' _ _ _ _ ?_)
  refine wpAny_newFunctionEnv_cells S.kind hkind fun env he s1 x => ?_
  subst he
  refine ⟨lim.keeps x.toInCall.keep, codeAny_func ?_⟩
  have I := inv_start (CX := CX0) (E := E0) (vs := [V.ref a]) S hr.hd e0 rfl (.cons (rr a) .nil) x
  refine wpAny_mono (ret_iter (X := cxOf CX0 P w K mg base ["self"] "Book.__iter__" (defScope (inClass (top 40) 11)) f cdv A outer s H E0) (b := b) rfl hm (pe_fld (pv 0) rfl) I ?_) (fun fl s' hs => ?_) fun e s' hs => ?_
  · exact ⟨_, rfl, a, C, dx, fs, _, rfl, ha, c, hn, hl, rfl, rfl, xs, hq⟩
  · obtain ⟨it, rfl, J, il, sz⟩ := hs
    exact ⟨it, rfl, ⟨.ref it, H, J.os, J.bare, J.base, J.hok, rfl, rfl, rfl⟩, il, sz⟩
  · exact wpAny_mono hs (fun _ _ z => z.elim) fun _ _ z => z.elim
end
end K1
set_option maxHeartbeats 4000000
/-! are_closed, of a Book; is_branch, check_branch -/
namespace K1
open PySem L2 PySem.Spec PyProof.Rows RZ
def spClosedB (K : PySem.W.Frag) (C : Addr) : Sp := fun vs H Q _ => ∃ a b ds, ∃ es : List Int, vs = [.ref a, .ref b] ∧ BookAt K C H a ds ∧ SqT K H b (es.map V.int) ∧ es.length = 4 ∧ ∀ H', Same H H' → Q (.bl (closedD ds es)) H'
theorem has_at {ds : List PyData} {t : Int} {h : Nat} (right : ∀ d ∈ ds, deedD d = true) : hasD ds (.tuple [.int t, .int (h : Int)]) = (atD ds [t, (h : Int)]).isSome := by
  show (stampD (.tuple [.int t, .int (h : Int)]) && (atD ds [t, (h : Int)]).isSome) = _
  cases e : atD ds [t, (h : Int)] with
  | none => rw [Option.isSome_none, Bool.and_false]
  | some d =>
    obtain ⟨h1, h2⟩ := atD_mem e
    have s := st_stamp (right d h1)
    have : stOf d = .tuple [.int t, .int (h : Int)] := by
      unfold stOf
      rw [h2]
      rfl
    rw [this] at s
    rw [s, Bool.true_and]
section
variable {P : Program} {w : World} {K : PySem.W.Frag} {mg : Str → Option Value} {base : Heap} {C : Addr} {c : Nat → Addr}
theorem cl_closedB (T : All K mg) (W : BkAll K mg C c) : Cl P w K mg base 7 "are_closed" ["deeds", "times"] (spClosedB K C) := by
  obtain ⟨g, fd, D⟩ := T.dn 43 _ _ rfl
  have hzip := W.zip
  have hen := W.enu
  obtain ⟨fs, Rs⟩ := W.Rs
  obtain ⟨fh, fdh, Fh, bh, sh, ih⟩ := W.has
  obtain ⟨fg, fdg, Fg, bg, sg, ng, ig⟩ := W.get
  have GO : FnOk P w K mg base CX0 4 fh fdh ["self", "x"] (spHas K C) := ok_has Fh T W.B
  have GG : FnOk P w K mg base (L2.CX P w) 5 fg fdg ["self", "at"] (spGet K C (c 6)) := ok_get Fg Fh bh sh ih T W.B Rs
  refine D.cl (D.fn.ok sc_closed (fun vs H Q E h => ?_) (fun cdv A outer s H vs Q E hr h => ?_))
  · obtain ⟨a, b, ds, es, rfl, _⟩ := h
    rfl
  · obtain ⟨a, b, ds, es, rfl, bk, hb, h4, k⟩ := h
    have right := bk.right
    have hu : (A.deeper (envOfC "are_closed" (defScope (top 43)) s.heap.objs.size g cdv)).units + 1 < cLine := hu_of hr
    refine ⟨_, (pss_cons (ps_for PassesOwn.never rfl (pi_enumA (by rfl) hen (pa_cons (pv 1) pa_nil)) (pg_tup (t := (gCons (gName 2) (gCons (gName 3) gNil))) rfl (pgs_cons (pg_name (i := 2) sc_closed.nd rfl (Or.inl rfl)) (pgs_cons (pg_name (i := 3) sc_closed.nd rfl (Or.inl rfl)) pgs_nil))) (pss_one (ps_if (pt_cmpR op_ne (pv 3) pe_int (nomark _)) (pss_cons (ps_set (i := 4) sc_closed.nd rfl (Or.inl rfl) (pe_tup (pa_cons (pv 3) (pa_cons (pv 2) pa_nil))))
      (pss_one (ps_if (PW.pt (pw_or (pt_cmpR (op_notInO GO (hr.mono (by decide)) bh sh ih) (pv 4) (pv 0) rfl) (pw_or1 (pt_not (pt_val (pe_cl (cl_most T hzip) hr (by decide) (pa_cons (pe_ix ix_tup (pe_getO GG (hr.mono (by decide)) bg (fun σ => passN) sg ng ig (pv 0) (pv 4)) pe_int (fun _ _ => rfl)) (pa_cons (pv 1) pa_nil)))))))) (pss_one (ps_ret pe_bl)) pss_nil))) pss_nil)))
      (pss_one (ps_ret pe_bl))), ?_⟩
    refine ⟨_, rfl, b, _, rfl, .inr ⟨hb, ?_⟩⟩
    refine for_it (walk_enumT (K := K) (a := b) (xs := es.map V.int)) (fun i σ J => σ.length = 5 ∧ σ[0]? = some (some (V.ref a)) ∧ σ[1]? = some (some (V.ref b)) ∧ Same H J ∧ ∀ h, h < i → okAt ds es h = true) ⟨rfl, rfl, rfl, Same.refl H, fun h hh => absurd hh (Nat.not_lt_zero _)⟩ (fun i σ J _ ⟨_, _, _, s, _⟩ => K0.seqT_same s hb) ?_ (fun σ J ⟨_, _, _, s, all⟩ => ?_)
    · rintro i x σ J J' hi ⟨l0, t0, t1, s, all⟩ ⟨T0, u, v, rfl, nT, rfl, h1, h2⟩
      rw [List.length_map, h4] at hi
      cases h1
      cases int_at h2
      have s2 := s.trans (K0.same_upd (o := .tup [.int (i : Int), .int (es.getD i 0)]) nT)
      have hT := @upd_same J T0 (.tup [.int (i : Int), .int (es.getD i 0)])
      generalize upd J T0 (.tup [.int (i : Int), .int (es.getD i 0)]) = J2 at s2 hT ⊢
      refine ⟨T0, _, rfl, .inl (.inl hT), rfl, _, _, rfl, _, _, rfl, rfl, ?_⟩
      have g3 : ((σ.set 2 (some (V.int (i : Int)))).set 3 (some (V.int (es.getD i 0))))[3]? = some (some (V.int (es.getD i 0))) := List.getElem?_set_self (by rw [List.length_set]; omega)
      have g2 : ((σ.set 2 (some (V.int (i : Int)))).set 3 (some (V.int (es.getD i 0))))[2]? = some (some (V.int (i : Int))) := (List.getElem?_set_ne (by decide)).trans (List.getElem?_set_self (by omega))
      have g0 : ((σ.set 2 (some (V.int (i : Int)))).set 3 (some (V.int (es.getD i 0))))[0]? = some (some (V.ref a)) := (List.getElem?_set_ne (by decide)).trans ((List.getElem?_set_ne (by decide)).trans t0)
      have g1 : ((σ.set 2 (some (V.int (i : Int)))).set 3 (some (V.int (es.getD i 0))))[1]? = some (some (V.ref b)) := (List.getElem?_set_ne (by decide)).trans ((List.getElem?_set_ne (by decide)).trans t1)
      have gl : ((σ.set 2 (some (V.int (i : Int)))).set 3 (some (V.int (es.getD i 0)))).length = 5 := by rw [List.length_set, List.length_set]; exact l0
      generalize (σ.set 2 (some (V.int (i : Int)))).set 3 (some (V.int (es.getD i 0))) = σ2 at g0 g1 g2 g3 gl ⊢
      have up : ∀ {J3 : Hp} {σ3 : L2.St}, Same J2 J3 → σ3.length = 5 → σ3[0]? = some (some (V.ref a)) → σ3[1]? = some (some (V.ref b)) → okAt ds es i = true → σ3.length = 5 ∧ σ3[0]? = some (some (V.ref a)) ∧ σ3[1]? = some (some (V.ref b)) ∧ Same H J3 ∧ ∀ h, h < i + 1 → okAt ds es h = true :=
        fun s3 e0 e1 e2 ok => ⟨e0, e1, e2, s2.trans s3, fun h hh => by
          rcases Nat.lt_succ_iff_lt_or_eq.mp hh with z | z
          · exact all h z
          · rw [z]
            exact ok⟩
      refine ⟨_, g3, rfl, _, rfl, ?_⟩
      by_cases e0 : es.getD i 0 = 0
      · have : (!decide (V.int (es.getD i 0) = V.int 0)) = false := by rw [e0]; rfl
        rw [this]
        refine iteF (up (Same.refl _) gl g0 g1 ?_)
        unfold okAt
        rw [decide_eq_true e0, Bool.true_or]
      · have : (!decide (V.int (es.getD i 0) = V.int 0)) = true := by
          rw [decide_eq_false (fun z => e0 (V.int.inj z))]
          rfl
        rw [this]
        refine iteT ⟨_, g3, _, g2, (by show 2 ≤ sizeLine; rw [sizeLine_eq]; decide), fun q nq => ?_⟩
        have s3 := K0.same_upd (o := .tup [.int (es.getD i 0), .int (i : Int)]) nq
        have hq := @upd_same J2 q (.tup [.int (es.getD i 0), .int (i : Int)])
        generalize upd J2 q (.tup [.int (es.getD i 0), .int (i : Int)]) = J3 at s3 hq ⊢
        have f4 : (σ2.set 4 (some (V.ref q)))[4]? = some (some (V.ref q)) := List.getElem?_set_self (by omega)
        have f0 : (σ2.set 4 (some (V.ref q)))[0]? = some (some (V.ref a)) := (List.getElem?_set_ne (by decide)).trans g0
        have f1 : (σ2.set 4 (some (V.ref q)))[1]? = some (some (V.ref b)) := (List.getElem?_set_ne (by decide)).trans g1
        have fl : (σ2.set 4 (some (V.ref q))).length = 5 := by rw [List.length_set]; exact gl
        have s03 := s2.trans s3
        have hk : SqT K J3 q ([es.getD i 0, (i : Int)].map V.int) := .inl (.inl hq)
        have bad : okAt ds es i = false → closedD ds es = false := fun z => by
          unfold closedD
          rw [Bool.eq_false_iff]
          intro y
          have := List.all_eq_true.mp y i (List.mem_range.mpr hi)
          rw [z] at this
          cases this
        have bk3 := bk.to s03
        obtain ⟨dx0, rA0, tA0, sA0, lA0, i3⟩ := bk3.ins
        have dk : DQ K J3 (.ref q) (.tuple [.int (es.getD i 0), .int (i : Int)]) := .tup hk (.cons (.int _) (.cons (.int _) .nil))
        refine ⟨_, f4, _, f0, a, dx0, _, rfl, i3, a, ds, _, _, rfl, bk3, dk, fun J4 s4 => ⟨_, rfl, _, rfl, ?_⟩⟩
        have e2' : hasD ds (.tuple [.int (es.getD i 0), .int (i : Int)]) = (atD ds [es.getD i 0, (i : Int)]).isSome := has_at right
        rw [e2']
        cases e2 : atD ds [es.getD i 0, (i : Int)] with
        | some d =>
          refine iteF ?_
          have hd' : hasD ds (.tuple [.int (es.getD i 0), .int (i : Int)]) = true := by
            rw [e2', e2]
            rfl
          have bk4 := bk3.to s4
          obtain ⟨dx1, rA1, tA1, sA1, lA1, i4⟩ := bk4.ins
          refine ⟨_, f0, _, f4, a, dx1, _, rfl, i4, a, ds, _, _, rfl, bk4, dk.to s4, ⟨fun _ e J5 u he s5 hv _ => ?_, fun no => (by rw [hd'] at no; cases no)⟩⟩
          have he' : atD ds [es.getD i 0, (i : Int)] = some e := he
          rw [e2] at he'
          cases he'
          obtain ⟨⟨da, sa, ka, ub, t', j', x, l, rfl, h1, h2, h3, _⟩, p4, _⟩ := parts_of hv (right d (atD_mem e2).1)
          have s45 := s4.trans s5
          refine ⟨da, _, _, _, rfl, rfl, h1, atI_nat (j := 1) rfl, _, f1, ka, b, _, _, rfl, h3, K0.seqT_same (s03.trans s45) hb, by rw [p4, h4], by omega, fun J6 s6 => ⟨_, rfl, ?_⟩⟩
          have eo : okAt ds es i = atMost (snD d) es := by
            unfold okAt
            rw [decide_eq_false e0, Bool.false_or, e2]
          cases em : atMost (snD d) es with
          | true => exact iteF (up (s3.trans (s45.trans s6)) fl f0 f1 (eo.trans em))
          | false =>
            refine iteT ?_
            have z := k J6 (s03.trans (s45.trans s6))
            rw [bad (eo.trans em)] at z
            exact z
        | none =>
          refine iteT ?_
          have z := k J4 (s03.trans s4)
          rw [bad (by unfold okAt; rw [decide_eq_false e0, Bool.false_or, e2])] at z
          exact z
    · have z := k J s
      have e : closedD ds es = true := by
        unfold closedD
        exact List.all_eq_true.mpr fun h hh => all h (by rw [List.length_map, h4]; exact List.mem_range.mp hh)
      rw [e] at z
      exact z
end
end K1
set_option maxHeartbeats 4000000
/-! is_branch, check_branch -/
namespace K1
open PySem L2 PySem.Spec PyProof.Rows RZ
def isB (ds : List PyData) : PyData → Bool
  | .tuple es => decide (es.length = 4) && (es.all numD && closedD ds (es.map intD))
  | _ => false
theorem isB_not {ds : List PyData} {d : PyData} (h : tupD 4 d = false) : isB ds d = false := by
  cases d with
  | tuple es =>
    show (decide (es.length = 4) && _) = false
    rw [show decide (es.length = 4) = false from h, Bool.false_and]
  | _ => rfl
theorem nums_vs {K : PySem.W.Frag} {H : Hp} : ∀ {es : List PyData} {us : List V}, es.all numD = true → DQs K H us es → us = (es.map intD).map V.int ∧ es = (es.map intD).map PyData.int
  | [], _, _, h => by
    cases h
    exact ⟨rfl, rfl⟩
  | e :: es, _, a, h => by
    rw [List.all_cons, Bool.and_eq_true] at a
    cases h with
    | cons h1 h2 =>
      obtain ⟨z1, z2⟩ := nums_vs a.2 h2
      cases e with
      | int i =>
        cases h1
        rw [List.map_cons, List.map_cons, List.map_cons, ← z1, ← z2]
        exact ⟨rfl, rfl⟩
      | _ => exact absurd a.1 (by simp [numD])
def spIsB (K : PySem.W.Frag) (C : Addr) : Sp := fun vs H Q _ => ∃ p ds v d, vs = [.ref p, v] ∧ BookAt K C H p ds ∧ DQ K H v d ∧ ∀ H', Same H H' → Q (.bl (isB ds d)) H'
section
variable {P : Program} {w : World} {K : PySem.W.Frag} {mg : Str → Option Value} {base : Heap} {C : Addr} {c : Nat → Addr}
theorem sc_isB : FnScope ["book", "value", "time"] ["book", "value"] (defScope (top 47)) := ⟨rfl, rfl, rfl, by decide +kernel, rfl, by decide +kernel, by decide +kernel⟩
theorem cl_isB (T : All K mg) (W : BkAll K mg C c) : Cl P w K mg base 11 "is_branch" ["book", "value"] (spIsB K C) := by
  obtain ⟨g, fd, D⟩ := T.dn 47 _ _ rfl
  refine D.cl (D.fn.ok sc_isB (fun vs H Q E h => ?_) (fun cdv A outer s H vs Q E hr h => ?_))
  · obtain ⟨p, ds, v, d, rfl, _⟩ := h
    rfl
  · obtain ⟨p, ds, v, d, rfl, b, hd, k⟩ := h
    refine ⟨_, pss_cons (ps_expr (pe_clN (cl_ckB T W) hr (by decide) (pa_cons (pv 0) pa_nil))) (pss_one (ps_ret (pe_and (pe_cl (cl_tupleof T) hr (by decide) (pa_cons (pv 1) (pa_cons pe_int pa_nil)))
      (pe_and (pe_callB (cr_all rfl) (by rfl) T.bi.all (by decide +kernel) (pa_cons (pe_lc (own := [("time", 2)]) (g := gName 2) (tt := tYes) rfl sc_isB.nd (pi_tup (pv 1)) (blkOk_by (own := [("time", 2)]) (N := ["book", "value", "time"]) (sc := defScope (top 47)) (by decide +kernel))
        (fun _ _ _ _ _ => pg_name (i := 2) sc_isB.nd rfl (Or.inl rfl)) (fun _ _ _ _ _ => pts_nil) (fun _ _ _ _ _ => pe_cl (cl_number T) hr (by decide) (pa_cons (pv 2) pa_nil))) pa_nil))
      (pe_one (pe_cl (cl_closedB T W) hr (by decide) (pa_cons (pv 0) (pa_cons (pv 1) pa_nil)))))))), ?_⟩
    refine ⟨_, rfl, .inl ⟨p, ds, rfl, b, ?_⟩⟩
    refine ⟨_, rfl, v, d, 4, rfl, hd, fun H1 S1 => ⟨_, rfl, ?_⟩⟩
    refine ite2 (fun e1 => ?_) (fun e1 => ?_)
    · obtain ⟨es, rfl, hl⟩ := tupN e1
      have ek : isB ds (.tuple es) = (es.all numD && closedD ds (es.map intD)) := by
        show (decide (es.length = 4) && _) = _
        rw [decide_eq_true hl, Bool.true_and]
      rw [ek] at k
      cases hd.to S1 with
      | @tup a xs _ h1 h2 =>
        refine ⟨_, rfl, a, rfl, ⟨xs, h1⟩, fun Dd nD => ?_⟩
        refine lc_funT (j := 2) (fun i => .bl (ask numD es[i]?)) nD h1 (by have := h2.len; omega) (fun _ => rfl) (fun i x H' Q' hx s' q => ?_) (fun H' s' hD => ?_)
        · obtain ⟨d', e, hd'⟩ := h2.at hx
          rw [e] at q
          exact ⟨_, rfl, x, d', rfl, hd'.to s', q⟩
        · refine ⟨Dd, (List.range xs.length).map fun i => ask numD es[i]?, rfl, SqL.of (hD.trans (by rw [List.map_map]; rfl)), _, rfl, ?_⟩
          rw [h2.len, all_range]
          have S2 := S1.trans s'
          cases ea : es.all numD with
          | false =>
            rw [ea, Bool.false_and] at k
            exact iteF (k H' S2)
          | true =>
            rw [ea, Bool.true_and] at k
            obtain ⟨z1, z2⟩ := nums_vs ea h2
            subst z1
            refine iteT ⟨_, rfl, _, rfl, p, a, ds, es.map intD, rfl, b.to S2, K0.seqT_same s' h1, by rw [List.length_map, hl], fun H3 S3 => k H3 (S2.trans S3)⟩
    · have k' := k H1 S1
      rw [isB_not (Bool.eq_false_iff.mpr e1)] at k'
      exact k'
end
end K1
set_option maxHeartbeats 4000000
/-! for x in zip(tuple, tuple), x a name: the pair that was told before may still be out -/
namespace K1
open PySem L2 PySem.Spec PyProof.Rows RZ
/-- a zip that has told a pair (at T) or none, whatever it knows of it -/
abbrev ZipS (h : Heap) (z TI TO : Addr) (f0 : Value) (f : Bool) : Prop :=
  h.get? z = some { cls := .type "zip", dict := none, data := .fields #[f0, .bool f, .bool false, .ref TI, .ref TO], slots := #[] }
section
variable {prog : Program} {w : World} {A : Around} {E : Value → Shared → Prop} {s : Shared}
/-- whether the pair is free: either answer is to do -/
theorem zs_free {z TI TO : Addr} {f0 : Value} {f : Bool} {Q : Bool → Shared → Prop} (hz : ZipS s.heap z TI TO f0 f) (hf : f0 = .none ∨ ∃ T : Addr, f0 = rawInt T) (h1 : Q true s)
    (h2 : ∀ h', ZipS h' z TI TO f0 true → Heap.SameBut z s.heap h' → Q false { s with heap := h' }) : wpAny (model prog w) A (Builtin.SmallTypes.ownedTupleIsFree (.ref z)) Q E s := by
  unfold Builtin.SmallTypes.ownedTupleIsFree
  rcases hf with rfl | ⟨T, rfl⟩
  · exact wpAny_bind (wpAny_field hz rfl (x := .none) rfl (wpAny_pure h1))
  refine wpAny_bind (wpAny_field hz rfl (x := rawInt T) rfl ?_)
  show wpAny _ _ (loadIfAlive ((T : Int).toNat) >>= _) _ _ _
  rw [Int.toNat_natCast]
  have ask : ∀ {R : Option Obj → Shared → Prop}, R (s.heap.get? T) s → wpAny (model prog w) A (loadIfAlive T) R E s := fun q => fun _ _ _ => q
  refine wpAny_bind (ask ?_)
  cases s.heap.get? T with
  | none =>
    simp only [Option.isNone_none, if_true]
    exact wpAny_pure h1
  | some o =>
    simp only [Option.isNone_some, Bool.false_eq_true, if_false]
    refine wpAny_bind (wpAny_field hz rfl (x := .bool f) rfl ?_)
    cases f with
    | true =>
      rw [if_neg (show ¬ ((Value.bool true != Value.bool true) = true) from Bool.false_ne_true)]
      exact wpAny_pure (h2 s.heap hz (Heap.SameBut.refl _ _))
    | false =>
      rw [if_pos (show (Value.bool false != Value.bool true) = true from rfl)]
      exact wpAny_bind (wpAny_setField_rec hz (by simp) fun h₁ hz₁ hs₁ => wpAny_pure (h2 h₁ hz₁ hs₁))
theorem zs_item {z TI TO i1 i2 l1 l2 : Addr} {k1 k2 : Nat} {xs ys : Array Value} {x y a b f0 : Value} {f : Bool} {Q : Value → Shared → Prop} (D : ZipApart z TI TO i1 i2 l1 l2)
    (hz : ZipS s.heap z TI TO f0 f) (hf : f0 = .none ∨ ∃ T : Addr, f0 = rawInt T) (hTI : IsPair s.heap TI (.ref i1) (.ref i2)) (hTO : IsPair s.heap TO a b)
    (h1 : s.heap.IsTupleIter i1 l1 k1) (h2 : s.heap.IsTupleIter i2 l2 k2) (hl1 : s.heap.IsTuple l1 xs) (hl2 : s.heap.IsTuple l2 ys) (hx : xs[k1]? = some x) (hy : ys[k2]? = some y)
    (hQ : ∀ h' g0 g c d, ZipS h' z TI TO g0 g → (g0 = .none ∨ ∃ T : Addr, g0 = rawInt T) → IsPair h' TO c d → h'.IsTupleIter i1 l1 (k1 + 1) → h'.IsTupleIter i2 l2 (k2 + 1) → IsPair h' s.heap.objs.size x y → h'.objs.size = s.heap.objs.size + 1 →
      (∀ c o, c ≠ z → c ≠ TO → c ≠ i1 → c ≠ i2 → s.heap.get? c = some o → h'.get? c = some o) → Q (.ref s.heap.objs.size) { s with heap := h' }) :
    wpAny (model prog w) A (Builtin.«zip.__next__» ⟨[.ref z], []⟩) (fun fin s' => ∃ v, fin = .done (.ret v) ∧ Q v s') E s := by
  show wpAny _ _ (field (.ref z) 2 >>= _) _ _ _
  refine wpAny_bind (wpAny_field hz rfl (x := .bool false) rfl ?_)
  show wpAny _ _ (field (.ref z) 3 >>= _) _ _ _
  refine wpAny_bind (wpAny_field hz rfl (x := .ref TI) rfl (wpAny_bind (wpAny_seqItems hTI rfl ?_)))
  show wpAny _ _ (Builtin.SmallTypes.ownedTupleIsFree (.ref z) >>= _) _ _ _
  refine wpAny_bind (zs_free hz hf ?_ fun h₁ hz₁ b₁ => ?_)
  · -- free: its own pair is filled anew
    simp only [if_true]
    refine wpAny_bind (wpAny_rule (wpAny_bind (wpAny_field hz rfl (x := .ref TO) rfl (wpAny_bind (wpAny_setField_rec hz (by simp) fun h₁ hz₁ b₁ => wpAny_bind ?_)))))
    replace hz₁ : ZipS h₁ z TI TO .ellipsis f := hz₁
    simp only [List.zipIdx_cons, List.zipIdx_nil, List.forIn_cons, List.forIn_nil]
    refine wpAny_bind (wpAny_bind (wpAny_onRaise ?_))
    show wpAny _ _ (Builtin.SmallTypes.nextOf (.ref i1) >>= _) _ _ _
    refine wpAny_bind (nextOf_tuple_item (h1.extBut b₁.extBut D.i1z) (hl1.extBut b₁.extBut D.l1z) hx fun h₂ n1 b₂ => wpAny_pure ?_)
    have t2 : IsPair h₂ TO a b := b₂.extBut _ _ D.TOi1 (b₁.extBut _ _ D.TOz hTO)
    refine wpAny_bind (wpAny_seqItems t2 rfl (wpAny_bind (wpAny_updateSeq_pair t2 fun h₃ t3 b₃ => wpAny_bind (wpAny_letGo (wpAny_pure ?_)))))
    replace t3 : IsPair h₃ TO x b := t3
    refine wpAny_bind (wpAny_bind (wpAny_onRaise ?_))
    show wpAny _ _ (Builtin.SmallTypes.nextOf (.ref i2) >>= _) _ _ _
    refine wpAny_bind (nextOf_tuple_item (((h2.extBut b₁.extBut D.i2z).extBut b₂.extBut D.i12.symm).extBut b₃.extBut D.TOi2.symm) (((hl2.extBut b₁.extBut D.l2z).extBut b₂.extBut D.l2i1).extBut b₃.extBut D.l2TO) hy fun h₄ n2 b₄ => wpAny_pure ?_)
    have t4 : IsPair h₄ TO x b := b₄.extBut _ _ D.TOi2 t3
    refine wpAny_bind (wpAny_seqItems t4 rfl (wpAny_bind (wpAny_updateSeq_pair t4 fun h₅ t5 b₅ => wpAny_bind (wpAny_letGo (wpAny_pure (wpAny_pure ?_))))))
    replace t5 : IsPair h₅ TO x y := t5
    refine wpAny_bind (wpAny_seqItems t5 rfl (wpAny_bind (wpAny_newTuple ?_)))
    have sz : h₅.objs.size = s.heap.objs.size := by rw [b₅.1, b₄.1, b₃.1, b₂.1, b₁.1]
    have z5 : ZipS h₅ z TI TO .ellipsis f := b₅.extBut _ _ D.TOz.symm (b₄.extBut _ _ D.i2z.symm (b₃.extBut _ _ D.TOz.symm (b₂.extBut _ _ D.i1z.symm hz₁)))
    have keep : ∀ c o, c ≠ z → c ≠ TO → c ≠ i1 → c ≠ i2 → s.heap.get? c = some o → h₅.get? c = some o := fun c o c1 c2 c3 c4 e => b₅.extBut _ _ c2 (b₄.extBut _ _ c4 (b₃.extBut _ _ c2 (b₂.extBut _ _ c3 (b₁.extBut _ _ c1 e))))
    have m1 : h₅.IsTupleIter i1 l1 (k1 + 1) := ((n1.extBut b₃.extBut D.TOi1.symm).extBut b₄.extBut D.i12).extBut b₅.extBut D.TOi1.symm
    have m2 : h₅.IsTupleIter i2 l2 (k2 + 1) := n2.extBut b₅.extBut D.TOi2.symm
    have zl : z < h₅.objs.size := Heap.lt_size z5
    show wpAny _ _ (Builtin.SmallTypes.ownedTupleHandOut (.ref z) (.ref h₅.objs.size) >>= _) _ _ _
    unfold Builtin.SmallTypes.ownedTupleHandOut
    have z6 : ZipS (h₅.push { cls := .type "tuple", data := .seq #[x, y] }) z TI TO .ellipsis f := Heap.get?_push_of_some _ z5
    refine wpAny_bind (wpAny_bind (wpAny_setField_rec z6 (by simp) fun h₇ z7 b₇ => ?_))
    replace z7 : ZipS h₇ z TI TO (rawInt h₅.objs.size) f := z7
    refine wpAny_setField_rec z7 (by simp) fun h₈ z8 b₈ => wpAny_pure ⟨_, rfl, ?_⟩
    replace z8 : ZipS h₈ z TI TO (rawInt h₅.objs.size) false := z8
    have up : ∀ c o, c ≠ z → h₅.get? c = some o → h₈.get? c = some o := fun c o c1 e => b₈.extBut _ _ c1 (b₇.extBut _ _ c1 (Heap.get?_push_of_some _ e))
    have t8 : IsPair h₈ h₅.objs.size x y := b₈.extBut _ _ (Nat.ne_of_gt zl) (b₇.extBut _ _ (Nat.ne_of_gt zl) (Heap.get?_push_size _ rfl))
    have s8 : h₈.objs.size = h₅.objs.size + 1 := by rw [b₈.1, b₇.1, Heap.size_push]
    show Q (.ref h₅.objs.size) _
    rw [sz] at z8 t8 s8 ⊢
    exact hQ h₈ _ _ _ _ z8 (.inr ⟨_, rfl⟩) (up _ _ D.TOz t5) (m1.at fun o e => up _ o D.i1z e) (m2.at fun o e => up _ o D.i2z e) t8 s8 fun c o c1 c2 c3 c4 e => up c o c1 (keep c o c1 c2 c3 c4 e)
  · -- still out: a new pair
    simp only [Bool.false_eq_true, if_false]
    refine wpAny_bind ?_
    rw [← Array.forIn_toList]
    simp only [List.forIn_cons, List.forIn_nil]
    refine wpAny_bind (wpAny_bind (wpAny_holding ?_))
    show wpAny _ _ (Builtin.SmallTypes.nextOf (.ref i1) >>= _) _ _ _
    refine wpAny_bind (nextOf_tuple_item (s := { s with heap := h₁ }) (h1.extBut b₁.extBut D.i1z) (hl1.extBut b₁.extBut D.l1z) hx fun h₂ n1 b₂ => wpAny_pure (wpAny_pure ?_))
    refine wpAny_bind (wpAny_bind (wpAny_holding ?_))
    show wpAny _ _ (Builtin.SmallTypes.nextOf (.ref i2) >>= _) _ _ _
    refine wpAny_bind (nextOf_tuple_item (s := { s with heap := h₂ }) ((h2.extBut b₁.extBut D.i2z).extBut b₂.extBut D.i12.symm) ((hl2.extBut b₁.extBut D.l2z).extBut b₂.extBut D.l2i1) hy fun h₃ n2 b₃ => wpAny_pure (wpAny_pure (wpAny_pure ?_)))
    show wpAny _ _ (newTuple [x, y] >>= _) _ _ _
    refine wpAny_bind (wpAny_newTuple (wpAny_pure ⟨_, rfl, ?_⟩))
    have sz : h₃.objs.size = s.heap.objs.size := by rw [b₃.1, b₂.1, b₁.1]
    have z3 : ZipS h₃ z TI TO f0 true := b₃.extBut _ _ D.i2z.symm (b₂.extBut _ _ D.i1z.symm hz₁)
    have keep : ∀ c o, c ≠ z → c ≠ i1 → c ≠ i2 → s.heap.get? c = some o → h₃.get? c = some o := fun c o c1 c2 c3 e => b₃.extBut _ _ c3 (b₂.extBut _ _ c2 (b₁.extBut _ _ c1 e))
    have m1 : h₃.IsTupleIter i1 l1 (k1 + 1) := n1.extBut b₃.extBut D.i12
    have tp : IsPair (h₃.push { cls := .type "tuple", data := .seq #[x, y] }) h₃.objs.size x y := Heap.get?_push_size _ rfl
    have s4 : (h₃.push { cls := .type "tuple", data := .seq #[x, y] }).objs.size = h₃.objs.size + 1 := Heap.size_push ..
    show Q (.ref h₃.objs.size) _
    rw [sz] at tp s4 ⊢
    exact hQ _ _ _ _ _ (Heap.get?_push_of_some _ z3) hf (Heap.get?_push_of_some _ (keep _ _ D.TOz D.TOi1 D.TOi2 hTO)) (m1.at fun o e => Heap.get?_push_of_some _ e) (n2.at fun o e => Heap.get?_push_of_some _ e) tp s4 fun c o c1 _ c3 c4 e => Heap.get?_push_of_some _ (keep c o c1 c3 c4 e)
theorem zs_end {z TI TO i1 i2 l1 l2 : Addr} {k1 k2 : Nat} {xs ys : Array Value} {a b f0 : Value} {f : Bool} {Q : Fin → Shared → Prop} (hh : A.handled = none) (D : ZipApart z TI TO i1 i2 l1 l2)
    (hz : ZipS s.heap z TI TO f0 f) (hf : f0 = .none ∨ ∃ T : Addr, f0 = rawInt T) (hTI : IsPair s.heap TI (.ref i1) (.ref i2)) (hTO : IsPair s.heap TO a b)
    (h1 : s.heap.IsTupleIter i1 l1 k1) (h2 : s.heap.IsTupleIter i2 l2 k2) (hl1 : s.heap.IsTuple l1 xs) (hl2 : s.heap.IsTuple l2 ys) (hend : xs[k1]? = none)
    (hE : ∀ h' e, (∀ c o, c ≠ z → c ≠ TO → c ≠ i1 → c ≠ i2 → s.heap.get? c = some o → h'.get? c = some o) → (∃ o, h'.get? e = some o ∧ o.cls = .type "StopIteration") → E (.ref e) { s with heap := h' }) :
    wpAny (model prog w) A (Builtin.«zip.__next__» ⟨[.ref z], []⟩) Q E s := by
  show wpAny _ _ (field (.ref z) 2 >>= _) _ _ _
  refine wpAny_bind (wpAny_field hz rfl (x := .bool false) rfl ?_)
  show wpAny _ _ (field (.ref z) 3 >>= _) _ _ _
  refine wpAny_bind (wpAny_field hz rfl (x := .ref TI) rfl (wpAny_bind (wpAny_seqItems hTI rfl ?_)))
  show wpAny _ _ (Builtin.SmallTypes.ownedTupleIsFree (.ref z) >>= _) _ _ _
  refine wpAny_bind (zs_free hz hf ?_ fun h₁ hz₁ b₁ => ?_)
  · simp only [if_true]
    refine wpAny_bind (wpAny_rule (wpAny_bind (wpAny_field hz rfl (x := .ref TO) rfl (wpAny_bind (wpAny_setField_rec hz (by simp) fun h₁ hz₁ b₁ => wpAny_bind ?_)))))
    replace hz₁ : ZipS h₁ z TI TO .ellipsis f := hz₁
    simp only [List.zipIdx_cons, List.zipIdx_nil, List.forIn_cons, List.forIn_nil]
    refine wpAny_bind (wpAny_bind (wpAny_onRaise ?_))
    show wpAny _ _ (Builtin.SmallTypes.nextOf (.ref i1) >>= _) _ _ _
    refine wpAny_bind (nextOf_tuple_end hh (h1.extBut b₁.extBut D.i1z) (hl1.extBut b₁.extBut D.l1z) hend fun h₂ e b₂ he => ?_)
    obtain ⟨oe, hoe, hce⟩ := he
    have z2 : ZipS h₂ z TI TO .ellipsis f := b₂ _ _ D.i1z.symm hz₁
    have ez : e ≠ z := fun x => by subst x; rw [z2] at hoe; cases hoe; simp at hce
    exact wpAny_setField_rec z2 (by simp) fun h₃ _ b₃ => hE h₃ e (fun c o c1 _ c3 _ x => b₃.extBut _ _ c1 (b₂ _ _ c3 (b₁.extBut _ _ c1 x))) ⟨oe, b₃.extBut _ _ ez hoe, hce⟩
  · simp only [Bool.false_eq_true, if_false]
    refine wpAny_bind ?_
    rw [← Array.forIn_toList]
    simp only [List.forIn_cons, List.forIn_nil]
    refine wpAny_bind (wpAny_bind (wpAny_holding ?_))
    show wpAny _ _ (Builtin.SmallTypes.nextOf (.ref i1) >>= _) _ _ _
    exact wpAny_bind (nextOf_tuple_end (s := { s with heap := h₁ }) hh (h1.extBut b₁.extBut D.i1z) (hl1.extBut b₁.extBut D.l1z) hend fun h₂ e b₂ he => hE h₂ e (fun c o c1 _ c3 _ x => b₂ _ _ c3 (b₁.extBut _ _ c1 x)) he)
end
/-- the tuples at a and b as they stand at each turn, the items in new pairs; it ends where the first one ends -/
def ItzN (K : PySem.W.Frag) (a b : Addr) : It :=
  ⟨fun i H => ∃ (xs ys : List V) (x y : V), SqT K H a xs ∧ SqT K H b ys ∧ xs[i]? = some x ∧ ys[i]? = some y,
    fun i H v H' => ∃ T x y, v = .ref T ∧ H T = none ∧ H' = upd H T (.tup [x, y]) ∧ (∀ xs, SqT K H a xs → xs[i]? = some x) ∧ ∀ ys, SqT K H b ys → ys[i]? = some y,
    fun i H => ∃ xs ys : List V, SqT K H a xs ∧ SqT K H b ys ∧ xs.length ≤ i⟩
theorem turn_zipN {P : Program} {w : World} {K : PySem.W.Frag} {x : Str} {tpos : Pos} {a b z TI TO i1 i2 : Addr} (D : ZipApart z TI TO i1 i2 a b) :
    Turn P w K (.Name x tpos) (ItzN K a b) [z, TI, TO, i1, i2] z (fun i h => (∃ f0 f, ZipS h z TI TO f0 f ∧ (f0 = .none ∨ ∃ T : Addr, f0 = rawInt T)) ∧ IsPair h TI (.ref i1) (.ref i2) ∧ (∃ x y, IsPair h TO x y) ∧ h.IsTupleIter i1 a i ∧ h.IsTupleIter i2 b i) where
  mem := by simp
  obj := fun i h st c hc => by
    obtain ⟨⟨f0, f, hz, _⟩, hTI, ⟨x, y, hTO⟩, ⟨o1, e1, _, d1⟩, ⟨o2, e2, _, d2⟩⟩ := st
    have e' : c = z ∨ c = TI ∨ c = TO ∨ c = i1 ∨ c = i2 := by simpa using hc
    rcases e' with q | q | q | q | q
    · rw [q]; exact ⟨_, hz, fun v q => nomatch q⟩
    · rw [q]; exact ⟨_, hTI, fun v q => nomatch q⟩
    · rw [q]; exact ⟨_, hTO, fun v q => nomatch q⟩
    · rw [q]; exact ⟨o1, e1, fun v q => by rw [d1] at q; cases q⟩
    · rw [q]; exact ⟨o2, e2, fun v q => by rw [d2] at q; cases q⟩
  keep := fun i h h' st k => by
    obtain ⟨⟨f0, f, hz, hf⟩, hTI, ⟨x, y, hTO⟩, h1, h2⟩ := st
    exact ⟨⟨f0, f, k z (by simp) _ hz, hf⟩, k TI (by simp) _ hTI, ⟨x, y, k TO (by simp) _ hTO⟩, h1.at fun o q => k i1 (by simp) o q, h2.at fun o q => k i2 (by simp) o q⟩
  item := by
    intro X hP hw hK hc i pins s σ H E I hf st hg
    subst hP hw hK
    obtain ⟨⟨f0, f, hz, hfree⟩, hTI, ⟨x0, y0, hTO⟩, h1, h2⟩ := st
    obtain ⟨xs, ys, x, y, hqx, hqy, hx, hy⟩ := hg
    obtain ⟨its, rv, p, _⟩ := I.tuple hqx
    obtain ⟨its2, rv2, p2, _⟩ := I.tuple hqy
    obtain ⟨u, hu, ru⟩ := rv.get hx
    obtain ⟨u2, hu2, ru2⟩ := rv2.get hy
    have hzl : z < s.heap.objs.size := Heap.lt_size hz
    have hTy : s.TypeIs (.ref z) "zip" := ⟨_, hz, rfl⟩
    unfold pyNext
    refine wpAny_bind (wpAny_attempt (wpAny_callSpecial?_slot (name := Str.ofString "__next__") hTy F.slot_zip_next
      (wpAny_call_entry F.slot_zip_next hTy F.entry_zip_next
        (zs_item D hz hfree hTI hTO h1 h2 p p2 (x := u) (y := u2) (by simpa using hu) (by simpa using hu2) fun h' g0 g c d z' hg0 TO' h1' h2' hT hsz hk => wpAny_pure ?_) (F.args_zip_next_1 _))))
    refine ⟨_, rfl, ?_⟩
    have new : ObjOk X.prog X.w (upd H s.heap.objs.size (.tup [x, y])) h' s.heap.objs.size (.tup [x, y]) := ⟨by show 2 ≤ sizeLine; decide, [u, u2], .cons ru (.cons ru2 .nil), ⟨_, hT, rfl, _, rfl⟩⟩
    have I1 : Inv X pins σ (upd H s.heap.objs.size (.tup [x, y])) { s with heap := h' } :=
      I.turnedNew (t' := s.toks) (ch := [z, TI, TO, i1, i2]) (fun c o hb q => hk c o (fun q' => hb (by simp [q'])) (fun q' => hb (by simp [q'])) (fun q' => hb (by simp [q'])) (fun q' => hb (by simp [q'])) q) hf (Nat.le_refl _) new
    unfold letOwnedTupleGo
    refine wpAny_pure ⟨.ref s.heap.objs.size, _, I1, rfl, ⟨_, x, y, rfl, I.hok.fresh (Nat.le_refl _), rfl, fun l hl => by rw [I.tuple_inj hl hqx]; exact hx, fun l hl => by rw [I.tuple_inj hl hqy]; exact hy⟩, ⟨⟨_, _, z', hg0⟩, ?_, ⟨c, d, TO'⟩, h1', h2'⟩, fun c hcm => ?_⟩
    · exact hk _ _ D.TIz D.TITO D.TIi1 D.TIi2 hTI
    · have hlt : c < s.heap.objs.size := by
        have e' : c = z ∨ c = TI ∨ c = TO ∨ c = i1 ∨ c = i2 := by simpa using hcm
        rcases e' with q | q | q | q | q
        · rw [q]; exact hzl
        · rw [q]; exact Heap.lt_size hTI
        · rw [q]; exact Heap.lt_size hTO
        · rw [q]; obtain ⟨_, e1, _⟩ := h1; exact Heap.lt_size e1
        · rw [q]; obtain ⟨_, e2, _⟩ := h2; exact Heap.lt_size e2
      rw [upd_ne (Nat.ne_of_lt hlt)]
      exact (hf c hcm).1
  done := by
    intro X hP hw hK hc i pins s σ H E I hf st hg
    subst hP hw hK
    obtain ⟨⟨f0, f, hz, hfree⟩, hTI, ⟨x0, y0, hTO⟩, h1, h2⟩ := st
    obtain ⟨xs, ys, hqx, hqy, hend⟩ := hg
    obtain ⟨its, rv, p, _⟩ := I.tuple hqx
    obtain ⟨its2, rv2, p2, _⟩ := I.tuple hqy
    have l1 := rv.length
    have he : its.toArray[i]? = none := by simp; omega
    have hTy : s.TypeIs (.ref z) "zip" := ⟨_, hz, rfl⟩
    unfold pyNext
    refine wpAny_bind (wpAny_attempt (wpAny_callSpecial?_slot (name := Str.ofString "__next__") hTy F.slot_zip_next
      (wpAny_call_entry F.slot_zip_next hTy F.entry_zip_next (zs_end (I.ok.hd hc) D hz hfree hTI hTO h1 h2 p p2 he fun h' e hk he => ?_) (F.args_zip_next_1 _))))
    obtain ⟨o, ho, hc⟩ := he
    refine wpAny_bind (wpAny_isInstance (T := "StopIteration") (b := true) ⟨o, ho, hc⟩ isSubtype_stop ?_)
    exact wpAny_pure ⟨rfl, I.turnedL (t' := s.toks) (ch := [z, TI, TO, i1, i2]) (fun c o hb q => hk c o (fun q' => hb (by simp [q'])) (fun q' => hb (by simp [q'])) (fun q' => hb (by simp [q'])) (fun q' => hb (by simp [q'])) q) hf⟩
  self := fun A i s Q E st h => by
    obtain ⟨⟨f0, f, hz, _⟩, _⟩ := st
    have hT : s.TypeIs (.ref z) "zip" := ⟨_, hz, rfl⟩
    refine wpAny_pyIter_slot hT F.slot_zip_iter (wpAny_call_entry F.slot_zip_iter hT F.entry_zip_iter ?_ (F.args_zip_iter_1 _))
    show wpAny _ _ (ret (.ref z)) _ _ s
    exact wpAny_pure ⟨_, rfl, "zip", _, hT, F.slot_zip_next.lookup, h⟩
def iZipN (K : PySem.W.Frag) (ta : TA) : TI := fun σ H R => ta σ H fun vs H1 => ∃ a b xs ys, vs = [.ref a, .ref b] ∧ SqT K H1 a xs ∧ SqT K H1 b ys ∧ R (ItzN K a b) H1
theorem pi_zipN {X : Cx} {e e2 : Expr} {ta : TA} {p pos tpos : Pos} {x : Str} (hg : Gl X "zip") (hm : X.mg "zip" = none) (ha : PA X [e, e2] ta)
    (hs : starEach [e, e2] X.env = (false, eval e X.env) :: starEach [e2] X.env := by rfl) (hpl : (backTo pos (starEach [e2] X.env)).any (·.1) = false := by rfl) :
    PI X (.Name x tpos) (.Call (.Name "zip" p) [e, e2] [] pos) (iZipN X.K ta) := by
  refine ⟨fun pins s σ H R I h => ?_⟩
  refine Call_ (ld_blt I hg hm PyProof.Rows.boot_zip (PyProof.Rows.callWith_type1 (thn (ha.run pos pins s σ H _ I h) fun us s1 ⟨vs, H1, I1, r1, q1⟩ => ?_) hs hpl))
  obtain ⟨a, b, xs, ys, rfl, hqx, hqy, q⟩ := q1
  obtain ⟨v1, v2, rfl, rv1, rv2⟩ : ∃ v1 v2, us = [v1, v2] ∧ RelV (.ref a) v1 ∧ RelV (.ref b) v2 := by
    cases r1 with
    | cons r rr =>
      cases rr with
      | cons r' rr =>
        cases rr
        exact ⟨_, _, rfl, r, r'⟩
  cases rv1
  cases rv2
  obtain ⟨its, rv, p1, _⟩ := I1.tuple hqx
  obtain ⟨its2, rv2, p2, _⟩ := I1.tuple hqy
  obtain ⟨o1, ho1, _⟩ := id p1
  obtain ⟨o2, ho2, _⟩ := id p2
  refine call_zipT p1 p2 fun h' hz hTI hTO h1 h2 hsz hk => wpAny_pyIter_zip hz ?_
  have I2 : Inv X pins σ H1 { s1 with heap := h' } := I1.kept (t' := s1.toks) hk
  refine ⟨s1.heap.objs.size + 4, [s1.heap.objs.size + 4, s1.heap.objs.size + 2, s1.heap.objs.size + 3, s1.heap.objs.size, s1.heap.objs.size + 1], _, _, H1, rfl, I2, turn_zipN (PySem.W.ktu_apart s1.heap.objs.size a b (Heap.lt_size ho1) (Heap.lt_size ho2)), ⟨⟨_, _, hz, .inl rfl⟩, hTI, ⟨_, _, hTO⟩, h1, h2⟩, fun c hcm => ?_, q⟩
  have e' : c = s1.heap.objs.size + 4 ∨ c = s1.heap.objs.size + 2 ∨ c = s1.heap.objs.size + 3 ∨ c = s1.heap.objs.size ∨ c = s1.heap.objs.size + 1 := by simpa using hcm
  have hle : s1.heap.objs.size ≤ c := by
    rcases e' with z | z | z | z | z
    · rw [z]; exact Nat.le_add_right _ _
    · rw [z]; exact Nat.le_add_right _ _
    · rw [z]; exact Nat.le_add_right _ _
    · rw [z]; exact Nat.le_refl _
    · rw [z]; exact Nat.le_add_right _ _
  exact I1.fpOk hle (I1.hok.fresh hle)
theorem walk_zipN {K : PySem.W.Frag} {a b : Addr} {xs ys : List V} (hl : xs.length = ys.length) : Walk (ItzN K a b) xs.length (fun H => SqT K H a xs ∧ SqT K H b ys) (YPair (fun i => xs[i]?) (fun i => ys[i]?)) :=
  ⟨fun i H hi q => ⟨xs, ys, xs[i], ys[i]'(by omega), q.1, q.2, by simp [hi], by simp [show i < ys.length by omega]⟩, fun H q => ⟨xs, ys, q.1, q.2, Nat.le_refl _⟩, fun i H x H' hi q y => by
    obtain ⟨T, u, v, e, n, e2, h1, h2⟩ := y
    exact ⟨T, u, v, e, n, e2, h1 xs q.1, h2 ys q.2⟩⟩
end K1
set_option maxHeartbeats 4000000
/-! check_branch, has_stamp, _closure, _joined, all_of and what asks them -/
namespace K1
open PySem L2 PySem.Spec PyProof.Rows RZ
theorem fold_min : ∀ (ns : List Int) (n : Int), ns.foldl min n ∈ n :: ns ∧ ∀ y ∈ n :: ns, ns.foldl min n ≤ y
  | [], n => ⟨List.mem_singleton.mpr rfl, fun y hy => by rw [List.mem_singleton.mp hy]; exact Int.le_refl _⟩
  | a :: ns, n => by
    obtain ⟨h1, h2⟩ := fold_min ns (min n a)
    have e : (a :: ns).foldl min n = ns.foldl min (min n a) := rfl
    rw [e]
    refine ⟨?_, fun y hy => ?_⟩
    · rcases List.mem_cons.mp h1 with z | z
      · rw [z]
        by_cases c : n ≤ a
        · rw [Int.min_eq_left c]
          exact List.mem_cons_self
        · rw [Int.min_eq_right (by omega)]
          exact List.mem_cons_of_mem _ List.mem_cons_self
      · exact List.mem_cons_of_mem _ (List.mem_cons_of_mem _ z)
    · have hm := h2 (min n a) List.mem_cons_self
      rcases List.mem_cons.mp hy with z | z
      · rw [z]
        omega
      · rcases List.mem_cons.mp z with z | z
        · rw [z]
          omega
        · exact h2 y (List.mem_cons_of_mem _ z)
def rMinT (K : PySem.W.Frag) : List V → Hp → VK → Prop := fun vs H Q => ∃ (a : Addr) (n : Int) (ns : List Int), vs = [V.ref a] ∧ SqT K H a ((n :: ns).map V.int) ∧ Q (.int (ns.foldl min n)) H
theorem cr_minT {X : Cx} (hc : X.calm = true) (hu : X.A.units + 64 < cLine) : CallR X (.builtin "min") (rMinT X.K) := by
  intro pins s σ H vs us Q I r h
  obtain ⟨a, n, ns, rfl, hs, q⟩ := h
  obtain ⟨its, rv, hl, _⟩ := I.tuple hs
  rw [Vals.ref1 r]
  have HH := PySem.W.HoldAll.of_ints (h := s.heap) rv.ints
  refine PySem.W.min_tuple_datum (α := Int) (I.ok.hd hc) hl (x := n) (xs := ns) HH (by show X.A.units + 1 + 0 < cLine; omega) fun i v h' tk hi hv hk => ?_
  obtain ⟨as, hv⟩ := hv
  have hv' : Reads h' v (.int (PySem.W.minOf n ns)) as := hv
  obtain ⟨t, rfl⟩ : ∃ t, v = Value.int (PySem.W.minOf n ns) t := by
    generalize PySem.W.minOf n ns = M at hv'
    cases hv' with
    | int _ t => exact ⟨t, rfl⟩
  have e : PySem.W.minOf n ns = ns.foldl min n := by
    unfold PySem.W.minOf
    congr 1
    funext a y
    show (if decide (y < a) = true then y else a) = min a y
    by_cases c : y < a
    · rw [if_pos (decide_eq_true c), Int.min_eq_right (by omega)]
    · rw [if_neg (fun z => c (of_decide_eq_true z)), Int.min_eq_left (by omega)]
  rw [e]
  exact ⟨.int _, H, I.kept hk, ⟨_, rfl⟩, q⟩
/-- a branch that a deed closes -/
def closeD (d : PyData) : List Int := (snD d).set (handD d) (tmD d)
theorem range_ints {l : List Int} (h : l.length = 4) : (List.range 4).map (fun i => V.int (l.getD i 0)) = l.map V.int := by
  obtain ⟨a, b, c, d, rfl⟩ := list4 h
  rfl
theorem close_len {d : PyData} (h : (snD d).length = 4) : (closeD d).length = 4 := by
  unfold closeD
  rw [List.length_set, h]
def spCkBr (K : PySem.W.Frag) (C Cn : Addr) : Sp := fun vs H Q E => ∃ p ds v d, vs = [.ref p, v] ∧ BookAt K C H p ds ∧ DQ K H v d ∧ okOr Cn (isB ds d) v H E (∀ H', Same H H' → Q .non H')
def spHasSt (K : PySem.W.Frag) : Sp := fun vs H Q _ => ∃ (b s : Addr) (es : List Int) (t : Int) (h : Nat), vs = [.ref b, .ref s] ∧ SqT K H b (es.map V.int) ∧ es.length = 4 ∧ SqT K H s [.int t, .int (h : Int)] ∧ h < 4 ∧ Q (.bl (decide (t ≤ es.getD h 0))) H
def spClosure (K : PySem.W.Frag) : Sp := fun vs H Q _ => ∃ v d, vs = [v] ∧ DQ K H v d ∧ deedD d = true ∧ ∀ H' q, Same H H' → SqT K H' q ((closeD d).map V.int) → Q (.ref q) H'
def spJoined (K : PySem.W.Frag) (f : Int → Int → Int) : Sp := fun vs H Q _ => ∃ (a b : Addr) (es fs : List Int), vs = [.ref a, .ref b] ∧ SqT K H a (es.map V.int) ∧ SqT K H b (fs.map V.int) ∧ es.length = 4 ∧ fs.length = 4 ∧ ∀ H' q, Same H H' → SqT K H' q ((List.zipWith f es fs).map V.int) → Q (.ref q) H'
section
variable {P : Program} {w : World} {K : PySem.W.Frag} {mg : Str → Option Value} {base : Heap} {C : Addr} {c : Nat → Addr}
theorem sc_ckBr : FnScope ["book", "branch"] ["book", "branch"] (defScope (top 48)) := ⟨rfl, rfl, rfl, by decide +kernel, rfl, by decide +kernel, by decide +kernel⟩
theorem cl_ckBr (T : All K mg) (W : BkAll K mg C c) : ClX P w K mg base 12 "check_branch" ["book", "branch"] (spCkBr K C (c 4)) := by
  obtain ⟨g, fd, D⟩ := T.dn 48 _ _ rfl
  obtain ⟨fb, Rb⟩ := W.Rbr
  refine D.clX (D.fn.okX sc_ckBr (fun vs H Q E h => ?_) (fun cdv A outer s H vs Q E hr h => ?_))
  · obtain ⟨p, ds, v, d, rfl, _⟩ := h
    rfl
  · obtain ⟨p, ds, v, d, rfl, b, hd, k⟩ := h
    refine ⟨_, pss_one (ps_if (pt_not (pt_val (pe_cl (cl_isB T W) hr (by decide) (pa_cons (pv 0) (pa_cons (pv 1) pa_nil))))) (pss_one (ps_raise rfl (takes_of rfl rfl rfl rfl) (pmk_err Rb hr (by decide) (pa_cons (pv 1) pa_nil)))) pss_nil), ?_⟩
    refine ⟨_, rfl, _, rfl, p, ds, v, d, rfl, b, hd, fun H1 S1 => ⟨_, rfl, ?_⟩⟩
    cases e : isB ds d with
    | true =>
      rw [e] at k
      exact iteF (k.1 rfl H1 S1)
    | false =>
      rw [e] at k
      exact iteT ⟨_, rfl, _, rfl, fun H2 d2 S2 h2 => k.2 rfl H2 d2 (S1.trans S2) h2⟩
theorem sc_hasSt : FnScope ["branch", "stamp"] ["branch", "stamp"] (defScope (top 55)) := ⟨rfl, rfl, rfl, by decide +kernel, rfl, by decide +kernel, by decide +kernel⟩
theorem cl_hasSt (T : All K mg) : Cl P w K mg base 1 "has_stamp" ["branch", "stamp"] (spHasSt K) := by
  obtain ⟨g, fd, D⟩ := T.dn 55 _ _ rfl
  refine D.cl (D.fn.ok sc_hasSt (fun vs H Q E h => ?_) (fun cdv A outer s H vs Q E hr h => ?_))
  · obtain ⟨b, s, es, t, h, rfl, _⟩ := h
    rfl
  · obtain ⟨b, s, es, t, h, rfl, hb, h4, hs, hh, k⟩ := h
    refine ⟨_, pss_one (ps_ret (pe_cmpR op_le (pe_ix ix_tup (pv 1) pe_int (fun _ _ => rfl)) (pe_ix ix_tup (pv 0) (pe_ix ix_tup (pv 1) pe_int (fun _ _ => rfl)) (fun _ _ => rfl)) (nomark _))), ?_⟩
    exact ⟨_, rfl, s, _, _, _, rfl, rfl, hs, atI_nat (j := 0) rfl, _, rfl, _, rfl, s, _, _, _, rfl, rfl, hs, atI_nat (j := 1) rfl, b, _, _, _, rfl, rfl, hb, at_int (by omega), _, _, rfl, rfl, k⟩
theorem sc_clos : FnScope ["deed", "stamp", "seen", "_", "hand", "time"] ["deed"] (defScope (top 57)) := ⟨rfl, rfl, rfl, by decide +kernel, rfl, by decide +kernel, by decide +kernel⟩
theorem cl_clos (T : All K mg) (W : BkAll K mg C c) : Cl P w K mg base 1 "_closure" ["deed"] (spClosure K) := by
  obtain ⟨g, fd, D⟩ := T.dn 57 _ _ rfl
  refine D.cl (D.fn.ok sc_clos (fun vs H Q E h => ?_) (fun cdv A outer s H vs Q E hr h => ?_))
  · obtain ⟨v, d, rfl, _⟩ := h
    rfl
  · obtain ⟨v, d, rfl, hd, rd, k⟩ := h
    refine ⟨_, pss_cons (ps_asg (pv 0) (pg_tup (t := (gCons (gName 1) (gCons (gName 2) (gCons (gName 3) gNil)))) rfl (pgs_cons (pg_name (i := 1) sc_clos.nd rfl (Or.inr rfl)) (pgs_cons (pg_name (i := 2) sc_clos.nd rfl (Or.inl rfl)) (pgs_cons (pg_name (i := 3) sc_clos.nd rfl (Or.inl rfl)) pgs_nil)))))
      (pss_one (ps_ret (pe_callTy call_tuple_of (by rfl) T.bi.tuple (by decide +kernel) (pa_cons (pe_lc (own := [("hand", 4), ("time", 5)]) (g := gTup K 2 (gCons (gName 4) (gCons (gName 5) gNil))) (te := tIf (tTest (tOp rEq (tVar 4) (tOp (rIxT K) (tVar 1) (tC (.int 1))))) (tOp (rIxT K) (tVar 1) (tC (.int 0))) (tVar 5)) (tt := tYes) rfl sc_clos.nd (pi_enumA (by rfl) W.enu (pa_cons (pv 2) pa_nil)) (blkOk_by (own := [("hand", 4), ("time", 5)]) (N := ["deed", "stamp", "seen", "_", "hand", "time"]) (sc := defScope (top 57)) (by decide +kernel))
        (fun _ _ _ _ _ => pg_tup rfl (pgs_cons (pg_name (i := 4) sc_clos.nd rfl (Or.inl rfl)) (pgs_cons (pg_name (i := 5) sc_clos.nd rfl (Or.inl rfl)) pgs_nil))) (fun _ _ _ _ _ => pts_nil) (fun _ _ _ _ _ => pe_ifExp (pt_cmpR op_eq (pv 4) (pe_ix ix_tup (pv 1) pe_int (fun _ _ => rfl)) (nomark _)) (pe_ix ix_tup (pv 1) pe_int (fun _ _ => rfl)) (pv 5))) pa_nil)))), ?_⟩
    obtain ⟨⟨a, sa, ka, ub, t, j, x, l, rfl, h1, h2, h3, _, hk, _⟩, p4, _⟩ := parts_of hd rd
    rw [key_of rd] at hk
    obtain rfl : tmD d = t := (List.cons.inj hk).1
    obtain rfl : (handD d : Int) = j := (List.cons.inj (List.cons.inj hk).2).1
    have hh := hand_lt rd
    refine ⟨_, rfl, a, _, rfl, h1, rfl, _, _, rfl, _, _, rfl, _, _, rfl, rfl, ?_⟩
    refine ⟨_, rfl, ka, _, rfl, .inr ⟨h3, fun Dd nD => ?_⟩⟩
    refine lc_it (walk_enumT (K := K) (a := ka) (xs := (snD d).map V.int)) (fun i H' => Same H H' ∧ H' Dd = some (.lst ((List.range i).map fun n => V.int ((closeD d).getD n 0)))) ⟨K0.same_upd nD, upd_same⟩ (fun i H' _ ⟨s, _⟩ => K0.seqT_same s h3) ?_ (fun H' ⟨s, hD⟩ => ?_)
    · rintro i y J J' hi ⟨s, hD⟩ ⟨T0, u, v, rfl, nT, rfl, e1, e2⟩
      rw [List.length_map, p4] at hi
      cases e1
      cases int_at e2
      have s2 := K0.same_upd (o := .tup [.int (i : Int), .int ((snD d).getD i 0)]) nT
      have hT := @upd_same J T0 (.tup [.int (i : Int), .int ((snD d).getD i 0)])
      generalize upd J T0 (.tup [.int (i : Int), .int ((snD d).getD i 0)]) = J2 at s2 hT ⊢
      have s02 := s.trans s2
      have gi : (closeD d).getD i 0 = if handD d = i then tmD d else (snD d).getD i 0 := getD_seti (by rw [p4]; exact hi)
      refine ⟨_, _, rfl, .inl (.inl hT), rfl, _, _, rfl, _, _, rfl, rfl, rfl, ?_⟩
      unfold tYes
      dsimp only
      rw [if_pos rfl]
      refine ⟨_, rfl, _, rfl, sa, _, _, _, rfl, rfl, K0.seqT_same s02 h2, atI_nat (j := 1) rfl, rfl, _, rfl, ?_⟩
      rw [dec_int]
      have fin : ∀ z : Int, (closeD d).getD i 0 = z → ∃ acc, J2 Dd = some (.lst acc) ∧ acc.length < sizeLine ∧ Same H (upd J2 Dd (.lst (acc ++ [V.int z]))) ∧ upd J2 Dd (.lst (acc ++ [V.int z])) Dd = some (.lst ((List.range (i + 1)).map fun n => V.int ((closeD d).getD n 0))) := fun z hz => by
        refine ⟨_, s2 _ _ hD, ?_, K0.same_over s02 nD, ?_⟩
        · rw [List.length_map, List.length_range, sizeLine_eq]
          omega
        · rw [upd_same, List.range_succ, List.map_append, ← hz]
          rfl
      by_cases c : i = handD d
      · rw [show ((i : Int) == (handD d : Int)) = true by rw [c]; exact beq_self_eq_true _]
        refine iteT ⟨_, rfl, sa, _, _, _, rfl, rfl, K0.seqT_same s02 h2, atI_nat (j := 0) rfl, ?_⟩
        exact fin _ (gi.trans (if_pos c.symm))
      · rw [show ((i : Int) == (handD d : Int)) = false from beq_eq_false_iff_ne.mpr (fun z => c (by omega))]
        exact iteF ⟨_, rfl, fin _ (gi.trans (if_neg (Ne.symm c)))⟩
    · rw [List.length_map, p4, range_ints (close_len p4)] at hD
      refine ⟨Dd, _, rfl, .inl ⟨SqL.of hD, fun q nq => ?_⟩⟩
      exact k _ q (s.trans (K0.same_upd nq)) (SqT.of upd_same)
theorem sc_joined : FnScope ["one", "other", "pair"] ["one", "other"] (defScope (top 58)) := ⟨rfl, rfl, rfl, by decide +kernel, rfl, by decide +kernel, by decide +kernel⟩
theorem cl_joined (T : All K mg) (M : Nms mg) (W : BkAll K mg C c) : Cl P w K mg base 1 "_joined" ["one", "other"] (spJoined K max) := by
  obtain ⟨g, fd, D⟩ := T.dn 58 _ _ rfl
  refine D.cl (D.fn.ok sc_joined (fun vs H Q E h => ?_) (fun cdv A outer s H vs Q E hr h => ?_))
  · obtain ⟨a, b, es, fs, rfl, _⟩ := h
    rfl
  · obtain ⟨a, b, es, fs, rfl, ha, hb, l1, l2, k⟩ := h
    refine ⟨_, pss_one (ps_ret (pe_callTy call_tuple_of (by rfl) T.bi.tuple (by decide +kernel) (pa_cons (pe_lc (own := [("pair", 2)]) (g := gName 2) (te := tCB (rMaxT K) (tCons (tVar 2) tNil)) (tt := tYes) rfl sc_joined.nd (pi_zipN (by rfl) W.zip (pa_cons (pv 0) (pa_cons (pv 1) pa_nil))) (blkOk_by (own := [("pair", 2)]) (N := ["one", "other", "pair"]) (sc := defScope (top 58)) (by decide +kernel))
        (fun _ _ _ _ _ => pg_name (i := 2) sc_joined.nd rfl (Or.inl rfl)) (fun _ _ _ _ _ => pts_nil) (fun _ _ _ _ _ => pe_callB (cr_maxT rfl hr.units) (by rfl) M.max (by decide +kernel) (pa_cons (pv 2) pa_nil))) pa_nil))), ?_⟩
    refine ⟨_, rfl, _, rfl, a, b, _, _, rfl, ha, hb, fun Dd nD => ?_⟩
    have hl2 : (es.map V.int).length = (fs.map V.int).length := by rw [List.length_map, List.length_map, l1, l2]
    refine lc_it (walk_zipN (K := K) (a := a) (b := b) hl2) (fun i H' => Same H H' ∧ H' Dd = some (.lst ((List.range i).map fun n => V.int (max (es.getD n 0) (fs.getD n 0))))) ⟨K0.same_upd nD, upd_same⟩ (fun i H' _ ⟨s, _⟩ => ⟨K0.seqT_same s ha, K0.seqT_same s hb⟩) ?_ (fun H' ⟨s, hD⟩ => ?_)
    · rintro i x J J' hi ⟨s, hD⟩ ⟨T0, u, v, rfl, nT, rfl, h1, h2⟩
      rw [List.length_map, l1] at hi
      cases int_at h1
      cases int_at h2
      have s2 := K0.same_upd (o := .tup [.int (es.getD i 0), .int (fs.getD i 0)]) nT
      have hT := @upd_same J T0 (.tup [.int (es.getD i 0), .int (fs.getD i 0)])
      generalize upd J T0 (.tup [.int (es.getD i 0), .int (fs.getD i 0)]) = J2 at s2 hT ⊢
      refine ⟨rfl, ?_⟩
      unfold tYes
      dsimp only
      rw [if_pos rfl]
      refine ⟨_, rfl, T0, es.getD i 0, [fs.getD i 0], rfl, SqT.of hT, fun m hm hle => ?_⟩
      have em : m = max (es.getD i 0) (fs.getD i 0) := by
        have a1 := hle (es.getD i 0) List.mem_cons_self
        have a2 := hle (fs.getD i 0) (List.mem_cons_of_mem _ List.mem_cons_self)
        rcases List.mem_cons.mp hm with z | z
        · omega
        · have := List.mem_singleton.mp z
          omega
      subst em
      refine ⟨_, s2 _ _ hD, ?_, K0.same_over (s.trans s2) nD, ?_⟩
      · rw [List.length_map, List.length_range, sizeLine_eq]
        omega
      · rw [upd_same, List.range_succ, List.map_append]
        rfl
    · rw [List.length_map, l1] at hD
      have e : ((List.range 4).map fun n => V.int (max (es.getD n 0) (fs.getD n 0))) = (List.zipWith max es fs).map V.int := by
        obtain ⟨x0, x1, x2, x3, rfl⟩ := list4 l1
        obtain ⟨y0, y1, y2, y3, rfl⟩ := list4 l2
        rfl
      rw [e] at hD
      refine ⟨Dd, _, rfl, .inl ⟨SqL.of hD, fun q nq => ?_⟩⟩
      exact k _ q (s.trans (K0.same_upd nq)) (SqT.of upd_same)
end
end K1
set_option maxHeartbeats 4000000
/-! joined_branch, common_branch, all_of, closure_of, _taken, part_of -/
namespace K1
open PySem L2 PySem.Spec PyProof.Rows RZ
/-- a branch of numbers -/
def brD (es : List Int) : PyData := .tuple (es.map PyData.int)
theorem dq_br {K : PySem.W.Frag} {H : Hp} {a : Addr} {es : List Int} (h : SqT K H a (es.map V.int)) : DQ K H (.ref a) (brD es) := .tup h (dqs_nums es)
def spJoinB (K : PySem.W.Frag) (C : Addr) (f : Int → Int → Int) : Sp := fun vs H Q _ => ∃ (p a b : Addr) (ds : List PyData) (es fs : List Int), vs = [.ref p, .ref a, .ref b] ∧ BookAt K C H p ds ∧ SqT K H a (es.map V.int) ∧ SqT K H b (fs.map V.int) ∧ es.length = 4 ∧ fs.length = 4 ∧ isB ds (brD es) = true ∧ isB ds (brD fs) = true ∧
  ∀ H' q, Same H H' → SqT K H' q ((List.zipWith f es fs).map V.int) → Q (.ref q) H'
def spAllOf (K : PySem.W.Frag) (C : Addr) : Sp := fun vs H Q _ => ∃ p ds, vs = [.ref p] ∧ BookAt K C H p ds ∧ ∀ H' q, Same H H' → SqT K H' q ((lastD ds l0).map V.int) → Q (.ref q) H'
def spClosB (K : PySem.W.Frag) (C : Addr) : Sp := fun vs H Q _ => ∃ p ds v d, vs = [.ref p, v] ∧ BookAt K C H p ds ∧ DQ K H v d ∧ hasD ds d = true ∧ ∀ e H' q, atD ds (pairK d) = some e → Same H H' → SqT K H' q ((closeD e).map V.int) → Q (.ref q) H'
section
variable {P : Program} {w : World} {K : PySem.W.Frag} {mg : Str → Option Value} {base : Heap} {C : Addr} {c : Nat → Addr}
theorem sc_joinB : FnScope ["book", "one", "other"] ["book", "one", "other"] (defScope (top 51)) := ⟨rfl, rfl, rfl, by decide +kernel, rfl, by decide +kernel, by decide +kernel⟩
theorem cl_joinB (T : All K mg) (M : Nms mg) (W : BkAll K mg C c) : Cl P w K mg base 13 "joined_branch" ["book", "one", "other"] (spJoinB K C max) := by
  obtain ⟨g, fd, D⟩ := T.dn 51 _ _ rfl
  refine D.cl (D.fn.ok sc_joinB (fun vs H Q E h => ?_) (fun cdv A outer s H vs Q E hr h => ?_))
  · obtain ⟨p, a, b, ds, es, fs, rfl, _⟩ := h
    rfl
  · obtain ⟨p, a, b, ds, es, fs, rfl, bk, ha, hb, l1, l2, b1, b2, k⟩ := h
    refine ⟨_, pss_cons (ps_expr (pe_clN (cl_ckBr T W) hr (by decide) (pa_cons (pv 0) (pa_cons (pv 1) pa_nil)))) (pss_cons (ps_expr (pe_clN (cl_ckBr T W) hr (by decide) (pa_cons (pv 0) (pa_cons (pv 2) pa_nil)))) (pss_one (ps_ret (pe_cl (cl_joined T M W) hr (by decide) (pa_cons (pv 1) (pa_cons (pv 2) pa_nil)))))), ?_⟩
    refine ⟨_, rfl, _, rfl, p, ds, _, brD es, rfl, bk, dq_br ha, ⟨fun _ H1 S1 => ?_, fun no => (by rw [b1] at no; cases no)⟩⟩
    refine ⟨_, rfl, _, rfl, p, ds, _, brD fs, rfl, bk.to S1, dq_br (K0.seqT_same S1 hb), ⟨fun _ H2 S2 => ?_, fun no => (by rw [b2] at no; cases no)⟩⟩
    have S12 := S1.trans S2
    exact ⟨_, rfl, _, rfl, a, b, es, fs, rfl, K0.seqT_same S12 ha, K0.seqT_same S12 hb, l1, l2, fun H' q S hq => k H' q (S12.trans S) hq⟩
theorem sc_allOf : FnScope ["book", "hand"] ["book"] (defScope (top 49)) := ⟨rfl, rfl, rfl, by decide +kernel, rfl, by decide +kernel, by decide +kernel⟩
theorem cl_allOf (T : All K mg) (M2 : Nms2 mg) (W : BkAll K mg C c) : Cl P w K mg base 13 "all_of" ["book"] (spAllOf K C) := by
  obtain ⟨g, fd, D⟩ := T.dn 49 _ _ rfl
  obtain ⟨fl, fdl, Fl, bl, ml⟩ := W.last
  obtain ⟨fh, Rh⟩ := W.Rh
  have GLs : FnOk P w K mg base (L2.CX P w) 11 fl fdl ["self", "hand"] (spLast K C (c 8)) := ok_last Fl T W.B Rh
  refine D.cl (D.fn.ok sc_allOf (fun vs H Q E h => ?_) (fun cdv A outer s H vs Q E hr h => ?_))
  · obtain ⟨p, ds, rfl, _⟩ := h
    rfl
  · obtain ⟨p, ds, rfl, bk, k⟩ := h
    have hr11 : Room 11 _ := hr.mono (by decide)
    refine ⟨_, pss_cons (ps_expr (pe_clN (cl_ckB T W) hr (by decide) (pa_cons (pv 0) pa_nil))) (pss_one (ps_ret (pe_callTy call_tuple_of (by rfl) T.bi.tuple (by decide +kernel) (pa_cons (pe_lc (own := [("hand", 1)]) (g := gName 1) (te := tMethS C "last" (spLast K C (c 8)) (fun _ => E0) (tVar 0) (tCons (tVar 1) tNil)) (tt := tYes) rfl sc_allOf.nd (pi_range1 rfl M2.range (pa_cons pe_int pa_nil)) (blkOk_by (own := [("hand", 1)]) (N := ["book", "hand"]) (sc := defScope (top 49)) (by decide +kernel))
        (fun _ _ _ _ _ => pg_name (i := 1) sc_allOf.nd rfl (Or.inl rfl)) (fun _ _ _ _ _ => pts_nil) (fun _ _ _ _ _ => pe_methS (pv 0) W.B.cl ml GLs hr11 bl (fun σ => passN) (pa_cons (pv 1) pa_nil))) pa_nil)))), ?_⟩
    refine ⟨_, rfl, .inl ⟨p, ds, rfl, bk, ?_⟩⟩
    refine ⟨_, rfl, by decide, by decide, fun D6 n6 => lc_funRG (n := 4) (fun i => .int ((lastD ds l0).getD i 0)) n6 (by decide) (fun _ => rfl) (fun i H7 QQ hi S6 qq => ?_) (fun H6 S6 e6 => ?_)⟩
    · obtain ⟨dx, rA, tA, sA, lA, i7⟩ := (bk.to S6).ins
      have fi : fromD 0 3 (.int (0 + (i : Int))) = true := by
        show (decide (0 ≤ 0 + (i : Int)) && decide (0 + (i : Int) ≤ 3)) = true
        rw [decide_eq_true (by omega : 0 ≤ 0 + (i : Int)), decide_eq_true (by omega : 0 + (i : Int) ≤ 3)]
        rfl
      refine ⟨_, rfl, p, dx, _, rfl, i7, flds_no "last" (by decide +kernel), _, rfl, p, ds, _, .int (0 + (i : Int)), rfl, bk.to S6, .int _, fun _ H8 S8 => ?_, fun no => (by rw [fi] at no; cases no)⟩
      have e : (intD (.int (0 + (i : Int)))).toNat = i := by
        show (0 + (i : Int)).toNat = i
        omega
      rw [e]
      exact qq _ S8
    · rw [range_ints (lastD_len _ _)] at e6
      refine ⟨D6, _, rfl, .inl ⟨SqL.of e6, fun q nq => ?_⟩⟩
      exact k _ q (S6.trans (K0.same_upd nq)) (SqT.of upd_same)
theorem sc_closB : FnScope ["book", "stamp"] ["book", "stamp"] (defScope (top 50)) := ⟨rfl, rfl, rfl, by decide +kernel, rfl, by decide +kernel, by decide +kernel⟩
theorem cl_closB (T : All K mg) (W : BkAll K mg C c) : Cl P w K mg base 11 "closure_of" ["book", "stamp"] (spClosB K C) := by
  obtain ⟨g, fd, D⟩ := T.dn 50 _ _ rfl
  obtain ⟨fs, Rs⟩ := W.Rs
  obtain ⟨fh, fdh, Fh, bh, sh, ih⟩ := W.has
  obtain ⟨fg, fdg, Fg, bg, sg, ng, ig⟩ := W.get
  have GG : FnOk P w K mg base (L2.CX P w) 5 fg fdg ["self", "at"] (spGet K C (c 6)) := ok_get Fg Fh bh sh ih T W.B Rs
  refine D.cl (D.fn.ok sc_closB (fun vs H Q E h => ?_) (fun cdv A outer s H vs Q E hr h => ?_))
  · obtain ⟨p, ds, v, d, rfl, _⟩ := h
    rfl
  · obtain ⟨p, ds, v, d, rfl, bk, hd, hh, k⟩ := h
    refine ⟨_, pss_cons (ps_expr (pe_clN (cl_ckB T W) hr (by decide) (pa_cons (pv 0) pa_nil))) (pss_cons (ps_expr (pe_clN (cl_ckS T W) hr (by decide) (pa_cons (pv 0) (pa_cons (pv 1) pa_nil)))) (pss_one (ps_ret (pe_cl (cl_clos T W) hr (by decide) (pa_cons (pe_getO GG (hr.mono (by decide)) bg (fun σ => passN) sg ng ig (pv 0) (pv 1)) pa_nil))))), ?_⟩
    refine ⟨_, rfl, .inl ⟨p, ds, rfl, bk, ?_⟩⟩
    refine ⟨_, rfl, _, rfl, p, ds, v, d, rfl, bk, hd, ⟨fun _ H1 S1 => ?_, fun no => (by rw [hh] at no; cases no)⟩⟩
    obtain ⟨dx, rA, tA, sA, lA, i1⟩ := (bk.to S1).ins
    refine ⟨_, rfl, _, rfl, p, dx, _, rfl, i1, p, ds, v, d, rfl, bk.to S1, hd.to S1, ⟨fun _ e H2 u he S2 hu _ => ?_, fun no => (by rw [hh] at no; cases no)⟩⟩
    exact ⟨u, e, rfl, hu, bk.right e (atD_mem he).1, fun H3 q S3 hq => k e H3 q he (S1.trans (S2.trans S3)) hq⟩
end
end K1
set_option maxHeartbeats 4000000
/-! _taken, part_of -/
namespace K1
open PySem L2 PySem.Spec PyProof.Rows RZ
def takenD (es : List Int) (ds : List PyData) : List PyData := ds.filter fun d => decide (tmD d ≤ es.getD (handD d) 0)
theorem taken_mem {es : List Int} {ds : List PyData} {d : PyData} : d ∈ takenD es ds ↔ d ∈ ds ∧ tmD d ≤ es.getD (handD d) 0 := by
  unfold takenD
  rw [List.mem_filter, decide_eq_true_eq]
theorem tm_pos {d : PyData} (h : deedD d = true) : 1 ≤ tmD d := by
  have := sn_bd h 0 (by decide)
  omega
theorem key_one {ds : List PyData} {d e : PyData} (nd : (ds.map keyD).Nodup) (hd : d ∈ ds) (he : e ∈ ds) (h : keyD d = keyD e) : d = e := by
  have a := at_of nd hd
  have b := at_of nd he
  rw [h, b] at a
  exact (Option.some.inj a).symm
/-- who has seen a deed of its own hand has seen what that had seen -/
theorem own_mono {ds : List PyData} (h : OkD ds) : ∀ (n : Nat) {D d : PyData}, D ∈ ds → d ∈ ds → handD d = handD D → tmD d < tmD D → (tmD D).toNat ≤ n → ∀ i < 4, (snD d).getD i 0 ≤ (snD D).getD i 0
  | 0, D, d, hD, hd, hh, lt, le => by
    have := tm_pos (h.right d hd)
    omega
  | n + 1, D, d, hD, hd, hh, lt, le => by
    have rD := h.right D hD
    have o := h.own D hD d hd hh lt
    have p := tm_pos (h.right d hd)
    rcases h.cls D hD (handD D) (hand_lt rD) with z | ⟨e, he, hk, sub⟩
    · omega
    · have re := h.right e he
      rw [key_of re] at hk
      have e1 : tmD e = (snD D).getD (handD D) 0 := (List.cons.inj hk).1
      have e2 : (handD e : Int) = handD D := (List.cons.inj (List.cons.inj hk).2).1
      have e2' : handD e = handD D := by omega
      have b := (sn_bd rD _ (hand_lt rD)).2
      intro i hi
      by_cases c : tmD d = tmD e
      · have : d = e := key_one h.nd hd he (by rw [key_of (h.right d hd), key_of re, c, hh, e2'])
        rw [this]
        exact sub i hi
      · have z := own_mono h n he hd (by rw [hh, e2']) (by omega) (by omega) i hi
        have := sub i hi
        omega
/-- what a branch takes has seen no more than the branch -/
theorem taken_seen {ds : List PyData} {es : List Int} (h : OkD ds) (c : closedD ds es = true) {d : PyData} (hd : d ∈ takenD es ds) : ∀ i < 4, (snD d).getD i 0 ≤ es.getD i 0 := fun i hi => by
  obtain ⟨hm, le⟩ := taken_mem.mp hd
  have rd := h.right d hm
  have hh := hand_lt rd
  have p := tm_pos rd
  rcases (closed_iff h.nd h.right).mp c (handD d) hh with z | ⟨D, hD, hk, m⟩
  · omega
  · have rD := h.right D hD
    rw [key_of rD] at hk
    have e1 : tmD D = es.getD (handD d) 0 := (List.cons.inj hk).1
    have e2 : (handD D : Int) = handD d := (List.cons.inj (List.cons.inj hk).2).1
    by_cases q : tmD d = tmD D
    · have : d = D := key_one h.nd hm hD (by rw [key_of rd, key_of rD, q, e2])
      rw [this]
      exact m i hi
    · have := own_mono h (tmD D).toNat hD hm (by omega) (by omega) (Nat.le_refl _) i hi
      have := m i hi
      omega
theorem OkD.taken {ds : List PyData} {es : List Int} (h : OkD ds) (c : closedD ds es = true) : OkD (takenD es ds) where
  nd := h.nd.sublist (List.Sublist.map _ List.filter_sublist)
  right := fun d hd => h.right d (taken_mem.mp hd).1
  cls := fun d hd i hi => by
    refine (h.cls d (taken_mem.mp hd).1 i hi).imp id fun ⟨e, he, hk, z⟩ => ⟨e, taken_mem.mpr ⟨he, ?_⟩, hk, z⟩
    rw [key_of (h.right e he)] at hk
    have e1 : tmD e = (snD d).getD i 0 := (List.cons.inj hk).1
    have e2 : (handD e : Int) = i := (List.cons.inj (List.cons.inj hk).2).1
    have e3 : handD e = i := by omega
    rw [e1, e3]
    exact taken_seen h c hd i hi
  own := fun d hd e he => h.own d (taken_mem.mp hd).1 e (taken_mem.mp he).1
  nms := fun d hd k hk => by
    obtain ⟨e, he, ek, z⟩ := h.nms d (taken_mem.mp hd).1 k hk
    refine ⟨e, taken_mem.mpr ⟨he, ?_⟩, ek, z⟩
    have := taken_seen h c hd (handD e) (hand_lt (h.right e he))
    omega
theorem up_taken {ds : List PyData} {es : List Int} (u : UpD ds) : UpD (takenD es ds) := u.sublist List.filter_sublist
def spTaken (K : PySem.W.Frag) (C : Addr) : Sp := fun vs H Q _ => ∃ (p b : Addr) (ds : List PyData) (es : List Int), vs = [.ref p, .ref b] ∧ BookAt K C H p ds ∧ SqT K H b (es.map V.int) ∧ es.length = 4 ∧
  ∀ H' q us, Same H H' → H q = none → H' q = some (.lst us) → DQs K H' us ((takenD es ds).map stOf) → Q (.ref q) H'
def spPart (K : PySem.W.Frag) (C : Addr) : Sp := fun vs H Q _ => ∃ (p b : Addr) (ds : List PyData) (es : List Int), vs = [.ref p, .ref b] ∧ BookAt K C H p ds ∧ OkD ds ∧ SqT K H b (es.map V.int) ∧ es.length = 4 ∧ isB ds (brD es) = true ∧ ∀ H' q, Same H H' → BookAt K C H' q (takenD es ds) → Q (.ref q) H'
theorem br_closed {ds : List PyData} {es : List Int} (h : isB ds (brD es) = true) : closedD ds es = true := by
  have h' : (decide ((es.map PyData.int).length = 4) && ((es.map PyData.int).all numD && closedD ds ((es.map PyData.int).map intD))) = true := h
  rw [Bool.and_eq_true, Bool.and_eq_true] at h'
  have z := h'.2.2
  rw [List.map_map, show (intD ∘ PyData.int) = id from rfl, List.map_id] at z
  exact z
section
variable {P : Program} {w : World} {K : PySem.W.Frag} {mg : Str → Option Value} {base : Heap} {C : Addr} {c : Nat → Addr}
theorem sc_taken : FnScope ["book", "branch", "stamp"] ["book", "branch"] (defScope (top 56)) := ⟨rfl, rfl, rfl, by decide +kernel, rfl, by decide +kernel, by decide +kernel⟩
theorem cl_taken (T : All K mg) (W : BkAll K mg C c) (hit : mg "iter" = none) : Cl P w K mg base 2 "_taken" ["book", "branch"] (spTaken K C) := by
  obtain ⟨g, fd, D⟩ := T.dn 56 _ _ rfl
  obtain ⟨fi, fdi, Fi, bi, si, ii, _⟩ := W.iter
  have GI : IterOk P w K mg base 1 fi C := ok_iter Fi bi hit W.B.cl W.B.nS
  refine D.cl (D.fn.ok sc_taken (fun vs H Q E h => ?_) (fun cdv A outer s H vs Q E hr h => ?_))
  · obtain ⟨p, b, ds, es, rfl, _⟩ := h
    rfl
  · obtain ⟨p, b, ds, es, rfl, bk, hb, h4, k⟩ := h
    refine ⟨_, pss_one (ps_ret (pe_lc (own := [("stamp", 2)]) (g := gName 2) (te := tVar 2) (tt := tB (tCall (spHasSt K) [] E0 (tCons (tVar 1) (tCons (tVar 2) tNil)))) rfl sc_taken.nd (pi_own (pv 0) GI (hr.mono (by decide)) si ii) (blkOk_by (own := [("stamp", 2)]) (N := ["book", "branch", "stamp"]) (sc := defScope (top 56)) (by decide +kernel))
        (fun _ _ _ _ _ => pg_name (i := 2) sc_taken.nd rfl (Or.inl rfl)) (fun _ _ _ _ _ => pts_one (pt_val (pe_cl (cl_hasSt T) hr (by decide) (pa_cons (pv 1) (pa_cons (pv 2) pa_nil))))) (fun _ _ _ _ _ => pv 2))), ?_⟩
    obtain ⟨⟨dx, rA, tA, sA, lA, us, kvs, ss, h1, h2, h3, h4', h5, h6, h7, h8, h9⟩, right, few, up, good⟩ := bk
    refine ⟨_, rfl, p, dx, _, sA, ss, rfl, h1, fl_stamps, SqL.of h6, fun Dd nD => ?_⟩
    have ls := h7.len
    rw [List.length_map] at ls
    refine lc_list (K := K) (a := sA) (xs := ss) (fun i H' => Same H H' ∧ ∃ acc, H' Dd = some (.lst acc) ∧ DQs K H acc ((takenD es (ds.take i)).map stOf)) ⟨K0.same_upd nD, [], upd_same, .nil⟩ (fun i H' _ ⟨S, _⟩ => SqL.of (S _ _ h6)) ?_ ?_
    · rintro i u H' hu ⟨S, acc, hacc, hqs⟩
      refine ⟨rfl, ?_⟩
      obtain ⟨e0, he0, hq⟩ := h7.at hu
      rw [List.getElem?_map] at he0
      obtain ⟨d, hd, rfl⟩ := Option.map_eq_some_iff.mp he0
      have rd := right d (List.mem_of_getElem? hd)
      have hq0 := hq
      rw [st_eq rd] at hq
      obtain ⟨sa, rfl, p1⟩ := DQ.pair hq
      have tk : ds.take (i + 1) = ds.take i ++ [d] := by
        rw [List.take_succ, hd]
        rfl
      have la := hqs.len
      have lf : (takenD es (ds.take i)).length ≤ ds.length := Nat.le_trans (List.length_filter_le _ _) (by rw [List.length_take]; omega)
      rw [List.length_map] at la
      refine ⟨_, rfl, _, rfl, b, sa, es, tmD d, handD d, rfl, K0.seqT_same S hb, h4, K0.seqT_same S p1, hand_lt rd, _, rfl, ?_⟩
      have ef : takenD es (ds.take (i + 1)) = takenD es (ds.take i) ++ (if tmD d ≤ es.getD (handD d) 0 then [d] else []) := by
        unfold takenD
        rw [tk, List.filter_append]
        congr 1
        by_cases c : tmD d ≤ es.getD (handD d) 0
        · rw [if_pos c, List.filter_cons_of_pos (by simpa using c)]
          rfl
        · rw [if_neg c, List.filter_cons_of_neg (by simpa using c)]
          rfl
      rw [ef]
      by_cases c : tmD d ≤ es.getD (handD d) 0
      · rw [decide_eq_true c, if_pos c]
        refine iteT ⟨_, rfl, acc, hacc, by rw [sizeLine_eq]; omega, K0.same_over S nD, _, upd_same, ?_⟩
        rw [List.map_append]
        exact hqs.app (.cons hq0 .nil)
      · rw [decide_eq_false c, if_neg c, List.append_nil]
        exact iteF ⟨S, acc, hacc, hqs⟩
    · rintro H' ⟨S, acc, hacc, hqs⟩
      rw [ls, List.take_length] at hqs
      exact k H' Dd acc S nD hacc (hqs.to S)
theorem sc_part : FnScope ["book", "branch", "stamp"] ["book", "branch"] (defScope (top 52)) := ⟨rfl, rfl, rfl, by decide +kernel, rfl, by decide +kernel, by decide +kernel⟩
theorem cl_part (T : All K mg) (M2 : Nms2 mg) (W : BkAll K mg C c) (hit : mg "iter" = none) : Cl P w K mg base 15 "part_of" ["book", "branch"] (spPart K C) := by
  obtain ⟨g, fd, D⟩ := T.dn 52 _ _ rfl
  obtain ⟨f8, fd8, aE, F8, MK, bI, bI0, hE⟩ := W.ini
  have GI : FnOk P w K mg base (L2.CX P w) 13 f8 fd8 ["self", "deeds"] (spBook K C (c 1) (c 0) (c 2) (c 3)) := W.book T M2 F8
  obtain ⟨fs, Rs⟩ := W.Rs
  obtain ⟨fh, fdh, Fh, bh, sh, ih⟩ := W.has
  obtain ⟨fg, fdg, Fg, bg, sg, ng, ig⟩ := W.get
  have GG : FnOk P w K mg base (L2.CX P w) 5 fg fdg ["self", "at"] (spGet K C (c 6)) := ok_get Fg Fh bh sh ih T W.B Rs
  refine D.cl (D.fn.ok sc_part (fun vs H Q E h => ?_) (fun cdv A outer s H vs Q E hr h => ?_))
  · obtain ⟨p, b, ds, es, rfl, _⟩ := h
    rfl
  · obtain ⟨p, b, ds, es, rfl, bk, ok, hb, h4, hB, k⟩ := h
    have hr14 : Room 14 _ := hr.mono (by decide)
    refine ⟨_, pss_cons (ps_expr (pe_clN (cl_ckBr T W) hr (by decide) (pa_cons (pv 0) (pa_cons (pv 1) pa_nil)))) (pss_one (ps_ret (pe_makeS MK GI hr14 rfl W.B.mgC bI .nil (fun σ => passN) (pa_cons (pe_lc (own := [("stamp", 2)]) (g := gName 2) (te := tGetO C (spGet K C (c 6)) (fun _ => E0) (tVar 0) (tVar 2)) (tt := tYes) rfl sc_part.nd (pi_list (pe_cl (cl_taken T W hit) hr (by decide) (pa_cons (pv 0) (pa_cons (pv 1) pa_nil)))) (blkOk_by (own := [("stamp", 2)]) (N := ["book", "branch", "stamp"]) (sc := defScope (top 52)) (by decide +kernel))
        (fun _ _ _ _ _ => pg_name (i := 2) sc_part.nd rfl (Or.inl rfl)) (fun _ _ _ _ _ => pts_nil) (fun _ _ _ _ _ => pe_getO GG (hr.mono (by decide)) bg (fun σ => passN) sg ng ig (pv 0) (pv 2))) pa_nil)))), ?_⟩
    have clo := br_closed hB
    have ok2 := ok.taken clo
    refine ⟨_, rfl, _, rfl, p, ds, _, brD es, rfl, bk, dq_br hb, ⟨fun _ H1 S1 => ?_, fun no => (by rw [hB] at no; cases no)⟩⟩
    refine ⟨_, rfl, _, rfl, p, b, ds, es, rfl, bk.to S1, K0.seqT_same S1 hb, h4, fun H2 q us S2 nq hq hus => ?_⟩
    have S12 := S1.trans S2
    refine ⟨q, rfl, ⟨us, SqL.of hq⟩, fun Dd nD => ?_⟩
    have lu := hus.len
    rw [List.length_map] at lu
    have lf : (takenD es ds).length ≤ ds.length := List.length_filter_le _ _
    have few := bk.few
    refine lc_list (K := K) (a := q) (xs := us) (fun i H' => Same H2 H' ∧ ∃ acc, H' Dd = some (.lst acc) ∧ DQs K (hid Dd H') acc ((takenD es ds).take i) ∧ Sts K (hid Dd H') acc ((takenD es ds).take i)) ⟨K0.same_upd nD, [], upd_same, .nil, fun i u e hu => by cases hu⟩ (fun i H' _ ⟨S, _⟩ => SqL.of (S _ _ hq)) ?_ ?_
    · rintro i u H' hu ⟨S, acc, hacc, hqs, hss⟩
      refine ⟨rfl, ?_⟩
      obtain ⟨e0, he0, hqd⟩ := hus.at hu
      rw [List.getElem?_map] at he0
      obtain ⟨d, hd, rfl⟩ := Option.map_eq_some_iff.mp he0
      have hdm := List.mem_of_getElem? hd
      have rd := ok2.right d hdm
      obtain ⟨i1, i2⟩ := has_st ok.nd rd (taken_mem.mp hdm).1
      have bk' := bk.to (S12.trans S)
      obtain ⟨dx, rA, tA, sA, lA, ix⟩ := bk'.ins
      unfold tYes
      dsimp only
      rw [if_pos rfl]
      refine ⟨_, rfl, _, rfl, p, dx, _, rfl, ix, p, ds, u, stOf d, rfl, bk', hqd.to S, ⟨fun _ e H3 v he S3 hv hst => ?_, fun no => (by rw [i1] at no; cases no)⟩⟩
      rw [i2] at he
      cases he
      have S23 := S.trans S3
      have la := hqs.len
      rw [List.length_take] at la
      have hacc3 := S3 _ _ hacc
      have tk : (takenD es ds).take (i + 1) = (takenD es ds).take i ++ [d] := by
        rw [List.take_succ, hd]
        rfl
      rw [tk]
      have hh : hid Dd (upd H3 Dd (.lst (acc ++ [v]))) = hid Dd H3 := by
        funext x
        by_cases c : x = Dd
        · rw [c]
          unfold hid
          rw [if_pos rfl, if_pos rfl]
        · rw [hid_ne c, hid_ne c, upd_ne c]
      refine ⟨acc, hacc3, by rw [sizeLine_eq]; omega, K0.same_over S23 nD, _, upd_same, ?_, ?_⟩
      · rw [hh]
        exact (hqs.to (hid_mono S3)).app (.cons (Flat.hide hacc3 _ _ (flat_deed rd) hv) .nil)
      · rw [hh]
        exact Sts.app (Sts.to hss (hid_mono S3)) (by rw [hqs.len]) (stT_hide hacc3 rd hst)
    · rintro H' ⟨S, acc, hacc, hqs, hss⟩
      rw [lu, List.take_length] at hqs hss
      have dl : Deeds K H' acc (takenD es ds) := ⟨hqs.to (hid_same _ _), Sts.to hss (hid_same _ _), ok2⟩
      refine nil_step fun y dy ny nd _ => make_list ny nd dl (SqL.of hacc) (by omega) fun H4 gs S4 bg _ pm ue => ⟨rfl, ?_⟩
      obtain rfl : gs = takenD es ds := ordered ue (up_taken bk.up) fun z => pm.mem_iff
      exact k H4 y (S12.trans (S.trans S4)) bg
end
end K1
set_option maxHeartbeats 8000000
/-! the law's own judge of branches -/
namespace K1
open PySem L2 PySem.Spec PyProof.Rows RZ
/-- whether the items so far that pass are none -/
def noneP (p : Nat → Bool) (n : Nat) : Bool := (List.range n).all fun i => !p i
theorem noneP_succ (p : Nat → Bool) (n : Nat) : noneP p (n + 1) = (noneP p n && !p n) := by
  unfold noneP
  rw [List.range_succ, List.all_append, List.all_cons, List.all_nil, Bool.and_true]
theorem noneP_true {p : Nat → Bool} {n : Nat} : noneP p n = true ↔ ∀ i < n, p i = false := by
  unfold noneP
  rw [List.all_eq_true]
  constructor
  · intro h i hi
    have := h i (List.mem_range.mpr hi)
    rwa [Bool.not_eq_true'] at this
  · intro h i hi
    rw [h i (List.mem_range.mp hi)]
    rfl
theorem emp_snoc {α : Type} (l : List α) (x : α) : (l ++ [x]).isEmpty = false := by cases l <;> rfl
/-- [x for x in xs if ..] over a list, when it is asked for being empty -/
theorem lc_any {K : PySem.W.Frag} {a : Addr} {xs : List V} {tt : TT} {j : Nat} {σ : L2.St} {H1 : Hp} {D : Addr} {Qd : Hp → Prop} (p : Nat → Bool) (nD : H1 D = none) (ha : SqL K H1 a xs) (hz : xs.length ≤ 1000) (hw : ∀ x, wipe ((wipe σ [j]).set j (some x)) [j] = wipe σ [j]) (hs : ∀ x, ((wipe σ [j]).set j (some x))[j]? = some (some x))
    (ht : ∀ i x H' Q, xs[i]? = some x → Same H1 H' → (∀ H'', Same H' H'' → Q (p i) H'') → tt ((wipe σ [j]).set j (some x)) H' Q)
    (hd : ∀ H' acc, Same H1 H' → H' D = some (.lst acc) → acc.isEmpty = noneP p xs.length → Qd H') :
    ∃ W : Nat → Nat → Hp → Prop, (∃ m, W 0 m (upd H1 D (.lst []))) ∧ ∀ i m H, W i m H →
      ((Itl K a).stop i H ∧ Qd H) ∨ ((Itl K a).go i H ∧ ∃ Nx : Hp → Prop, (∀ H', Nx H' → ∃ m', m' < m ∧ W (i + 1) m' H') ∧ ∀ x H', (Itl K a).yld i H x H' → (gName j) x (wipe σ [j]) H' fun σ2 H2 => wipe σ2 [j] = wipe σ [j] ∧ tt σ2 H2 fun b H3 =>
        if b = true then (tVar j) σ2 H3 fun y H4 => ∃ acc, H4 D = some (.lst acc) ∧ acc.length < sizeLine ∧ Nx (upd H4 D (.lst (acc ++ [y]))) else Nx H3) := by
  refine lc_list (K := K) (a := a) (xs := xs) (fun i H' => Same H1 H' ∧ i ≤ xs.length ∧ ∃ acc, H' D = some (.lst acc) ∧ acc.length ≤ i ∧ acc.isEmpty = noneP p i) ⟨K0.same_upd nD, Nat.zero_le _, [], upd_same, Nat.le_refl _, rfl⟩ (fun i H' _ ⟨s, _⟩ => s.seq ha) ?_ (fun H' ⟨s, _, acc, h, _, e⟩ => hd H' acc s h e)
  rintro i x H' hi ⟨s, hle, acc, h, hl, he⟩
  refine ⟨hw x, ht i x H' _ hi s fun H'' s' => ?_⟩
  have hlt := (List.getElem?_eq_some_iff.mp hi).1
  have e := noneP_succ p i
  cases hp : p i with
  | true =>
    rw [hp, Bool.not_true, Bool.and_false] at e
    refine iteT ⟨_, hs x, acc, s' _ _ h, by rw [sizeLine_eq]; omega, K0.same_over (s.trans s') nD, hlt, _, upd_same, by rw [List.length_append]; exact Nat.succ_le_succ hl, by rw [e, emp_snoc]⟩
  | false =>
    rw [hp, Bool.not_false, Bool.and_true] at e
    refine iteF ⟨s.trans s', hlt, acc, s' _ _ h, by omega, by rw [e, he]⟩
/-- .. over a range -/
theorem lc_anyR {n : Nat} {tt : TT} {j : Nat} {σ : L2.St} {H1 : Hp} {D : Addr} {Qd : Hp → Prop} (p : Nat → Bool) (nD : H1 D = none) (hz : n ≤ 1000) (hw : ∀ x, wipe ((wipe σ [j]).set j (some x)) [j] = wipe σ [j]) (hs : ∀ x, ((wipe σ [j]).set j (some x))[j]? = some (some x))
    (ht : ∀ i H' Q, i < n → Same H1 H' → (∀ H'', Same H' H'' → Q (p i) H'') → tt ((wipe σ [j]).set j (some (.int (0 + (i : Int))))) H' Q)
    (hd : ∀ H' acc, Same H1 H' → H' D = some (.lst acc) → acc.isEmpty = noneP p n → Qd H') :
    ∃ W : Nat → Nat → Hp → Prop, (∃ m, W 0 m (upd H1 D (.lst []))) ∧ ∀ i m H, W i m H →
      ((Itr 0 n).stop i H ∧ Qd H) ∨ ((Itr 0 n).go i H ∧ ∃ Nx : Hp → Prop, (∀ H', Nx H' → ∃ m', m' < m ∧ W (i + 1) m' H') ∧ ∀ x H', (Itr 0 n).yld i H x H' → (gName j) x (wipe σ [j]) H' fun σ2 H2 => wipe σ2 [j] = wipe σ [j] ∧ tt σ2 H2 fun b H3 =>
        if b = true then (tVar j) σ2 H3 fun y H4 => ∃ acc, H4 D = some (.lst acc) ∧ acc.length < sizeLine ∧ Nx (upd H4 D (.lst (acc ++ [y]))) else Nx H3) := by
  refine lc_range (lo := 0) (n := n) (fun i H' => Same H1 H' ∧ i ≤ n ∧ ∃ acc, H' D = some (.lst acc) ∧ acc.length ≤ i ∧ acc.isEmpty = noneP p i) ⟨K0.same_upd nD, Nat.zero_le _, [], upd_same, Nat.le_refl _, rfl⟩ ?_ (fun H' ⟨s, _, acc, h, _, e⟩ => hd H' acc s h e)
  rintro i H' hlt ⟨s, hle, acc, h, hl, he⟩
  refine ⟨hw _, ht i H' _ hlt s fun H'' s' => ?_⟩
  have e := noneP_succ p i
  cases hp : p i with
  | true =>
    rw [hp, Bool.not_true, Bool.and_false] at e
    refine iteT ⟨_, hs _, acc, s' _ _ h, by rw [sizeLine_eq]; omega, K0.same_over (s.trans s') nD, hlt, _, upd_same, by rw [List.length_append]; exact Nat.succ_le_succ hl, by rw [e, emp_snoc]⟩
  | false =>
    rw [hp, Bool.not_false, Bool.and_true] at e
    refine iteF ⟨s.trans s', hlt, acc, s' _ _ h, by omega, by rw [e, he]⟩
/-- what the law asks of the h-th entry -/
def EntOk (ds : List PyData) (es : List PyData) (h : Nat) : Prop := ∃ z : Int, es[h]? = some (.int z) ∧ 0 ≤ z ∧ (0 < z → ∃ e ∈ ds, keyD e = [z, (h : Int)])
def TakOk (es : List Int) (d : PyData) : Prop := tmD d ≤ es.getD (handD d) 0 → ∀ k < 4, (snD d).getD k 0 ≤ es.getD k 0
theorem getD_ints {es : List PyData} {h : Nat} {z : Int} (e : es[h]? = some (.int z)) : (es.map intD).getD h 0 = z := by
  rw [List.getD_eq_getElem?_getD, List.getElem?_map, e]
  rfl
theorem isB_law {ds es : List PyData} (ok : OkD ds) (hl : es.length = 4) : isB ds (.tuple es) = true ↔ (∀ h < 4, EntOk ds es h) ∧ ∀ d ∈ ds, TakOk (es.map intD) d := by
  have e1 : isB ds (.tuple es) = (es.all numD && closedD ds (es.map intD)) := by
    show (decide (es.length = 4) && _) = _
    rw [decide_eq_true hl, Bool.true_and]
  rw [e1, Bool.and_eq_true]
  constructor
  · rintro ⟨h1, h2⟩
    refine ⟨fun h hh => ?_, fun d hd hle k hk => ?_⟩
    · have e : es[h]? = some (es[h]'(by omega)) := List.getElem?_eq_getElem (by omega)
      have hm := List.all_eq_true.mp h1 _ (List.mem_of_getElem? e)
      cases hz : es[h]'(by omega) with
      | int z =>
        rw [hz] at e
        rcases (closed_iff ok.nd ok.right).mp h2 h hh with q | ⟨d, hd, hk, _⟩
        · rw [getD_ints e] at q
          exact ⟨z, e, by omega, fun z => by omega⟩
        · rw [getD_ints e] at hk
          have rd := ok.right d hd
          have t := tm_pos rd
          have kk := key_of rd
          rw [hk] at kk
          have : z = tmD d := (List.cons.inj kk).1
          exact ⟨z, e, by omega, fun _ => ⟨d, hd, hk⟩⟩
      | _ =>
        rw [hz] at hm
        cases hm
    · exact taken_seen ok h2 (taken_mem.mpr ⟨hd, hle⟩) k hk
  · rintro ⟨h1, h2⟩
    refine ⟨List.all_eq_true.mpr fun d hd => ?_, (closed_iff ok.nd ok.right).mpr fun h hh => ?_⟩
    · obtain ⟨i, hi, e⟩ := List.getElem_of_mem hd
      obtain ⟨z, hz, _⟩ := h1 i (by omega)
      rw [List.getElem?_eq_getElem hi, e] at hz
      rw [Option.some.inj hz]
      rfl
    · obtain ⟨z, hz, z0, zz⟩ := h1 h hh
      rw [getD_ints hz]
      by_cases c : z = 0
      · exact .inl c
      · obtain ⟨d, hd, hk⟩ := zz (by omega)
        refine .inr ⟨d, hd, hk, h2 d hd ?_⟩
        have kk := key_of (ok.right d hd)
        rw [hk] at kk
        have t1 : z = tmD d := (List.cons.inj kk).1
        have t2 : (h : Int) = handD d := (List.cons.inj (List.cons.inj kk).2).1
        have t3 : handD d = h := by omega
        rw [t3, getD_ints hz]
        omega
/-- a stamp among the deeds, as the law looks -/
theorem key_in {ds : List PyData} {z h : Int} (right : ∀ d ∈ ds, deedD d = true) : (∃ e ∈ ds, keyD e = [z, h]) ↔ ∃ (i : Nat) (d : PyData), ds[i]? = some d ∧ tmD d = z ∧ (handD d : Int) = h := by
  constructor
  · rintro ⟨e, he, hk⟩
    obtain ⟨i, hi, q⟩ := List.getElem_of_mem he
    have kk := key_of (right e he)
    rw [hk] at kk
    exact ⟨i, e, by rw [List.getElem?_eq_getElem hi, q], (List.cons.inj kk).1.symm, (List.cons.inj (List.cons.inj kk).2).1.symm⟩
  · rintro ⟨i, d, hd, h1, h2⟩
    have hm := List.mem_of_getElem? hd
    exact ⟨d, hm, by rw [key_of (right d hm), h1, h2]⟩
def spLIsB (K : PySem.W.Frag) : Sp := fun vs H Q _ => ∃ l us ds v d, vs = [.ref l, v] ∧ SqL K H l us ∧ Deeds K H us ds ∧ ds.length ≤ 100 ∧ DQ K H v d ∧ ∀ H', Same H H' → Q (.bl (isB ds d)) H'
section
variable {P : Program} {w : World} {K : PySem.W.Frag} {mg : Str → Option Value} {base : Heap} {C : Addr} {c : Nat → Addr}
end
end K1
set_option maxHeartbeats 8000000
/-! what the law makes of deeds: closures, all branches -/
namespace K1
open PySem L2 PySem.Spec PyProof.Rows RZ LamX
theorem dqs_ntL {K : PySem.W.Frag} {H : Hp} : ∀ {vs : List V} {ds : List PyData}, DQs K H vs ds → DQs K (nt H) vs ds
  | _, _, .nil => .nil
  | _, _, .cons h t => .cons (dq_nt _ _ h) (dqs_ntL t)
theorem Deeds.nt {K : PySem.W.Frag} {H : Hp} {us : List V} {ds : List PyData} (h : Deeds K H us ds) : Deeds K (nt H) us ds := ⟨dqs_ntL h.dq, fun i u e hu he => (h.st i u e hu he).nt, h.ok⟩
/-- a branch goes on -/
theorem closed_ext {ds : List PyData} {b : List Int} {d : PyData} (ok : OkD ds) (hl : b.length = 4) (hb : closedD ds b = true) (hd : d ∈ ds) (h1 : ∀ k < 4, (snD d).getD k 0 ≤ b.getD k 0) (h2 : b.getD (handD d) 0 = (snD d).getD (handD d) 0) : closedD ds (b.set (handD d) (tmD d)) = true := by
  have rd := ok.right d hd
  have hh := hand_lt rd
  have up : ∀ i < 4, b.getD i 0 ≤ (b.set (handD d) (tmD d)).getD i 0 := fun i hi => by
    rw [getD_seti (by omega)]
    by_cases c : handD d = i
    · rw [if_pos c, ← c, h2]
      have := (sn_bd rd _ hh).2
      omega
    · rw [if_neg c]
      exact Int.le_refl _
  refine (closed_iff ok.nd ok.right).mpr fun i hi => ?_
  by_cases c : handD d = i
  · refine .inr ⟨d, hd, ?_, fun k hk => Int.le_trans (h1 k hk) (up k hk)⟩
    rw [key_of rd, getD_seti (by omega), if_pos c, c]
  · rw [getD_seti (by omega), if_neg c]
    exact ((closed_iff ok.nd ok.right).mp hb i hi).imp id fun ⟨e, he, hk, z⟩ => ⟨e, he, hk, fun k hk => Int.le_trans (z k hk) (up k hk)⟩
theorem closed_max {ds : List PyData} {b c : List Int} (ok : OkD ds) (hb : closedD ds b = true) (hc : closedD ds c = true) (l1 : b.length = 4) (l2 : c.length = 4) : closedD ds (List.zipWith max b c) = true := by
  have g : ∀ i < 4, (List.zipWith max b c).getD i 0 = max (b.getD i 0) (c.getD i 0) := fun i hi => by
    obtain ⟨x0, x1, x2, x3, rfl⟩ := list4 l1
    obtain ⟨y0, y1, y2, y3, rfl⟩ := list4 l2
    match i, hi with
    | 0, _ => rfl
    | 1, _ => rfl
    | 2, _ => rfl
    | 3, _ => rfl
  refine (closed_iff ok.nd ok.right).mpr fun i hi => ?_
  rw [g i hi]
  by_cases q : b.getD i 0 ≤ c.getD i 0
  · rw [Int.max_eq_right q]
    exact ((closed_iff ok.nd ok.right).mp hc i hi).imp id fun ⟨e, he, hk, z⟩ => ⟨e, he, hk, fun k hk => by
      rw [g k hk]
      have := z k hk
      omega⟩
  · rw [Int.max_eq_left (by omega)]
    exact ((closed_iff ok.nd ok.right).mp hb i hi).imp id fun ⟨e, he, hk, z⟩ => ⟨e, he, hk, fun k hk => by
      rw [g k hk]
      have := z k hk
      omega⟩
theorem closed_min {ds : List PyData} {b c : List Int} (ok : OkD ds) (hb : closedD ds b = true) (hc : closedD ds c = true) (l1 : b.length = 4) (l2 : c.length = 4) : closedD ds (List.zipWith min b c) = true := by
  have g : ∀ i < 4, (List.zipWith min b c).getD i 0 = min (b.getD i 0) (c.getD i 0) := fun i hi => by
    obtain ⟨x0, x1, x2, x3, rfl⟩ := list4 l1
    obtain ⟨y0, y1, y2, y3, rfl⟩ := list4 l2
    match i, hi with
    | 0, _ => rfl
    | 1, _ => rfl
    | 2, _ => rfl
    | 3, _ => rfl
  refine (closed_iff ok.nd ok.right).mpr fun i hi => ?_
  rw [g i hi]
  have one : ∀ {b c : List Int}, closedD ds b = true → closedD ds c = true → b.getD i 0 ≤ c.getD i 0 → b.getD i 0 = 0 ∨ ∃ e ∈ ds, keyD e = [b.getD i 0, (i : Int)] ∧ ∀ k < 4, (snD e).getD k 0 ≤ b.getD k 0 ∧ (snD e).getD k 0 ≤ c.getD k 0 := fun {b c} hb hc q =>
    ((closed_iff ok.nd ok.right).mp hb i hi).imp id fun ⟨e, he, hk, z⟩ => ⟨e, he, hk, fun k hk' => ⟨z k hk', by
      rw [key_of (ok.right e he)] at hk
      have e1 : tmD e = b.getD i 0 := (List.cons.inj hk).1
      have e2 : (handD e : Int) = i := (List.cons.inj (List.cons.inj hk).2).1
      have e3 : handD e = i := by omega
      exact taken_seen ok hc (taken_mem.mpr ⟨he, by rw [e1, e3]; exact q⟩) k hk'⟩⟩
  by_cases q : b.getD i 0 ≤ c.getD i 0
  · rw [Int.min_eq_left q]
    exact (one hb hc q).imp id fun ⟨e, he, hk, z⟩ => ⟨e, he, hk, fun k hk => by
      rw [g k hk]
      have := z k hk
      omega⟩
  · rw [Int.min_eq_right (by omega)]
    exact (one hc hb (by omega)).imp id fun ⟨e, he, hk, z⟩ => ⟨e, he, hk, fun k hk => by
      rw [g k hk]
      have := z k hk
      omega⟩
theorem br_is {ds : List PyData} {b : List Int} (hl : b.length = 4) (h : closedD ds b = true) : isB ds (brD b) = true := by
  show (decide ((b.map PyData.int).length = 4) && ((b.map PyData.int).all numD && closedD ds ((b.map PyData.int).map intD))) = true
  rw [List.map_map, show (intD ∘ PyData.int) = id from rfl, List.map_id, h, List.length_map, decide_eq_true hl, Bool.and_true, Bool.true_and]
  exact List.all_eq_true.mpr fun x hx => by
    obtain ⟨i, _, rfl⟩ := List.mem_map.mp hx
    rfl
theorem closed_nil {ds : List PyData} (ok : OkD ds) : closedD ds l0 = true := (closed_iff ok.nd ok.right).mpr fun i hi => .inl (by
  match i, hi with
  | 0, _ => rfl
  | 1, _ => rfl
  | 2, _ => rfl
  | 3, _ => rfl)
def GoodBs (ds : List PyData) (bs : List (List Int)) : Prop := ∀ b ∈ bs, b.length = 4 ∧ closedD ds b = true
section
variable {P : Program} {w : World} {K : PySem.W.Frag} {mg : Str → Option Value} {base : Heap} {C : Addr} {c : Nat → Addr}
/-- all but the list at f stays: the tables too -/
theorem tabs_hid {Ts : List (Addr × Str)} {f : Addr} {H J : Hp} {xs : List V} (t : Tabs Ts H) (hf : H f = some (.lst xs)) (s : Same (hid f H) (hid f J)) : Tabs Ts J := fun p hp => by
  obtain ⟨ps, h1, h2, h3⟩ := t p hp
  have go : ∀ {b : Addr} {o : HO}, H b = some o → (∀ ys, o ≠ .lst ys) → J b = some o := fun {b o} e n => by
    have c : b ≠ f := fun z => by
      rw [z, hf] at e
      exact n xs (Option.some.inj e).symm
    exact (hid_at (s b o (by rw [hid_ne c]; exact e))).2
  refine ⟨ps, go h1 (fun ys z => by cases z), h2, fun pos cv hc => ?_⟩
  obtain ⟨c0, e1, e2⟩ := h3 pos cv hc
  exact ⟨c0, e1, go e2 (fun ys z => by unfold CodeO at z; cases z)⟩
def spBrs (K : PySem.W.Frag) (Ts : List (Addr × Str)) : Sp := fun vs H Q _ => ∃ l us ds, vs = [.ref l] ∧ SqL K H l us ∧ Deeds K H us ds ∧ ds.length ≤ 11 ∧ Tabs Ts H ∧
  ∀ H' q vs' bs, ExtN H H' → Tabs Ts H' → H q = none → H' q = some (.lst vs') → DQs K H' vs' (bs.map brD) → GoodBs ds bs → 0 < bs.length → bs.length ≤ 2048 → Q (.ref q) H'
end
end K1
set_option maxHeartbeats 8000000
/-! two branches and what the program makes of them -/
namespace K1
open PySem L2 PySem.Spec PyProof.Rows RZ LamX
theorem ext4 {l m : List Int} (h1 : l.length = 4) (h2 : m.length = 4) (h : ∀ i < 4, l.getD i 0 = m.getD i 0) : l = m := by
  obtain ⟨x0, x1, x2, x3, rfl⟩ := list4 h1
  obtain ⟨y0, y1, y2, y3, rfl⟩ := list4 h2
  have a0 : x0 = y0 := h 0 (by decide)
  have a1 : x1 = y1 := h 1 (by decide)
  have a2 : x2 = y2 := h 2 (by decide)
  have a3 : x3 = y3 := h 3 (by decide)
  rw [a0, a1, a2, a3]
/-- the last times of a branch's deeds are the branch -/
theorem last_taken {es : List PyData} {b : List Int} (ok : OkD es) (u : UpD es) (hl : b.length = 4) (hb : closedD es b = true) : lastD (takenD b es) l0 = b := by
  refine ext4 (lastD_len _ _) hl fun h hh => ?_
  have tp := last_top (up_taken (es := b) u) (fun d hd => ok.right d (taken_mem.mp hd).1) hh (takenD b es).length (Nat.le_refl _)
  rw [List.take_length] at tp
  obtain ⟨t1, t2, t3⟩ := tp
  have cl := (closed_iff ok.nd ok.right).mp hb h hh
  have up : b.getD h 0 ≤ (lastD (takenD b es) l0).getD h 0 := by
    rcases cl with z | ⟨e, he, hk, _⟩
    · omega
    · rw [key_of (ok.right e he)] at hk
      have e1 : tmD e = b.getD h 0 := (List.cons.inj hk).1
      have e2 : (handD e : Int) = h := (List.cons.inj (List.cons.inj hk).2).1
      have e3 : handD e = h := by omega
      have := t3 e (taken_mem.mpr ⟨he, by rw [e1, e3]; exact Int.le_refl _⟩) e3
      omega
  rcases t1 with z | ⟨e, he, e2, e3⟩
  · rcases cl with q | ⟨e, he, hk, _⟩
    · omega
    · rw [key_of (ok.right e he)] at hk
      have e1 : tmD e = b.getD h 0 := (List.cons.inj hk).1
      have := tm_pos (ok.right e he)
      omega
  · have := (taken_mem.mp he).2
    rw [e2] at this
    omega
theorem shaped_br {b : List Int} (h : b.length = 4) : SeqAt.shaped (brD b) = true := by
  obtain ⟨x0, x1, x2, x3, rfl⟩ := list4 h
  simp [brD, SeqAt.shaped, PyData.canLay0, PyData.canLayAll0, PyData.depth, PyData.depthAll]
theorem nodict_br {b : List Int} (h : b.length = 4) : (brD b).hasDict = false := by
  obtain ⟨x0, x1, x2, x3, rfl⟩ := list4 h
  rfl
/-- tuples of the same four numbers -/
theorem dp_br {K : PySem.W.Frag} {H : Hp} {a : Addr} {b : List Int} (h : b.length = 4) (ha : SqT K H a (b.map V.int)) : Dp K H (.ref a) (brD b) := DQ.dp _ _ (nodict_br h) (dq_br ha)
theorem zip_getD {f : Int → Int → Int} {b c : List Int} (h1 : b.length = 4) (h2 : c.length = 4) {i : Nat} (hi : i < 4) : (List.zipWith f b c).getD i 0 = f (b.getD i 0) (c.getD i 0) := by
  obtain ⟨x0, x1, x2, x3, rfl⟩ := list4 h1
  obtain ⟨y0, y1, y2, y3, rfl⟩ := list4 h2
  match i, hi with
  | 0, _ => rfl
  | 1, _ => rfl
  | 2, _ => rfl
  | 3, _ => rfl
theorem zip_len4 {f : Int → Int → Int} {b c : List Int} (h1 : b.length = 4) (h2 : c.length = 4) : (List.zipWith f b c).length = 4 := by rw [List.length_zipWith, h1, h2]; rfl
def spLPair (K : PySem.W.Frag) (C : Addr) : Sp := fun vs H Q _ => ∃ p bk l lot us ds es ws bs, vs = [.ref p, .ref bk, .ref l, .ref lot] ∧ Src H p ∧ BookAt K C (hid p H) bk es ∧ SqL K (hid p H) l us ∧ Deeds K (hid p H) us ds ∧ es.Perm ds ∧ ds.length ≤ 20 ∧ SqL K (hid p H) lot ws ∧ DQs K (hid p H) ws (bs.map brD) ∧ GoodBs ds bs ∧ 0 < bs.length ∧ bs.length ≤ 2048 ∧ ∀ H', Bt p H H' → Q (.bl true) H'
section
variable {P : Program} {w : World} {K : PySem.W.Frag} {mg : Str → Option Value} {base : Heap} {C : Addr} {c : Nat → Addr}
end
end K1
set_option maxHeartbeats 16000000
/-! law -/
namespace K1
open PySem L2 PySem.Spec PyProof.Rows RZ LamX
abbrev qB : Str := "_law_branches.<locals>.<lambda>"
def noS : Stmt := .Pass ⟨0, 0, 0, 0⟩
theorem list11 {α : Type} {r : List α} (h : r.length = 11) : ∃ a b c d e f g i j k l, r = [a, b, c, d, e, f, g, i, j, k, l] := by
  match r, h with
  | [a, b, c, d, e, f, g, i, j, k, l], _ => exact ⟨a, b, c, d, e, f, g, i, j, k, l, rfl⟩
theorem isB_perm {ds es : List PyData} (nd : (ds.map keyD).Nodup) (pm : es.Perm ds) (d : PyData) : isB es d = isB ds d := by
  cases d with
  | tuple xs =>
    show (decide (xs.length = 4) && (xs.all numD && closedD es (xs.map intD))) = _
    rw [closed_perm nd pm]
    rfl
  | _ => rfl
theorem closed_close {ds : List PyData} {d : PyData} (ok : OkD ds) (hd : d ∈ ds) (h4 : (snD d).length = 4) : closedD ds (closeD d) = true :=
  closed_ext ok h4 ((closed_iff ok.nd ok.right).mpr (ok.cls d hd)) hd (fun _ _ => Int.le_refl _) rfl
theorem closed_last {es : List PyData} (ok : OkD es) (u : UpD es) : closedD es (lastD es l0) = true := (closed_iff ok.nd ok.right).mpr (cls_last ok u)
theorem taken_all {es : List PyData} (ok : OkD es) (u : UpD es) : takenD (lastD es l0) es = es := by
  unfold takenD
  rw [List.filter_eq_self]
  intro d hd
  have tp := last_top u ok.right (hand_lt (ok.right d hd)) es.length (Nat.le_refl _)
  rw [List.take_length] at tp
  exact decide_eq_true (tp.2.2 d hd rfl)
theorem brs_grd {K : PySem.W.Frag} {p : Addr} {H : Hp} (src : Src H p) : ∀ {ws : List V} {bs : List (List Int)}, DQs K H ws (bs.map brD) → DQs K (grd p H) ws (bs.map brD) := by
  obtain ⟨A, B, hp, _⟩ := src
  intro ws bs h
  induction bs generalizing ws with
  | nil =>
    cases h
    exact .nil
  | cons b bs ih =>
    cases h with
    | cons h1 h2 =>
      refine .cons ?_ (ih h2)
      cases h1 with
      | tup g1 g2 =>
        rw [dqs_ints g2] at g1
        refine dq_br ?_
        exact tup_grd (hideT hp g1)
def spLaw (K : PySem.W.Frag) (Ts : List (Addr × Str)) : Sp := fun vs H Q _ => ∃ (a : Addr) (ns : List Int), vs = [.ref a] ∧ SqL K H a (ns.map V.int) ∧ Tabs Ts H ∧ ∀ H', Q (.bl true) H'
section
variable {P : Program} {w : World} {K : PySem.W.Frag} {mg : Str → Option Value} {base : Heap} {C : Addr} {c : Nat → Addr}
end
end K1
set_option maxHeartbeats 4000000
/-! parts of a book that have all that their deeds have seen; what a deed lacks -/
namespace K1
open PySem L2 PySem.Spec PyProof.Rows RZ
/-- some of es, with all that they have seen -/
structure Down (es F : List PyData) : Prop where
  nd : (F.map keyD).Nodup
  sub : ∀ d ∈ F, d ∈ es
  low : ∀ d ∈ F, ∀ x ∈ es, tmD x ≤ (snD d).getD (handD x) 0 → x ∈ F
theorem key_parts {es : List PyData} {e : PyData} {t : Int} {h : Nat} (right : ∀ d ∈ es, deedD d = true) (he : e ∈ es) (hk : keyD e = [t, (h : Int)]) : tmD e = t ∧ handD e = h := by
  rw [key_of (right e he)] at hk
  have e1 : tmD e = t := (List.cons.inj hk).1
  have e2 : (handD e : Int) = h := (List.cons.inj (List.cons.inj hk).2).1
  exact ⟨e1, by omega⟩
theorem Down.ok {es F : List PyData} (h : OkD es) (w : Down es F) : OkD F where
  nd := w.nd
  right := fun d hd => h.right d (w.sub d hd)
  cls := fun d hd i hi => (h.cls d (w.sub d hd) i hi).imp id fun ⟨e, he, hk, z⟩ => by
    obtain ⟨e1, e2⟩ := key_parts h.right he hk
    exact ⟨e, w.low d hd e he (by rw [e1, e2]; exact Int.le_refl _), hk, z⟩
  own := fun d hd e he => h.own d (w.sub d hd) e (w.sub e he)
  nms := fun d hd k hk => by
    obtain ⟨e, he, ek, z⟩ := h.nms d (w.sub d hd) k hk
    exact ⟨e, w.low d hd e he z, ek, z⟩
theorem Down.taken {es : List PyData} {b : List Int} (h : OkD es) (c : closedD es b = true) : Down es (takenD b es) where
  nd := (h.taken c).nd
  sub := fun d hd => (taken_mem.mp hd).1
  low := fun d hd x hx le => taken_mem.mpr ⟨hx, Int.le_trans le (taken_seen h c hd _ (hand_lt (h.right x hx)))⟩
theorem Down.perm {es F G : List PyData} (w : Down es F) (p : G.Perm F) : Down es G := ⟨(p.map keyD).nodup_iff.mpr w.nd, fun d hd => w.sub d (p.mem_iff.mp hd), fun d hd x hx le => p.mem_iff.mpr (w.low d (p.mem_iff.mp hd) x hx le)⟩
/-- what the deed lacks in the branch -/
def lackP (b : List Int) (e : PyData) (x : PyData) : Bool := decide (tmD x ≤ (closeD e).getD (handD x) 0) && (decide (keyD x ≠ keyD e) && decide (¬ tmD x ≤ b.getD (handD x) 0))
def lackD (b : List Int) (e : PyData) (es : List PyData) : List PyData := es.filter (lackP b e)
theorem lack_mem {b : List Int} {e x : PyData} {es : List PyData} : x ∈ lackD b e es ↔ x ∈ es ∧ tmD x ≤ (closeD e).getD (handD x) 0 ∧ keyD x ≠ keyD e ∧ ¬ tmD x ≤ b.getD (handD x) 0 := by
  unfold lackD lackP
  rw [List.mem_filter, Bool.and_eq_true, Bool.and_eq_true, decide_eq_true_eq, decide_eq_true_eq, decide_eq_true_eq]
theorem close_get {e : PyData} (h4 : (snD e).length = 4) {i : Nat} (hi : i < 4) : (closeD e).getD i 0 = if handD e = i then tmD e else (snD e).getD i 0 := getD_seti (by rw [h4]; exact hi)
theorem sn_four {d : PyData} (h : deedD d = true) : (snD d).length = 4 := by
  obtain ⟨t, j, x, r, hk, ht, hj, l4, _⟩ := deed_pure h
  exact l4
/-- who is seen by the deed itself is another one, of the closure -/
theorem seen_close {es : List PyData} {e x : PyData} (h : OkD es) (he : e ∈ es) (hx : x ∈ es) (le : tmD x ≤ (snD e).getD (handD x) 0) : tmD x ≤ (closeD e).getD (handD x) 0 ∧ keyD x ≠ keyD e ∧ tmD x < tmD e := by
  have re := h.right e he
  have hh := hand_lt (h.right x hx)
  have b := (sn_bd re _ hh).2
  refine ⟨?_, fun z => ?_, by omega⟩
  · rw [close_get (sn_four re) hh]
    split <;> omega
  · rw [key_of (h.right x hx), key_of re] at z
    have := (List.cons.inj z).1
    omega
/-- who is of the closure, and another one, is seen by the deed -/
theorem close_seen {es : List PyData} {e x : PyData} (h : OkD es) (he : e ∈ es) (hx : x ∈ es) (le : tmD x ≤ (closeD e).getD (handD x) 0) (ne : keyD x ≠ keyD e) : tmD x ≤ (snD e).getD (handD x) 0 := by
  have re := h.right e he
  have rx := h.right x hx
  rw [close_get (sn_four re) (hand_lt rx)] at le
  by_cases c : handD e = handD x
  · rw [if_pos c] at le
    have lt : tmD x < tmD e := by
      rcases Int.lt_or_eq_of_le le with z | z
      · exact z
      · exact absurd (by rw [key_of rx, key_of re, z, c]) ne
    rw [← c]
    exact h.own e he x hx c.symm lt
  · rw [if_neg c] at le
    exact le
theorem lack_down {es : List PyData} {b : List Int} {e : PyData} (h : OkD es) (c : closedD es b = true) (he : e ∈ es) (ne : ¬ tmD e ≤ b.getD (handD e) 0) : lackD b e es = [] ↔ Down es (takenD b es ++ [e]) := by
  constructor
  · intro z
    have T := Down.taken h c
    refine ⟨?_, fun d hd => ?_, fun d hd x hx le => ?_⟩
    · rw [List.map_append, List.nodup_append]
      refine ⟨T.nd, by simp, fun k hk k' hk' => ?_⟩
      rw [List.map_cons, List.map_nil, List.mem_singleton] at hk'
      obtain ⟨d, hd, rfl⟩ := List.mem_map.mp hk
      intro q
      have : d = e := key_one h.nd (T.sub d hd) he (by rw [q, hk'])
      rw [this] at hd
      exact ne (taken_mem.mp hd).2
    · rcases List.mem_append.mp hd with q | q
      · exact T.sub d q
      · rw [List.mem_singleton.mp q]
        exact he
    · rcases List.mem_append.mp hd with q | q
      · exact List.mem_append_left _ (T.low d q x hx le)
      · rw [List.mem_singleton.mp q] at le
        obtain ⟨l1, l2, _⟩ := seen_close h he hx le
        refine List.mem_append_left _ (taken_mem.mpr ⟨hx, Classical.byContradiction fun no => ?_⟩)
        have : x ∈ lackD b e es := lack_mem.mpr ⟨hx, l1, l2, no⟩
        rw [z] at this
        exact List.not_mem_nil this
  · intro w
    refine List.eq_nil_iff_forall_not_mem.mpr fun x hx => ?_
    obtain ⟨hm, l1, l2, l3⟩ := lack_mem.mp hx
    have le := close_seen h he hm l1 l2
    rcases List.mem_append.mp (w.low e (List.mem_append_right _ (List.mem_singleton.mpr rfl)) x hm le) with q | q
    · exact l3 (taken_mem.mp q).2
    · rw [List.mem_singleton.mp q] at l2
      exact l2 rfl
theorem errC_closed {ds : List PyData} : ∀ {r : List PyData} {l : List Int}, errC ds r l = none → ∀ d ∈ r, closedD ds (snD d) = true
  | [], _, _, d, hd => absurd hd List.not_mem_nil
  | d :: r, l, h, e, he => by
    unfold errC at h
    by_cases c : ownOk ds l d = true
    · rw [if_pos c] at h
      by_cases c2 : nmOk ds d = true
      · rw [if_pos c2] at h
        rcases List.mem_cons.mp he with z | z
        · rw [z]
          unfold ownOk at c
          rw [Bool.and_eq_true] at c
          exact c.2
        · exact errC_closed h e z
      · rw [if_neg c2] at h
        cases h
    · rw [if_neg c] at h
      cases h
/-- a branch and a deed more make a book just if the deed lacks nothing -/
theorem lack_err {es fs : List PyData} {b : List Int} {e : PyData} (h : OkD es) (c : closedD es b = true) (he : e ∈ es) (ne : ¬ tmD e ≤ b.getD (handD e) 0) (p : fs.Perm (takenD b es ++ [e])) (u : UpD fs) : errC fs fs l0 = none ↔ lackD b e es = [] := by
  constructor
  · intro z
    refine List.eq_nil_iff_forall_not_mem.mpr fun x hx => ?_
    obtain ⟨hm, l1, l2, l3⟩ := lack_mem.mp hx
    have le := close_seen h he hm l1 l2
    have rx := h.right x hm
    have hh := hand_lt rx
    have rf : ∀ d ∈ fs, deedD d = true := fun d hd => by
      rcases List.mem_append.mp (p.mem_iff.mp hd) with q | q
      · exact h.right d (taken_mem.mp q).1
      · rw [List.mem_singleton.mp q]
        exact h.right e he
    have hef : e ∈ fs := p.mem_iff.mpr (List.mem_append_right _ (List.mem_singleton.mpr rfl))
    have cl := errC_closed z e hef
    unfold closedD at cl
    have o := List.all_eq_true.mp cl (handD x) (List.mem_range.mpr hh)
    unfold okAt at o
    have t := tm_pos rx
    rw [decide_eq_false (by omega), Bool.false_or] at o
    cases hy : atD fs [(snD e).getD (handD x) 0, (handD x : Int)] with
    | none =>
      rw [hy] at o
      cases o
    | some y =>
      obtain ⟨hyf, hyk⟩ := atD_mem hy
      obtain ⟨k1, k2⟩ := key_parts rf hyf hyk
      have bd := (sn_bd (h.right e he) _ hh).2
      rcases List.mem_append.mp (p.mem_iff.mp hyf) with q | q
      · have := (taken_mem.mp q).2
        rw [k1, k2] at this
        omega
      · rw [List.mem_singleton.mp q] at k1
        omega
  · intro z
    exact ((((lack_down h c he ne).mp z).ok h).perm p).good u
/-- a lot of deeds, one more by one, each after all that it has seen -/
theorem Down.more {es F : List PyData} {e : PyData} (h : OkD es) (w : Down es F) (he : e ∈ es) (ne : e ∉ F) (low : ∀ x ∈ es, tmD x ≤ (snD e).getD (handD x) 0 → x ∈ F) : Down es (F ++ [e]) where
  nd := by
    rw [List.map_append, List.nodup_append]
    refine ⟨w.nd, by simp, fun k hk k' hk' => ?_⟩
    rw [List.map_cons, List.map_nil, List.mem_singleton] at hk'
    obtain ⟨d, hd, rfl⟩ := List.mem_map.mp hk
    intro q
    have : d = e := key_one h.nd (w.sub d hd) he (by rw [q, hk'])
    rw [this] at hd
    exact ne hd
  sub := fun d hd => by
    rcases List.mem_append.mp hd with q | q
    · exact w.sub d q
    · rw [List.mem_singleton.mp q]
      exact he
  low := fun d hd x hx le => by
    rcases List.mem_append.mp hd with q | q
    · exact List.mem_append_left _ (w.low d q x hx le)
    · rw [List.mem_singleton.mp q] at le
      exact List.mem_append_left _ (low x hx le)
/-- what one branch has and the other lacks -/
def newsP (a b : List Int) (x : PyData) : Bool := decide (tmD x ≤ a.getD (handD x) 0) && decide (¬ tmD x ≤ b.getD (handD x) 0)
def newsD (a b : List Int) (es : List PyData) : List PyData := es.filter (newsP a b)
theorem news_mem {a b : List Int} {x : PyData} {es : List PyData} : x ∈ newsD a b es ↔ x ∈ es ∧ tmD x ≤ a.getD (handD x) 0 ∧ ¬ tmD x ≤ b.getD (handD x) 0 := by
  unfold newsD newsP
  rw [List.mem_filter, Bool.and_eq_true, decide_eq_true_eq, decide_eq_true_eq]
/-- each of the news lacks nothing once those ahead of it are in -/
theorem news_step {a b : List Int} {es : List PyData} (h : OkD es) (u : UpD es) (ca : closedD es a = true) (cb : closedD es b = true) {i : Nat} {e : PyData} (hi : (newsD a b es)[i]? = some e) :
    e ∈ es ∧ e ∉ takenD b es ++ (newsD a b es).take i ∧ ∀ x ∈ es, tmD x ≤ (snD e).getD (handD x) 0 → x ∈ takenD b es ++ (newsD a b es).take i := by
  have hm := List.mem_of_getElem? hi
  obtain ⟨he, l1, l2⟩ := news_mem.mp hm
  have up : UpD (newsD a b es) := u.sublist List.filter_sublist
  have hlt := (List.getElem?_eq_some_iff.mp hi).1
  have split : newsD a b es = (newsD a b es).take i ++ e :: (newsD a b es).drop (i + 1) := by
    have hl := List.getElem?_eq_some_iff.mp hi
    rw [← hl.2, List.getElem_cons_drop, List.take_append_drop]
  have pw : ∀ x ∈ (newsD a b es).take i, lt1000 (keyD x) (keyD e) := fun x hx => by
    unfold UpD at up
    rw [split, List.pairwise_append] at up
    exact up.2.2 x hx e List.mem_cons_self
  have pw2 : ∀ x ∈ (newsD a b es).drop (i + 1), lt1000 (keyD e) (keyD x) := fun x hx => by
    unfold UpD at up
    rw [split, List.pairwise_append, List.pairwise_cons] at up
    exact up.2.1.1 x hx
  refine ⟨he, fun z => ?_, fun x hx le => ?_⟩
  · rcases List.mem_append.mp z with q | q
    · exact l2 (taken_mem.mp q).2
    · exact absurd (pw e q) (Int.lt_irrefl _)
  · have rx := h.right x hx
    have re := h.right e he
    by_cases c : tmD x ≤ b.getD (handD x) 0
    · exact List.mem_append_left _ (taken_mem.mpr ⟨hx, c⟩)
    · have la : tmD x ≤ a.getD (handD x) 0 := Int.le_trans le (taken_seen h ca (taken_mem.mpr ⟨he, l1⟩) _ (hand_lt rx))
      have hxn : x ∈ newsD a b es := news_mem.mpr ⟨hx, la, c⟩
      obtain ⟨_, _, lt⟩ := seen_close h he hx le
      have l : lt1000 (keyD x) (keyD e) := by
        have h1 := hand_lt rx
        show TS.code 1000 _ < TS.code 1000 _
        rw [key_of rx, key_of re, code2, code2]
        omega
      rw [split] at hxn
      rcases List.mem_append.mp hxn with q | q
      · exact List.mem_append_right _ q
      · rcases List.mem_cons.mp q with q | q
        · rw [q] at lt
          omega
        · have := pw2 x q
          unfold lt1000 at l this
          omega
/-- all that either branch has -/
theorem news_all {a b : List Int} {es : List PyData} (l1 : a.length = 4) (l2 : b.length = 4) (right : ∀ d ∈ es, deedD d = true) (x : PyData) : x ∈ takenD b es ++ newsD a b es ↔ x ∈ takenD (List.zipWith max a b) es := by
  rw [List.mem_append, taken_mem, taken_mem, news_mem]
  constructor
  · rintro (⟨h1, h2⟩ | ⟨h1, h2, h3⟩)
    · refine ⟨h1, ?_⟩
      rw [zip_getD l1 l2 (hand_lt (right x h1))]
      omega
    · refine ⟨h1, ?_⟩
      rw [zip_getD l1 l2 (hand_lt (right x h1))]
      omega
  · rintro ⟨h1, h2⟩
    rw [zip_getD l1 l2 (hand_lt (right x h1))] at h2
    by_cases c : tmD x ≤ b.getD (handD x) 0
    · exact .inl ⟨h1, c⟩
    · exact .inr ⟨h1, by omega, c⟩
end K1
set_option maxHeartbeats 8000000
/-! news_of, lacks_of, and joined_branch as it refuses -/
namespace K1
open PySem L2 PySem.Spec PyProof.Rows RZ
def intsOf : PyData → List Int
  | .tuple es => es.map intD
  | _ => []
theorem ints_br (b : List Int) : intsOf (brD b) = b := by
  show (b.map PyData.int).map intD = b
  rw [List.map_map, show (intD ∘ PyData.int) = id from rfl, List.map_id]
theorem isB_nums {K : PySem.W.Frag} {H : Hp} {ds : List PyData} {v : V} {d : PyData} (h : isB ds d = true) (hd : DQ K H v d) : ∃ a, v = .ref a ∧ SqT K H a ((intsOf d).map V.int) ∧ (intsOf d).length = 4 ∧ closedD ds (intsOf d) = true ∧ d = brD (intsOf d) := by
  cases d with
  | tuple es =>
    have h' : (decide (es.length = 4) && (es.all numD && closedD ds (es.map intD))) = true := h
    rw [Bool.and_eq_true, Bool.and_eq_true] at h'
    obtain ⟨h1, h2, h3⟩ := h'
    cases hd with
    | tup g1 g2 =>
      obtain ⟨z1, z2⟩ := nums_vs h2 g2
      rw [z1] at g1
      refine ⟨_, rfl, g1, ?_, h3, ?_⟩
      · show (es.map intD).length = 4
        rw [List.length_map]
        exact of_decide_eq_true h1
      · show PyData.tuple es = PyData.tuple ((es.map intD).map PyData.int)
        rw [← z2]
  | _ => cases h
theorem news_taken (a b : List Int) (ds : List PyData) : newsD a b ds = (takenD a ds).filter fun d => decide (¬ tmD d ≤ b.getD (handD d) 0) := by
  unfold newsD takenD
  rw [List.filter_filter]
  congr 1
  funext d
  exact Bool.and_comm _ _
theorem lack_taken (b : List Int) (e : PyData) (ds : List PyData) : lackD b e ds = (takenD (closeD e) ds).filter fun d => decide (keyD d ≠ keyD e) && decide (¬ tmD d ≤ b.getD (handD d) 0) := by
  unfold lackD takenD
  rw [List.filter_filter]
  congr 1
  funext d
  exact Bool.and_comm _ _
/-- a comprehension that sifts stamps of deeds -/
theorem lc_sift {K : PySem.W.Frag} {a : Addr} {xs : List V} {gs : List PyData} {tt : TT} {j : Nat} {σ : L2.St} {H1 : Hp} {D : Addr} {Qd : Hp → Prop} (p : PyData → Bool) (nD : H1 D = none) (ha : SqL K H1 a xs) (hq : DQs K H1 xs (gs.map stOf)) (hz : gs.length ≤ 1000) (hw : ∀ x, wipe ((wipe σ [j]).set j (some x)) [j] = wipe σ [j]) (hs : ∀ x, ((wipe σ [j]).set j (some x))[j]? = some (some x))
    (ht : ∀ d x H' Q, d ∈ gs → Same H1 H' → DQ K H' x (stOf d) → (∀ H'', Same H' H'' → Q (p d) H'') → tt ((wipe σ [j]).set j (some x)) H' Q)
    (hd : ∀ H' us, Same H1 H' → H' D = some (.lst us) → DQs K H' us ((gs.filter p).map stOf) → Qd H') :
    ∃ W : Nat → Nat → Hp → Prop, (∃ m, W 0 m (upd H1 D (.lst []))) ∧ ∀ i m H, W i m H →
      ((Itl K a).stop i H ∧ Qd H) ∨ ((Itl K a).go i H ∧ ∃ Nx : Hp → Prop, (∀ H', Nx H' → ∃ m', m' < m ∧ W (i + 1) m' H') ∧ ∀ x H', (Itl K a).yld i H x H' → (gName j) x (wipe σ [j]) H' fun σ2 H2 => wipe σ2 [j] = wipe σ [j] ∧ tt σ2 H2 fun b H3 =>
        if b = true then (tVar j) σ2 H3 fun y H4 => ∃ acc, H4 D = some (.lst acc) ∧ acc.length < sizeLine ∧ Nx (upd H4 D (.lst (acc ++ [y]))) else Nx H3) := by
  have ls := hq.len
  rw [List.length_map] at ls
  refine lc_list (K := K) (a := a) (xs := xs) (fun i H' => Same H1 H' ∧ ∃ acc, H' D = some (.lst acc) ∧ DQs K H1 acc (((gs.take i).filter p).map stOf)) ⟨K0.same_upd nD, [], upd_same, .nil⟩ (fun i H' _ ⟨s, _⟩ => s.seq ha) ?_ ?_
  · rintro i x H' hi ⟨s, acc, h, hacc⟩
    obtain ⟨e0, he0, hx⟩ := hq.at hi
    rw [List.getElem?_map] at he0
    obtain ⟨d, hdi, rfl⟩ := Option.map_eq_some_iff.mp he0
    refine ⟨hw x, ht d x H' _ (List.mem_of_getElem? hdi) s (hx.to s) fun H'' s' => ?_⟩
    have tk : gs.take (i + 1) = gs.take i ++ [d] := by
      rw [List.take_succ, hdi]
      rfl
    have la := hacc.len
    have lf : ((gs.take i).filter p).length ≤ gs.length := Nat.le_trans (List.length_filter_le _ _) (by rw [List.length_take]; omega)
    rw [List.length_map] at la
    rw [tk, List.filter_append]
    cases hp : p d with
    | true =>
      rw [List.filter_cons_of_pos hp, List.map_append]
      exact iteT ⟨_, hs x, acc, s' _ _ h, by rw [sizeLine_eq]; omega, K0.same_over (s.trans s') nD, _, upd_same, hacc.app (.cons hx .nil)⟩
    | false =>
      rw [List.filter_cons_of_neg (by rw [hp]; exact Bool.noConfusion), List.filter_nil, List.append_nil]
      exact iteF ⟨s.trans s', acc, s' _ _ h, hacc⟩
  · rintro H' ⟨s, acc, h, hacc⟩
    rw [ls, List.take_length] at hacc
    exact hd H' acc s h (hacc.to s)
/-- the stamp of the deed that is found by it -/
theorem stampOf {ds : List PyData} {e x : PyData} (hx : atD ds (pairK e) = some x) (h : hasD ds e = true) (rx : deedD x = true) : e = stOf x := by
  unfold hasD at h
  rw [Bool.and_eq_true] at h
  obtain ⟨t, j, rfl, _⟩ := stamp_int h.1
  have hk := (atD_mem hx).2
  unfold stOf
  rw [hk]
  rfl
def spNews (K : PySem.W.Frag) (C Cn : Addr) : Sp := fun vs H Q E => ∃ p ds v d u e, vs = [.ref p, v, u] ∧ BookAt K C H p ds ∧ DQ K H v d ∧ DQ K H u e ∧ okOr Cn (isB ds d) v H E (okOr Cn (isB ds e) u H E (∀ H' q us, Same H H' → H q = none → H' q = some (.lst us) → DQs K H' us ((newsD (intsOf d) (intsOf e) ds).map stOf) → Q (.ref q) H'))
def spLacks (K : PySem.W.Frag) (C Cn Cs : Addr) : Sp := fun vs H Q E => ∃ p ds v d u e, vs = [.ref p, v, u] ∧ BookAt K C H p ds ∧ DQ K H v d ∧ DQ K H u e ∧ okOr Cn (isB ds d) v H E (okOr Cs (hasD ds e) u H E (∀ x H' q us, atD ds (pairK e) = some x → Same H H' → H q = none → H' q = some (.lst us) → DQs K H' us ((lackD (intsOf d) x ds).map stOf) → Q (.ref q) H'))
def spJoinX (K : PySem.W.Frag) (C Cn : Addr) : Sp := fun vs H Q E => ∃ p ds v d u e, vs = [.ref p, v, u] ∧ BookAt K C H p ds ∧ DQ K H v d ∧ DQ K H u e ∧ okOr Cn (isB ds d) v H E (okOr Cn (isB ds e) u H E (∀ H' q, Same H H' → SqT K H' q ((List.zipWith max (intsOf d) (intsOf e)).map V.int) → Q (.ref q) H'))
/-- the second check stands behind the first one -/
theorem okOr.at {C : Addr} {c : Bool} {v : V} {H H1 : Hp} {E : XK} {k k' : Prop} (h : okOr C c v H E k) (s : Same H H1) (kk : k → k') : okOr C c v H1 E k' := ⟨fun e => kk (h.1 e), fun e H' d S hd => h.2 e H' d (s.trans S) hd⟩
section
variable {P : Program} {w : World} {K : PySem.W.Frag} {mg : Str → Option Value} {base : Heap} {C : Addr} {c : Nat → Addr}
theorem sc_news : FnScope ["book", "branch", "other", "stamp"] ["book", "branch", "other"] (defScope (top 53)) := ⟨rfl, rfl, rfl, by decide +kernel, rfl, by decide +kernel, by decide +kernel⟩
theorem cl_news (T : All K mg) (W : BkAll K mg C c) (hit : mg "iter" = none) : ClX P w K mg base 13 "news_of" ["book", "branch", "other"] (spNews K C (c 4)) := by
  obtain ⟨g, fd, D⟩ := T.dn 53 _ _ rfl
  refine D.clX (D.fn.okX sc_news (fun vs H Q E h => ?_) (fun cdv A outer s H vs Q E hr h => ?_))
  · obtain ⟨p, ds, v, d, u, e, rfl, _⟩ := h
    rfl
  · obtain ⟨p, ds, v, d, u, e, rfl, bk, hd, he, k⟩ := h
    refine ⟨_, (pss_cons (ps_expr (pe_clX (cl_ckBr T W) hr (takes_of rfl rfl rfl rfl) (by decide) (pa_cons (pv 0) (pa_cons (pv 1) pa_nil))))
      (pss_cons (ps_expr (pe_clX (cl_ckBr T W) hr (takes_of rfl rfl rfl rfl) (by decide) (pa_cons (pv 0) (pa_cons (pv 2) pa_nil))))
      (pss_one (ps_ret (pe_lc (own := [("stamp", 3)]) (g := gName 3) (tt := (tNot (tB (tCall (spHasSt K) [] E0 (tCons (tVar 2) (tCons (tVar 3) tNil)))))) (te := (tVar 3)) rfl sc_news.nd (pi_list (pe_cl (cl_taken T W hit) hr (by decide) (pa_cons (pv 0) (pa_cons (pv 1) pa_nil)))) (blkOk_by (own := [("stamp", 3)]) (N := ["book", "branch", "other", "stamp"]) (sc := defScope (top 53)) (by decide +kernel)) (fun _ _ _ _ _ => (pg_name (i := 3) sc_news.nd rfl (Or.inl rfl))) (fun _ _ _ _ _ => pts_one (pt_not (pt_val (pe_cl (cl_hasSt T) hr (by decide) (pa_cons (pv 2) (pa_cons (pv 3) pa_nil)))))) (fun _ _ _ _ _ => (pv 3))))))), ?_⟩
    refine ⟨_, rfl, _, rfl, p, ds, v, d, rfl, bk, hd, ⟨fun e1 H1 S1 => ?_, fun e1 H' dd S h => k.2 e1 H' dd S h⟩⟩
    have k1 := k.1 e1
    refine ⟨_, rfl, _, rfl, p, ds, u, e, rfl, bk.to S1, he.to S1, ⟨fun e2 H2 S2 => ?_, fun e2 H' dd S h => k1.2 e2 H' dd (S1.trans S) h⟩⟩
    have k2 := k1.1 e2
    have S12 := S1.trans S2
    obtain ⟨a, rfl, ha, la, ca, _⟩ := isB_nums e1 hd
    obtain ⟨b, rfl, hb, lb, cb, _⟩ := isB_nums e2 he
    refine ⟨_, rfl, _, rfl, p, a, ds, intsOf d, rfl, bk.to S12, K0.seqT_same S12 ha, la, fun H3 q us S3 nq hq hus => ?_⟩
    have S13 := S12.trans S3
    have few := bk.few
    have lf : (takenD (intsOf d) ds).length ≤ ds.length := List.length_filter_le _ _
    refine ⟨q, rfl, ⟨us, SqL.of hq⟩, fun Dd nD => ?_⟩
    refine lc_sift (j := 3) (fun x => decide (¬ tmD x ≤ (intsOf e).getD (handD x) 0)) nD (SqL.of hq) hus (by omega) (fun _ => rfl) (fun _ => rfl) (fun x ux H' Qb hx S hux kb => ?_) (fun H' us' S hD hus' => ?_)
    · have rx := bk.right x (taken_mem.mp hx).1
      rw [st_eq rx] at hux
      obtain ⟨sa, rfl, p1⟩ := DQ.pair hux
      refine ⟨_, rfl, _, rfl, b, sa, intsOf e, tmD x, handD x, rfl, K0.seqT_same (S13.trans S) hb, lb, p1, hand_lt rx, _, rfl, ?_⟩
      have z := kb H' (Same.refl _)
      rw [decide_not] at z
      exact z
    · rw [← news_taken] at hus'
      have nD0 : H Dd = none := by
        cases e : H Dd with
        | none => rfl
        | some o =>
          rw [S13 _ _ e] at nD
          cases nD
      exact k2 H' Dd us' (S13.trans S) nD0 hD hus'
theorem sc_lacks : FnScope ["book", "branch", "stamp", "taken", "other"] ["book", "branch", "stamp"] (defScope (top 54)) := ⟨rfl, rfl, rfl, by decide +kernel, rfl, by decide +kernel, by decide +kernel⟩
theorem cl_lacks (T : All K mg) (W : BkAll K mg C c) (hit : mg "iter" = none) : ClX P w K mg base 13 "lacks_of" ["book", "branch", "stamp"] (spLacks K C (c 4) (c 6)) := by
  obtain ⟨g, fd, D⟩ := T.dn 54 _ _ rfl
  obtain ⟨fs, Rs⟩ := W.Rs
  obtain ⟨fh, fdh, Fh, bh, sh, ih⟩ := W.has
  obtain ⟨fg, fdg, Fg, bg, sg, ng, ig⟩ := W.get
  have GG : FnOk P w K mg base (L2.CX P w) 5 fg fdg ["self", "at"] (spGet K C (c 6)) := ok_get Fg Fh bh sh ih T W.B Rs
  refine D.clX (D.fn.okX sc_lacks (fun vs H Q E h => ?_) (fun cdv A outer s H vs Q E hr h => ?_))
  · obtain ⟨p, ds, v, d, u, e, rfl, _⟩ := h
    rfl
  · obtain ⟨p, ds, v, d, u, e, rfl, bk, hd, he, k⟩ := h
    refine ⟨_, (pss_cons (ps_expr (pe_clX (cl_ckBr T W) hr (takes_of rfl rfl rfl rfl) (by decide) (pa_cons (pv 0) (pa_cons (pv 1) pa_nil))))
      (pss_cons (ps_expr (pe_clX (cl_ckS T W) hr (takes_of rfl rfl rfl rfl) (by decide) (pa_cons (pv 0) (pa_cons (pv 2) pa_nil))))
      (pss_cons (ps_set (i := 3) sc_lacks.nd rfl (Or.inl rfl) (pe_cl (cl_taken T W hit) hr (by decide) (pa_cons (pv 0) (pa_cons (pe_cl (cl_clos T W) hr (by decide) (pa_cons (pe_getO GG (hr.mono (by decide)) bg (fun σ => passAt (takes_of rfl rfl rfl rfl) σ) sg ng ig (pv 0) (pv 2)) pa_nil)) pa_nil))))
      (pss_one (ps_ret (pe_lc (own := [("other", 4)]) (g := gName 4) (tt := (tAnd (tTest (tOp (rNeD K) (tVar 4) (tVar 2))) (tNot (tB (tCall (spHasSt K) [] E0 (tCons (tVar 1) (tCons (tVar 4) tNil))))))) (te := (tVar 4)) rfl sc_lacks.nd (pi_list (pv 3)) (blkOk_by (own := [("other", 4)]) (N := ["book", "branch", "stamp", "taken", "other"]) (sc := defScope (top 54)) (by decide +kernel)) (fun _ _ _ _ _ => (pg_name (i := 4) sc_lacks.nd rfl (Or.inl rfl))) (fun _ _ _ _ _ => pts_one (PW.pt (pw_and (pt_cmpR (op_neD hr.units) (pv 4) (pv 2) (nomark _)) (pw_and1 (pt_not (pt_val (pe_cl (cl_hasSt T) hr (by decide) (pa_cons (pv 1) (pa_cons (pv 4) pa_nil))))))))) (fun _ _ _ _ _ => (pv 4)))))))), ?_⟩
    refine ⟨_, rfl, _, rfl, p, ds, v, d, rfl, bk, hd, ⟨fun e1 H1 S1 => ?_, fun e1 H' dd S h => k.2 e1 H' dd S h⟩⟩
    have k1 := k.1 e1
    refine ⟨_, rfl, _, rfl, p, ds, u, e, rfl, bk.to S1, he.to S1, ⟨fun e2 H2 S2 => ?_, fun e2 H' dd S h => k1.2 e2 H' dd (S1.trans S) h⟩⟩
    have k2 := k1.1 e2
    have S12 := S1.trans S2
    obtain ⟨a, rfl, ha, la, ca, _⟩ := isB_nums e1 hd
    obtain ⟨dx, rA, tA, sA, lA, i1⟩ := (bk.to S12).ins
    refine ⟨_, rfl, _, rfl, _, rfl, p, dx, _, rfl, i1, p, ds, u, e, rfl, bk.to S12, he.to S12, ⟨fun _ x H3 ux hx S3 hux _ => ?_, fun no => (by rw [e2] at no; cases no)⟩⟩
    have hxm := (atD_mem hx).1
    have rx := bk.right x hxm
    have S13 := S12.trans S3
    refine ⟨ux, x, rfl, hux, rx, fun H4 q4 S4 hq4 => ?_⟩
    have S14 := S13.trans S4
    have c4 := close_len (sn_four rx)
    refine ⟨p, q4, ds, closeD x, rfl, bk.to S14, hq4, c4, fun H5 q us S5 nq hq hus => ?_⟩
    have S15 := S14.trans S5
    have few := bk.few
    have lf : (takenD (closeD x) ds).length ≤ ds.length := List.length_filter_le _ _
    have hsd : stampD e = true ∧ ∃ z, atD ds (pairK e) = some z := ⟨by
      unfold hasD at e2
      rw [Bool.and_eq_true] at e2
      exact e2.1, x, hx⟩
    have ku : DQ K H5 u (stOf x) ∧ (stOf x).hasDict = false := ⟨by rw [← stampOf hx e2 (bk.right x hxm)]; exact he.to S15, nodict_st rx⟩
    refine ⟨_, rfl, q, rfl, ⟨us, SqL.of hq⟩, fun Dd nD => ?_⟩
    refine lc_sift (j := 4) (fun y => decide (keyD y ≠ keyD x) && decide (¬ tmD y ≤ (intsOf d).getD (handD y) 0)) nD (SqL.of hq) hus (by omega) (fun _ => rfl) (fun _ => rfl) (fun y uy H' Qb hy S huy kb => ?_) (fun H' us' S hD hus' => ?_)
    · have ry := bk.right y (taken_mem.mp hy).1
      have huy0 := huy
      rw [st_eq ry] at huy
      obtain ⟨sa, rfl, p1⟩ := DQ.pair huy
      have z := kb H' (Same.refl _)
      refine ⟨_, rfl, _, rfl, stOf y, stOf x, DQ.dp _ _ (nodict_st ry) huy0, DQ.dp _ _ ku.2 (ku.1.to S), shaped_st ry, shaped_st rx, _, rfl, ?_⟩
      have ee : PyData.eqv (stOf y) (stOf x) = decide (keyD y = keyD x) := by
        rw [st_eq ry, st_eq rx, eqv_pair, key_of ry, key_of rx, decide_eq_decide]
        constructor
        · rintro ⟨h1, h2⟩
          rw [h1, h2]
        · intro h
          exact ⟨(List.cons.inj h).1, (List.cons.inj (List.cons.inj h).2).1⟩
      rw [ee]
      by_cases cq : keyD y = keyD x
      · rw [decide_eq_true cq]
        refine iteF ?_
        rw [decide_eq_false (fun no => no cq), Bool.false_and] at z
        exact z
      · rw [decide_eq_false cq]
        refine iteT ⟨_, rfl, _, rfl, a, sa, intsOf d, tmD y, handD y, rfl, K0.seqT_same (S15.trans S) ha, la, p1, hand_lt ry, _, rfl, ?_⟩
        rw [decide_eq_true cq, Bool.true_and, decide_not] at z
        exact z
    · rw [← lack_taken] at hus'
      have nD0 : H Dd = none := by
        cases e : H Dd with
        | none => rfl
        | some o =>
          rw [S15 _ _ e] at nD
          cases nD
      exact k2 x H' Dd us' hx (S15.trans S) nD0 hD hus'
theorem sc_joinX : FnScope ["book", "one", "other"] ["book", "one", "other"] (defScope (top 51)) := ⟨rfl, rfl, rfl, by decide +kernel, rfl, by decide +kernel, by decide +kernel⟩
theorem cl_joinX (T : All K mg) (M : Nms mg) (W : BkAll K mg C c) : ClX P w K mg base 13 "joined_branch" ["book", "one", "other"] (spJoinX K C (c 4)) := by
  obtain ⟨g, fd, D⟩ := T.dn 51 _ _ rfl
  refine D.clX (D.fn.okX sc_joinX (fun vs H Q E h => ?_) (fun cdv A outer s H vs Q E hr h => ?_))
  · obtain ⟨p, ds, v, d, u, e, rfl, _⟩ := h
    rfl
  · obtain ⟨p, ds, v, d, u, e, rfl, bk, hd, he, k⟩ := h
    refine ⟨_, (pss_cons (ps_expr (pe_clX (cl_ckBr T W) hr (takes_of rfl rfl rfl rfl) (by decide) (pa_cons (pv 0) (pa_cons (pv 1) pa_nil))))
      (pss_cons (ps_expr (pe_clX (cl_ckBr T W) hr (takes_of rfl rfl rfl rfl) (by decide) (pa_cons (pv 0) (pa_cons (pv 2) pa_nil))))
      (pss_one (ps_ret (pe_cl (cl_joined T M W) hr (by decide) (pa_cons (pv 1) (pa_cons (pv 2) pa_nil))))))), ?_⟩
    refine ⟨_, rfl, _, rfl, p, ds, v, d, rfl, bk, hd, ⟨fun e1 H1 S1 => ?_, fun e1 H' dd S h => k.2 e1 H' dd S h⟩⟩
    have k1 := k.1 e1
    refine ⟨_, rfl, _, rfl, p, ds, u, e, rfl, bk.to S1, he.to S1, ⟨fun e2 H2 S2 => ?_, fun e2 H' dd S h => k1.2 e2 H' dd (S1.trans S) h⟩⟩
    have k2 := k1.1 e2
    have S12 := S1.trans S2
    obtain ⟨a, rfl, ha, la, ca, _⟩ := isB_nums e1 hd
    obtain ⟨b, rfl, hb, lb, cb, _⟩ := isB_nums e2 he
    exact ⟨_, rfl, _, rfl, a, b, intsOf d, intsOf e, rfl, K0.seqT_same S12 ha, K0.seqT_same S12 hb, la, lb, fun H' q S hq => k2 H' q (S12.trans S) hq⟩
end
end K1
set_option maxHeartbeats 8000000
/-! the law's drawn branches; whether a deed is in a branch -/
namespace K1
open PySem L2 PySem.Spec PyProof.Rows RZ LamX
/-- tuples of numbers, each an own object -/
def BrAt (J : Hp) (vs : List V) (bs : List (List Int)) : Prop := Paired (fun u (b : List Int) => ∃ a : Addr, u = V.ref a ∧ J a = some (.tup (b.map V.int))) vs bs
theorem BrAt.to {J J' : Hp} {vs : List V} {bs : List (List Int)} (h : BrAt J vs bs) (k : ∀ a xs, J a = some (.tup xs) → J' a = some (.tup xs)) : BrAt J' vs bs := paired_imp (fun u b ⟨a, e, q⟩ => ⟨a, e, k a _ q⟩) h
theorem tup_bt {p : Addr} {J J' : Hp} (src : Src J p) (b : Bt p J J') : ∀ a xs, J a = some (.tup xs) → J' a = some (.tup xs) := fun a xs e => by
  obtain ⟨x, y, hp, _⟩ := src
  exact b.at (fun z => by rw [z, hp] at e; cases e) e
theorem BrAt.dqs {K : PySem.W.Frag} {J : Hp} {p : Addr} (src : Src J p) : ∀ {vs : List V} {bs : List (List Int)}, BrAt J vs bs → DQs K (hid p J) vs (bs.map brD)
  | _, _, .nil => .nil
  | _, _, .cons ⟨a, e, q⟩ t => by
    obtain ⟨x, y, hp, _⟩ := id src
    subst e
    exact .cons (dq_br (SqT.of (by rw [hid_ne (fun z => by rw [z, hp] at q; cases q)]; exact q))) (BrAt.dqs src t)
theorem BrAt.len {J : Hp} : ∀ {vs : List V} {bs : List (List Int)}, BrAt J vs bs → vs.length = bs.length
  | _, _, .nil => rfl
  | _, _, .cons _ t => by rw [List.length_cons, List.length_cons, BrAt.len t]
def spBr2 (K : PySem.W.Frag) : Sp := fun vs H Q _ => ∃ p l us ds, vs = [.ref p, .ref l] ∧ Src H p ∧ SqL K (hid p H) l us ∧ Deeds K (hid p H) us ds ∧ ds.length ≤ 20 ∧
  ∀ H' q vs' bs, Bt p H H' → H q = none → q ≠ p → H' q = some (.lst vs') → DQs K (hid p H') vs' (bs.map brD) → GoodBs ds bs → 0 < bs.length → bs.length ≤ 4 → Q (.ref q) H'
def spIn (K : PySem.W.Frag) : Sp := fun vs H Q _ => ∃ v d b, ∃ es : List Int, vs = [v, .ref b] ∧ DQ K H v d ∧ deedD d = true ∧ SqT K H b (es.map V.int) ∧ es.length = 4 ∧ Q (.bl (decide (tmD d ≤ es.getD (handD d) 0))) H
section
variable {P : Program} {w : World} {K : PySem.W.Frag} {mg : Str → Option Value} {base : Heap} {C : Addr} {c : Nat → Addr}
theorem sc_lin : FnScope ["_law_deed", "_law_branch"] ["_law_deed", "_law_branch"] (defScope (top 77)) := ⟨rfl, rfl, rfl, by decide +kernel, rfl, by decide +kernel, by decide +kernel⟩
theorem cl_lin (T : All K mg) : Cl P w K mg base 1 "_law_in" ["_law_deed", "_law_branch"] (spIn K) := by
  obtain ⟨g, fd, D⟩ := T.dn 77 _ _ rfl
  refine D.cl (D.fn.ok sc_lin (fun vs H Q E h => ?_) (fun cdv A outer s H vs Q E hr h => ?_))
  · obtain ⟨v, d, b, es, rfl, _⟩ := h
    rfl
  · obtain ⟨v, d, b, es, rfl, hd, rd, hb, h4, k⟩ := h
    refine ⟨_, (pss_one (ps_ret (pe_cmpR op_le (pe_ix ix_tup (pe_ix ix_tup (pv 0) pe_int (fun _ _ => rfl)) pe_int (fun _ _ => rfl)) (pe_ix ix_tup (pv 1) (pe_ix ix_tup (pe_ix ix_tup (pv 0) pe_int (fun _ _ => rfl)) pe_int (fun _ _ => rfl)) (fun _ _ => rfl)) (nomark _)))), ?_⟩
    obtain ⟨⟨a, sa, ka, ub, t, j, x, l, rfl, h1, h2, h3, _, hk, _⟩, p4, _⟩ := parts_of hd rd
    rw [key_of rd] at hk
    obtain rfl : tmD d = t := (List.cons.inj hk).1
    obtain rfl : (handD d : Int) = j := (List.cons.inj (List.cons.inj hk).2).1
    have hh := hand_lt rd
    exact ⟨_, rfl, a, _, _, _, rfl, rfl, h1, atI_nat (j := 0) rfl, sa, _, _, _, rfl, rfl, h2, atI_nat (j := 0) rfl, _, rfl, _, rfl, a, _, _, _, rfl, rfl, h1, atI_nat (j := 0) rfl, sa, _, _, _, rfl, rfl, h2, atI_nat (j := 1) rfl, b, _, _, _, rfl, rfl, hb, at_int (by omega), _, _, rfl, rfl, k⟩
theorem sc_lbr2 : FnScope ["_law_source", "_law_deeds", "_law_found", "_law_turn", "_law_here", "_law_deed", "_law_whole", "_law_k"] ["_law_source", "_law_deeds"] (defScope (top 76)) := ⟨rfl, rfl, rfl, by decide +kernel, rfl, by decide +kernel, by decide +kernel⟩
theorem list8 {α : Type} {r : List α} (h : r.length = 8) : ∃ a b c d e f g i, r = [a, b, c, d, e, f, g, i] := by
  match r, h with
  | [a, b, c, d, e, f, g, i], _ => exact ⟨a, b, c, d, e, f, g, i, rfl⟩
theorem cl_lbr2 (T : All K mg) (M : Nms mg) (M2 : Nms2 mg) : Cl P w K mg base 3 "_law_branches" ["_law_source", "_law_deeds"] (spBr2 K) := by
  obtain ⟨g, fd, D⟩ := T.dn 76 _ _ rfl
  refine D.cl (D.fn.ok sc_lbr2 (fun vs H Q E h => ?_) (fun cdv A outer s H vs Q E hr h => ?_))
  · obtain ⟨p, l, us, ds, rfl, _⟩ := h
    rfl
  · obtain ⟨p, l, us, ds, rfl, src, hl, dl, few, k⟩ := h
    refine ⟨_, (pss_cons (ps_set (i := 2) sc_lbr2.nd rfl (Or.inl rfl) (pe_lst (pa_cons (pe_tup (pa_cons pe_int (pa_cons pe_int (pa_cons pe_int (pa_cons pe_int pa_nil))))) pa_nil)))
      (pss_cons (ps_for PassesOwn.never rfl (pi_range1 rfl M2.range (pa_cons pe_int pa_nil)) (pg_name (i := 3) sc_lbr2.nd rfl (Or.inl rfl)) (pss_cons (ps_set (i := 4) sc_lbr2.nd rfl (Or.inr rfl) (pe_lst (pa_cons pe_int (pa_cons pe_int (pa_cons pe_int (pa_cons pe_int pa_nil))))))
      (pss_cons (ps_for PassesOwn.never rfl (pi_list (pe_slice sl_list (pe_cl (cl_turned T M M2) hr (by decide) (pa_cons (pv 0) (pa_cons (pv 1) pa_nil))) po_none (po_some (pe_cl (cl_takeB T M) hr (by decide) (pa_cons (pv 0) (pa_cons pe_int pa_nil)))))) (pg_name (i := 5) sc_lbr2.nd rfl (Or.inr rfl)) (pss_cons (ps_set (i := 6) sc_lbr2.nd rfl (Or.inr rfl) (pe_lc (own := [("_law_k", 7)]) (g := gName 7) (tt := tYes) (te := (tIf (tTest (tOp rEq (tVar 7) (tOp (rIxT K) (tOp (rIxT K) (tVar 5) (tC (.int 0))) (tC (.int 1))))) (tOp (rIxT K) (tOp (rIxT K) (tVar 5) (tC (.int 0))) (tC (.int 0))) (tOp (rIxT K) (tOp (rIxT K) (tVar 5) (tC (.int 1))) (tVar 7)))) rfl sc_lbr2.nd (pi_range1 rfl M2.range (pa_cons pe_int pa_nil)) (blkOk_by (own := [("_law_k", 7)]) (N := ["_law_source", "_law_deeds", "_law_found", "_law_turn", "_law_here", "_law_deed", "_law_whole", "_law_k"]) (sc := defScope (top 76)) (by decide +kernel)) (fun _ _ _ _ _ => (pg_name (i := 7) sc_lbr2.nd rfl (Or.inl rfl))) (fun _ _ _ _ _ => pts_nil) (fun _ _ _ _ _ => (pe_ifExp (pt_cmpR op_eq (pv 7) (pe_ix ix_tup (pe_ix ix_tup (pv 5) pe_int (fun _ _ => rfl)) pe_int (fun _ _ => rfl)) (nomark _)) (pe_ix ix_tup (pe_ix ix_tup (pv 5) pe_int (fun _ _ => rfl)) pe_int (fun _ _ => rfl)) (pe_ix ix_tup (pe_ix ix_tup (pv 5) pe_int (fun _ _ => rfl)) (pv 7) (fun _ _ => rfl))))))
      (pss_one (ps_set (i := 4) sc_lbr2.nd rfl (Or.inr rfl) (pe_lc (own := [("_law_k", 7)]) (g := gName 7) (tt := tYes) (te := (tCB (fun xs H Q => ∃ i j, xs = [.int i, .int j] ∧ Q (.int (if j > i then j else i)) H) (tCons (tCB rI1 (tCons (tOp (rIxL K) (tVar 4) (tVar 7)) tNil)) (tCons (tCB rI1 (tCons (tOp (rIxL K) (tVar 6) (tVar 7)) tNil)) tNil)))) rfl sc_lbr2.nd (pi_range1 rfl M2.range (pa_cons pe_int pa_nil)) (blkOk_by (own := [("_law_k", 7)]) (N := ["_law_source", "_law_deeds", "_law_found", "_law_turn", "_law_here", "_law_deed", "_law_whole", "_law_k"]) (sc := defScope (top 76)) (by decide +kernel)) (fun _ _ _ _ _ => (pg_name (i := 7) sc_lbr2.nd rfl (Or.inl rfl))) (fun _ _ _ _ _ => pts_nil) (fun _ _ _ _ _ => (pe_callB (call_max2 rfl) (by rfl) M.max (by decide +kernel) (pa_cons (pe_callTy call_int1 (by rfl) M.int (by decide +kernel) (pa_cons (pe_ix ix_list (pv 4) (pv 7) (fun _ _ => rfl)) pa_nil)) (pa_cons (pe_callTy call_int1 (by rfl) M.int (by decide +kernel) (pa_cons (pe_ix ix_list (pv 6) (pv 7) (fun _ _ => rfl)) pa_nil)) pa_nil)))))))))
      (pss_one (ps_expr (pe_bm PySem.F.plainAttrs_list PySem.F.slot_list_append PySem.F.type_list_append mt_append (pv 2) (pa_cons (pe_callTy call_tuple_of (by rfl) T.bi.tuple (by decide +kernel) (pa_cons (pv 4) pa_nil)) pa_nil)))))))
      (pss_one (ps_ret (pv 2))))), ?_⟩
    have lu := dl.dq.len
    have b0 := Bt.refl src
    refine ⟨by show 4 ≤ sizeLine; rw [sizeLine_eq]; decide, fun T0 n0 => ⟨by show 1 ≤ sizeLine; rw [sizeLine_eq]; decide, fun f nf => ?_⟩⟩
    have b1 := b0.new (o := .tup [.int 0, .int 0, .int 0, .int 0]) n0
    have e1 := @upd_same H T0 (.tup [.int 0, .int 0, .int 0, .int 0])
    have nf0 : H f = none := by
      cases e : H f with
      | none => rfl
      | some u =>
        rw [K0.same_upd (o := .tup [.int 0, .int 0, .int 0, .int 0]) n0 _ _ e] at nf
        cases nf
    generalize upd H T0 (.tup [.int 0, .int 0, .int 0, .int 0]) = H1 at b1 e1 nf ⊢
    have b2 := b1.new (o := .lst [.ref T0]) nf
    have e2 := @upd_same H1 f (.lst [.ref T0])
    have nfp := b1.ne nf
    have e12 : upd H1 f (.lst [.ref T0]) T0 = some (.tup (l0.map V.int)) := (upd_ne (ne_of_none e1 nf)).trans e1
    generalize upd H1 f (.lst [.ref T0]) = H2 at b2 e2 e12 ⊢
    refine ⟨3, rfl, by decide, by decide, for_range (n := 3) (fun i σ J => (∃ z3 z4 z5 z6 z7, σ = [some (.ref p), some (.ref l), some (.ref f), z3, z4, z5, z6, z7]) ∧ Bt p H J ∧ ∃ vs bs, J f = some (.lst vs) ∧ BrAt J vs bs ∧ GoodBs ds bs ∧ 0 < bs.length ∧ bs.length ≤ 1 + i)
      ⟨⟨_, _, _, _, _, rfl⟩, b2, [.ref T0], [l0], e2, .cons ⟨T0, rfl, e12⟩ .nil, fun b hb => (by rw [List.mem_singleton.mp hb]; exact ⟨rfl, closed_nil dl.ok⟩), by decide, by decide⟩ ?_ ?_⟩
    · rintro i σ J hi ⟨⟨z3, z4, z5, z6, z7, rfl⟩, b, vs, bs, hf, hvs, good, pos, lim⟩
      refine ⟨by show 4 ≤ sizeLine; rw [sizeLine_eq]; decide, fun q3 n3 => ?_⟩
      have b3 := b.new (o := .lst [.int 0, .int 0, .int 0, .int 0]) n3
      have c3 := (Bt.refl b.src).new (o := .lst [.int 0, .int 0, .int 0, .int 0]) n3
      have e3 := @upd_same J q3 (.lst [.int 0, .int 0, .int 0, .int 0])
      have nq3 := b.ne n3
      have f3 : upd J q3 (.lst [.int 0, .int 0, .int 0, .int 0]) f = some (.lst vs) := (upd_ne (ne_of_none hf n3)).trans hf
      have v3 := hvs.to (tup_bt b.src c3)
      have nqf : q3 ≠ f := Ne.symm (ne_of_none hf n3)
      generalize upd J q3 (.lst [.int 0, .int 0, .int 0, .int 0]) = J3 at b3 e3 f3 v3 c3 ⊢
      refine ⟨_, rfl, _, rfl, p, l, us, rfl, b3.src, b3.same.seq hl, by omega, fun J4 q4 us4 b4 pm4 n4 ne4 h4 => ?_⟩
      have b34 := b3.trans b4
      refine ⟨_, rfl, p, 3, rfl, b34.src, by decide, by decide, fun r J5 r0 r1 b5 => ⟨r, rfl, q4, us4, rfl, SqL.of (b5.at ne4 h4), fun q6 n6 => ⟨q6, rfl, ⟨_, SqL.of upd_same⟩, ?_⟩⟩⟩
      have b35 := b34.trans b5
      have c35 := b4.trans b5
      have b6 := b35.new (o := .lst (cutV us4 none (some r))) n6
      have c6 := (Bt.refl b35.src).new (o := .lst (cutV us4 none (some r))) n6
      have e6 := @upd_same J5 q6 (.lst (cutV us4 none (some r)))
      have nq6 := b35.ne n6
      have sub : ∀ u ∈ cutV us4 none (some r), u ∈ us := fun u hu => pm4.mem_iff.mp (List.mem_of_mem_drop (List.mem_of_mem_take hu))
      have c36 := c35.trans c6
      have f6 := c36.at nfp f3
      have v6 := v3.to (tup_bt b3.src c36)
      have h6 := c36.at nq3 e3
      have n6f : q6 ≠ f := fun z => by
        have := (b4.trans b5).at nfp f3
        rw [← z, n6] at this
        cases this
      have n63 : q6 ≠ q3 := fun z => by
        have := (b4.trans b5).at nq3 e3
        rw [← z, n6] at this
        cases this
      generalize upd J5 q6 (.lst (cutV us4 none (some r))) = J6 at b6 c6 c36 e6 f6 v6 h6 ⊢
      generalize cutV us4 none (some r) = us6 at e6 sub ⊢
      have c06 := Bt.refl b6.src
      refine for_list (K := K) (a := q6) (xs := us6) (fun i σ J' => Same J6 J' ∧ ∃ z3 z5 z6 z7, ∃ h : Addr, ∃ b : List Int, σ = [some (.ref p), some (.ref l), some (.ref f), z3, some (.ref h), z5, z6, z7] ∧ J' h = some (.lst (b.map V.int)) ∧ b.length = 4 ∧ closedD ds b = true)
        ⟨Same.refl _, _, _, _, _, q3, l0, rfl, h6, rfl, closed_nil dl.ok⟩ (fun i σ J _ ⟨s, _⟩ => SqL.of (s _ _ e6)) ?_ ?_
      · rintro m x σ J' hx ⟨s, z3, z5, z6, z7, h, b, rfl, hh, l4, cb⟩
        obtain ⟨ix, hix⟩ := List.getElem?_of_mem (sub x (List.mem_of_getElem? hx))
        have bJ := b6.grow s
        obtain ⟨d, hd, hdm, rd, qd, _⟩ := ((dl.to bJ.same).to (hid_same p J')).get hix
        obtain ⟨⟨da, sa, ka, ub, t, jj, x', r', rfl, g1, g2, g3', _, hk, _⟩, p4, _⟩ := parts_of qd rd
        rw [key_of rd] at hk
        obtain rfl : tmD d = t := (List.cons.inj hk).1
        obtain rfl : (handD d : Int) = jj := (List.cons.inj (List.cons.inj hk).2).1
        have hhd := hand_lt rd
        have c4 := close_len p4
        refine ⟨4, rfl, by decide, by decide, fun D7 n7 => ?_⟩
        refine K0.lc_funR (n := 4) (j := 7) (fun i => V.int ((closeD d).getD i 0)) n7 (by decide) (fun _ => rfl) (fun n H7 Q7 hn s7 q7 => ?_) (fun J7 s7 h7 => ?_)
        · rw [Int.zero_add]
          have gi : (closeD d).getD n 0 = if handD d = n then tmD d else (snD d).getD n 0 := getD_seti (by rw [p4]; exact hn)
          refine ⟨_, rfl, _, rfl, da, _, _, _, rfl, rfl, K0.seqT_same s7 g1, atI_nat (j := 0) rfl, sa, _, _, _, rfl, rfl, K0.seqT_same s7 g2, atI_nat (j := 1) rfl, rfl, _, rfl, ?_⟩
          rw [dec_int]
          by_cases c : n = handD d
          · rw [show ((n : Int) == (handD d : Int)) = true by rw [c]; exact beq_self_eq_true _]
            rw [gi, if_pos c.symm] at q7
            exact iteT ⟨_, rfl, da, _, _, _, rfl, rfl, K0.seqT_same s7 g1, atI_nat (j := 0) rfl, sa, _, _, _, rfl, rfl, K0.seqT_same s7 g2, atI_nat (j := 0) rfl, q7⟩
          · rw [show ((n : Int) == (handD d : Int)) = false from beq_eq_false_iff_ne.mpr (fun z => c (by omega))]
            rw [gi, if_neg (Ne.symm c)] at q7
            exact iteF ⟨_, rfl, da, _, _, _, rfl, rfl, K0.seqT_same s7 g1, atI_nat (j := 1) rfl, _, rfl, ka, _, _, _, rfl, rfl, K0.seqT_same s7 g3', at_int (by omega), q7⟩
        rw [range_ints c4] at h7
        refine ⟨4, rfl, by decide, by decide, fun D8 n8 => ?_⟩
        refine K0.lc_funR (n := 4) (j := 7) (fun i => V.int ((List.zipWith max b (closeD d)).getD i 0)) n8 (by decide) (fun _ => rfl) (fun n H8 Q8 hn s8 q8 => ?_) (fun J8 s8 h8 => ?_)
        · rw [Int.zero_add]
          refine ⟨_, rfl, _, rfl, h, _, _, _, rfl, rfl, SqL.of ((s7.trans s8) _ _ hh), at_int (by omega), .inl ⟨_, rfl, _, rfl, _, rfl, D7, _, _, _, rfl, rfl, SqL.of (s8 _ _ h7), at_int (by omega), .inl ⟨_, rfl, _, _, rfl, ?_⟩⟩⟩
          rw [zip_getD l4 c4 hn] at q8
          rw [show (if (closeD d).getD n 0 > b.getD n 0 then (closeD d).getD n 0 else b.getD n 0) = max (b.getD n 0) ((closeD d).getD n 0) by split <;> omega]
          exact q8
        rw [range_ints (zip_len4 l4 c4)] at h8
        exact ⟨s.trans (s7.trans s8), _, _, _, _, D8, _, rfl, h8, zip_len4 l4 c4, closed_max dl.ok cb (closed_close dl.ok hdm p4) l4 c4⟩
      · rintro σ J' ⟨s, z3, z5, z6, z7, h, b', rfl, hh, l4, cb⟩
        refine ⟨_, rfl, .inl ⟨rfl, vs, SqL.of (s _ _ f6)⟩, _, rfl, h, _, rfl, .inl ⟨SqL.of hh, fun q9 n9 => ?_⟩⟩
        have s9 := K0.same_upd (o := .tup (b'.map V.int)) n9
        have e9 := @upd_same J' q9 (.tup (b'.map V.int))
        have S := s.trans s9
        generalize upd J' q9 (.tup (b'.map V.int)) = J9 at s9 e9 S ⊢
        have f9 := S _ _ f6
        have lv := hvs.len
        refine ⟨f, vs, _, rfl, rfl, f9, by rw [sizeLine_eq]; omega, ⟨_, _, _, _, _, rfl⟩, ((b.trans ((c3.trans c36).grow S))).over nf0 nfp, vs ++ [.ref q9], bs ++ [b'], upd_same, ?_, ?_, ?_, ?_⟩
        · have keep : ∀ a xs, J9 a = some (.tup xs) → upd J9 f (.lst (vs ++ [.ref q9])) a = some (.tup xs) := fun a xs e => by
            rw [upd_ne (fun z => by rw [z, f9] at e; cases e)]
            exact e
          exact K0.paired_append (.cons ⟨q9, rfl, keep _ _ e9⟩ .nil) ((v6.to fun a xs e => S _ _ e).to keep)
        · intro e he
          rcases List.mem_append.mp he with z | z
          · exact good e z
          · rw [List.mem_singleton.mp z]
            exact ⟨l4, cb⟩
        · rw [List.length_append]
          omega
        · rw [List.length_append]
          show bs.length + 1 ≤ _
          omega
    · rintro σ J ⟨⟨z3, z4, z5, z6, z7, rfl⟩, b, vs, bs, hf, hvs, good, pos, lim⟩
      exact ⟨_, rfl, k J f vs bs b nf0 nfp hf (hvs.dqs b.src) good pos (by omega)⟩
end
end K1
set_option maxHeartbeats 8000000
/-! whether a deed can be put in -/
namespace K1
open PySem L2 PySem.Spec PyProof.Rows RZ LamX
/-- which error is not which other one -/
structure Exq (K : PySem.W.Frag) (mg : Str → Option Value) (c : Nat → Addr) : Prop where
  m2 : mg "NotClosed" = some (.ref (c 2))
  m3 : mg "Unseen" = some (.ref (c 3))
  m4 : mg "NoBranch" = some (.ref (c 4))
  m6 : mg "NoStamp" = some (.ref (c 6))
  e22 : PySem.W.exmOne K (.ref (c 2)) (.ref (c 2)) = some true
  e32 : PySem.W.exmOne K (.ref (c 3)) (.ref (c 2)) = some false
  e33 : PySem.W.exmOne K (.ref (c 3)) (.ref (c 3)) = some true
  e44 : PySem.W.exmOne K (.ref (c 4)) (.ref (c 4)) = some true
  e64 : PySem.W.exmOne K (.ref (c 6)) (.ref (c 4)) = some false
  e66 : PySem.W.exmOne K (.ref (c 6)) (.ref (c 6)) = some true
  x4 : XfC K (c 4)
  x6 : XfC K (c 6)
  n4 : PySem.W.findIn K (.ref (c 4)) "told" = some none
  n6 : PySem.W.findIn K (.ref (c 6)) "told" = some none
def spCan (K : PySem.W.Frag) (C : Addr) : Sp := fun vs H Q _ => ∃ p G v e, vs = [.ref p, v] ∧ BookAt K C H p G ∧ DQ K H v e ∧ StT K H v e ∧ deedD e = true ∧ ((G ++ [e]).map keyD).Nodup ∧ G.length < 60 ∧
  ∀ H' es, Same H H' → es.Perm (G ++ [e]) → UpD es → Q (.bl (errC es es l0).isNone) H'
theorem no_with {rA tA sA lA : Addr} : (flds rA tA sA lA).lookup ("with_deeds" : Str) = none := fl_no (by decide +kernel) (by decide +kernel) (by decide +kernel) (by decide +kernel)
section
variable {P : Program} {w : World} {K : PySem.W.Frag} {mg : Str → Option Value} {base : Heap} {C : Addr} {c : Nat → Addr}
theorem sc_can : FnScope ["_law_book", "_law_deed"] ["_law_book", "_law_deed"] (defScope (top 78)) := ⟨rfl, rfl, rfl, by decide +kernel, rfl, by decide +kernel, by decide +kernel⟩
theorem cl_can (T : All K mg) (M2 : Nms2 mg) (W : BkAll K mg C c) (X : Exq K mg c) : Cl P w K mg base 16 "_law_can" ["_law_book", "_law_deed"] (spCan K C) := by
  obtain ⟨g, fd, D⟩ := T.dn 78 _ _ rfl
  obtain ⟨fw, fdw, Fw, bW, mW⟩ := W.wdeeds
  have GW : FnOk P w K mg base (L2.CX P w) 15 fw fdw ["self", "more"] (spWith K C c) := ok_with Fw T M2 W
  refine D.cl (D.fn.ok sc_can (fun vs H Q E h => ?_) (fun cdv A outer s H vs Q E hr h => ?_))
  · obtain ⟨p, G, v, e, rfl, _⟩ := h
    rfl
  · obtain ⟨p, G, v, e, rfl, bk, hd, hs, re, nd, few, k⟩ := h
    refine ⟨_, pss_cons (ps_try_many (Wout := fun _ _ _ _ => False) rfl rfl L2.takes0 (fun Wi pn xe tk _ => pss_one (ps_expr (pe_methS (E := fun σ => WE Wi σ) (pv 0) W.B.cl mW GW hr bW (fun σ => passAt tk σ) (pa_cons (pe_lst (pa_cons (pv 1) pa_nil)) pa_nil))))
      (.cons (c := .ref (c 2)) (ts := fun _ _ _ => tRet (tC (.bl false))) ⟨(by rfl), (by decide), .inl X.m2⟩ (fun _ _ _ _ _ _ _ => pss_one (ps_ret pe_bl)) (.cons (c := .ref (c 3)) (ts := fun _ _ _ => tRet (tC (.bl false))) ⟨(by rfl), (by decide), .inl X.m3⟩ (fun _ _ _ _ _ _ _ => pss_one (ps_ret pe_bl)) .nil))) (pss_one (ps_ret pe_bl)), ?_⟩
    obtain ⟨dx, rA, tA, sA, lA, i0⟩ := bk.ins
    refine ⟨_, rfl, p, dx, _, rfl, i0, no_with, _, rfl, by show 1 ≤ sizeLine; rw [sizeLine_eq]; decide, fun q nq => ?_⟩
    have S1 := K0.same_upd (o := .lst [v]) nq
    have hq := @upd_same H q (.lst [v])
    generalize upd H q (.lst [v]) = H1 at S1 hq ⊢
    have rG : ∀ d ∈ G ++ [e], deedD d = true := fun d h => by
      rcases List.mem_append.mp h with z | z
      · exact bk.right d z
      · rw [List.mem_singleton.mp z]
        exact re
    have lg : (G ++ [e]).length = G.length + 1 := by rw [List.length_append]; rfl
    have bn : badAt (G ++ [e]) = none := bad_ok rG nd fun d hd => List.not_mem_nil
    have dq1 : DQs K H1 [v] [e] := .cons (hd.to S1) .nil
    have st1 : Sts K H1 [v] [e] := fun i u x hu hx => by
      match i with
      | 0 =>
        cases hu
        cases hx
        exact hs.to S1
      | i + 1 => cases hu
    refine ⟨p, G, .ref q, .list [e], rfl, bk.to S1, .lst (SqL.of hq) dq1, fun z => (by cases z), fun _ => ⟨by show (G ++ [e]).length ≤ 62; omega, ⟨q, [v], rfl, .inl (SqL.of hq), dq1, fun _ => st1⟩, fun n hn => ?_, fun _ l60 => ?_, fun es _ _ pe ue => ⟨fun he H' r S _ _ => ?_, fun b x he H' dd v' S hx hdd => ?_⟩⟩⟩
    · have z : badAt (G ++ [e]) = some n := hn
      rw [bn] at z
      cases z
    · have z : 60 < (G ++ [e]).length := l60
      omega
    · have z := k H' es (S1.trans S) pe ue
      rw [he] at z
      exact z
    · have z := k H' es (S1.trans S) pe ue
      rw [he] at z
      cases b with
      | true => exact ⟨true, X.e22, fun _ a na => z, fun no => Bool.noConfusion no⟩
      | false => exact ⟨false, X.e32, fun no => Bool.noConfusion no, fun _ => ⟨true, X.e33, fun _ a na => z, fun no => Bool.noConfusion no⟩⟩
end
end K1
set_option maxHeartbeats 16000000
/-! the news, as the law looks -/
namespace K1
open PySem L2 PySem.Spec PyProof.Rows RZ LamX
theorem dict_sts : ∀ {gs : List PyData}, (∀ d ∈ gs, deedD d = true) → (PyData.list (gs.map stOf)).hasDict = false
  | gs, h => (pure_all (ds := gs.map stOf) fun d hd => by
    obtain ⟨e, he, rfl⟩ := List.mem_map.mp hd
    rw [st_eq (h e he)]
    exact ⟨rfl, rfl⟩).1
theorem shaped_sts {gs : List PyData} (h : ∀ d ∈ gs, deedD d = true) : SeqAt.shaped (.list (gs.map stOf)) = true := by
  refine shaped_of (lay0_all fun d hd => ?_) ?_
  · obtain ⟨e, he, rfl⟩ := List.mem_map.mp hd
    have z := shaped_st (h e he)
    unfold SeqAt.shaped at z
    rw [Bool.and_eq_true] at z
    exact z.1
  · show PyData.depthAll (gs.map stOf) + 1 ≤ 64
    have := depth_all (k := 1) (ds := gs.map stOf) fun d hd => by
      obtain ⟨e, he, rfl⟩ := List.mem_map.mp hd
      rw [st_eq (h e he)]
      simp [PyData.depth, PyData.depthAll]
    omega
/-- a list of stamps, to be compared -/
theorem dp_sts {K : PySem.W.Frag} {H : Hp} {q : Addr} {us : List V} {gs : List PyData} (h : ∀ d ∈ gs, deedD d = true) (hq : H q = some (.lst us)) (hus : DQs K H us (gs.map stOf)) : Dp K H (.ref q) (.list (gs.map stOf)) := DQ.dp _ _ (dict_sts h) (.lst (SqL.of hq) hus)
/-- stamps in order, of the same deeds -/
theorem keysSame {gs fs : List PyData} {ks : List (List Int)} (u : UpD gs) (pm : ks.Perm (fs.map keyD)) (uk : ks.Pairwise lt1000) (h : ∀ x, x ∈ gs ↔ x ∈ fs) : ks.map pairD = gs.map stOf := by
  rw [st_keys]
  congr 1
  refine rising_unique (fun k => TS.code 1000 k) uk (up_keys u) fun k => ?_
  rw [pm.mem_iff, List.mem_map, List.mem_map]
  constructor
  · rintro ⟨d, hd, e⟩
    exact ⟨d, (h d).mpr hd, e⟩
  · rintro ⟨d, hd, e⟩
    exact ⟨d, (h d).mp hd, e⟩
/-- .. of the filtered deeds, over the deeds as the law has them -/
theorem lc_stF {K : PySem.W.Frag} {a : Addr} {xs : List V} {gs : List PyData} {tt : TT} {j : Nat} {σ : L2.St} {H1 : Hp} {D : Addr} {Qd : Hp → Prop} (p : PyData → Bool) (nD : H1 D = none) (ha : SqL K H1 a xs) (dl : Deeds K H1 xs gs) (hz : gs.length ≤ 1000) (hw : ∀ x, wipe ((wipe σ [j]).set j (some x)) [j] = wipe σ [j]) (hs : ∀ x, ((wipe σ [j]).set j (some x))[j]? = some (some x))
    (ht : ∀ d x H' Q, d ∈ gs → Same H1 H' → DQ K H' x d → StT K H' x d → Q (p d) H' → tt ((wipe σ [j]).set j (some x)) H' Q)
    (hd : ∀ H' us, Same H1 H' → H' D = some (.lst us) → DQs K H' us ((gs.filter p).map stOf) → Qd H') :
    ∃ W : Nat → Nat → Hp → Prop, (∃ m, W 0 m (upd H1 D (.lst []))) ∧ ∀ i m H, W i m H →
      ((Itl K a).stop i H ∧ Qd H) ∨ ((Itl K a).go i H ∧ ∃ Nx : Hp → Prop, (∀ H', Nx H' → ∃ m', m' < m ∧ W (i + 1) m' H') ∧ ∀ x H', (Itl K a).yld i H x H' → (gName j) x (wipe σ [j]) H' fun σ2 H2 => wipe σ2 [j] = wipe σ [j] ∧ tt σ2 H2 fun b H3 =>
        if b = true then (tOp (rIxT K) (tVar j) (tC (.int 0))) σ2 H3 fun y H4 => ∃ acc, H4 D = some (.lst acc) ∧ acc.length < sizeLine ∧ Nx (upd H4 D (.lst (acc ++ [y]))) else Nx H3) := by
  have ls := dl.dq.len
  refine lc_list (K := K) (a := a) (xs := xs) (fun i H' => Same H1 H' ∧ ∃ acc, H' D = some (.lst acc) ∧ DQs K H1 acc (((gs.take i).filter p).map stOf)) ⟨K0.same_upd nD, [], upd_same, .nil⟩ (fun i H' _ ⟨s, _⟩ => s.seq ha) ?_ ?_
  · rintro i x H' hi ⟨s, acc, h, hacc⟩
    obtain ⟨d, hdi, hdm, rd, qd, sd⟩ := dl.get hi
    refine ⟨hw x, ht d x H' _ hdm s (qd.to s) (sd.to s) ?_⟩
    have tk : gs.take (i + 1) = gs.take i ++ [d] := by
      rw [List.take_succ, hdi]
      rfl
    have la := hacc.len
    have lf : ((gs.take i).filter p).length ≤ gs.length := Nat.le_trans (List.length_filter_le _ _) (by rw [List.length_take]; omega)
    rw [List.length_map] at la
    rw [tk, List.filter_append]
    cases hp : p d with
    | true =>
      obtain ⟨ua, us1, ux, uy, rfl, hu1, hu2⟩ := stT_stamp sd
      rw [List.filter_cons_of_pos hp, List.map_append]
      exact iteT ⟨_, hs _, ua, _, _, _, rfl, rfl, K0.seqT_same s hu1, atI_nat (j := 0) rfl, acc, h, by rw [sizeLine_eq]; omega, K0.same_over s nD, _, upd_same, hacc.app (.cons hu2 .nil)⟩
    | false =>
      rw [List.filter_cons_of_neg (by rw [hp]; exact Bool.noConfusion), List.filter_nil, List.append_nil]
      exact iteF ⟨s, acc, h, hacc⟩
  · rintro H' ⟨s, acc, h, hacc⟩
    rw [ls, List.take_length] at hacc
    exact hd H' acc s h (hacc.to s)
def spLNR (K : PySem.W.Frag) (C : Addr) : Sp := fun vs H Q _ => ∃ bk l a b us ds es, ∃ x y : List Int, vs = [.ref bk, .ref l, .ref a, .ref b] ∧ BookAt K C H bk es ∧ SqL K H l us ∧ Deeds K H us ds ∧ es.Perm ds ∧ ds.length ≤ 20 ∧ SqT K H a (x.map V.int) ∧ SqT K H b (y.map V.int) ∧ x.length = 4 ∧ y.length = 4 ∧ closedD es x = true ∧ closedD es y = true ∧ ∀ H', Same H H' → Q (.bl true) H'
section
variable {P : Program} {w : World} {K : PySem.W.Frag} {mg : Str → Option Value} {base : Heap} {C : Addr} {c : Nat → Addr}
theorem sc_lnr : FnScope ["_law_book", "_law_deeds", "_law_one_here", "_law_other", "_law_told", "_law_here", "_law_stamp", "_law_deed"] ["_law_book", "_law_deeds", "_law_one_here", "_law_other"] (defScope (top 79)) := ⟨rfl, rfl, rfl, by decide +kernel, rfl, by decide +kernel, by decide +kernel⟩
theorem cl_lnr (T : All K mg) (M : Nms mg) (M2 : Nms2 mg) (W : BkAll K mg C c) (X : Exq K mg c) (hit : mg "iter" = none) : Cl P w K mg base 17 "_law_news_right" ["_law_book", "_law_deeds", "_law_one_here", "_law_other"] (spLNR K C) := by
  obtain ⟨g, fd, D⟩ := T.dn 79 _ _ rfl
  obtain ⟨f7, fd7, F7, bE, sE, iE⟩ := W.eq
  obtain ⟨fw, fdw, Fw, bW, mW⟩ := W.wdeeds
  obtain ⟨fs, Rs⟩ := W.Rs
  obtain ⟨fh, fdh, Fh, bh, sh, ih⟩ := W.has
  obtain ⟨fg, fdg, Fg, bg, sg, ng, ig⟩ := W.get
  have GE : FnOk P w K mg base CX0 1 f7 fd7 ["self", "other"] (spEqB K C) := ok_eqB F7 T W.B W.Y
  have GW : FnOk P w K mg base (L2.CX P w) 15 fw fdw ["self", "more"] (spWith K C c) := ok_with Fw T M2 W
  have GG : FnOk P w K mg base (L2.CX P w) 5 fg fdg ["self", "at"] (spGet K C (c 6)) := ok_get Fg Fh bh sh ih T W.B Rs
  refine D.cl (D.fn.ok sc_lnr (fun vs H Q E h => ?_) (fun cdv A outer s H vs Q E hr h => ?_))
  · obtain ⟨bk, l, a, b, us, ds, es, x, y, rfl, _⟩ := h
    rfl
  · obtain ⟨bk, l, a, b, us, ds, es, x, y, rfl, bb, hl, dl, pm, few, ha, hb, x4, y4, cx, cy, k⟩ := h
    have hr15 : Room 15 _ := hr.mono (by decide)
    have hr1 : Room 1 _ := hr.mono (by decide)
    refine ⟨_, (pss_cons (ps_set (i := 4) sc_lnr.nd rfl (Or.inl rfl) (pe_clN (cl_news T W hit) hr (by decide) (pa_cons (pv 0) (pa_cons (pv 2) (pa_cons (pv 3) pa_nil)))))
      (pss_cons (ps_if (pt_cmpR (op_neD hr.units) (pv 4) (pe_cl (cl_stamps T M M2) hr (by decide) (pa_cons (pe_lc (own := [("_law_deed", 7)]) (g := gName 7) (tt := (tAnd (tB (tCall (spIn K) [] E0 (tCons (tVar 7) (tCons (tVar 2) tNil)))) (tNot (tB (tCall (spIn K) [] E0 (tCons (tVar 7) (tCons (tVar 3) tNil))))))) (te := (tOp (rIxT K) (tVar 7) (tC (.int 0)))) rfl sc_lnr.nd (pi_list (pv 1)) (blkOk_by (own := [("_law_deed", 7)]) (N := ["_law_book", "_law_deeds", "_law_one_here", "_law_other", "_law_told", "_law_here", "_law_stamp", "_law_deed"]) (sc := defScope (top 79)) (by decide +kernel)) (fun _ _ _ _ _ => (pg_name (i := 7) sc_lnr.nd rfl (Or.inl rfl))) (fun _ _ _ _ _ => pts_one (PW.pt (pw_and (pt_val (pe_cl (cl_lin T) hr (by decide) (pa_cons (pv 7) (pa_cons (pv 2) pa_nil)))) (pw_and1 (pt_not (pt_val (pe_cl (cl_lin T) hr (by decide) (pa_cons (pv 7) (pa_cons (pv 3) pa_nil))))))))) (fun _ _ _ _ _ => (pe_ix ix_tup (pv 7) pe_int (fun _ _ => rfl)))) pa_nil)) (nomark _)) (pss_one (ps_ret pe_bl)) pss_nil)
      (pss_cons (ps_set (i := 5) sc_lnr.nd rfl (Or.inl rfl) (pe_cl (cl_part T M2 W hit) hr (by decide) (pa_cons (pv 0) (pa_cons (pv 3) pa_nil))))
      (pss_cons (ps_for PassesOwn.never rfl (pi_list (pv 4)) (pg_name (i := 6) sc_lnr.nd rfl (Or.inl rfl)) (pss_cons (ps_if (pt_not (pt_val (pe_cl (cl_can T M2 W X) hr (by decide) (pa_cons (pv 5) (pa_cons (pe_getO GG (hr.mono (by decide)) bg (fun σ => passN) sg ng ig (pv 0) (pv 6)) pa_nil))))) (pss_one (ps_ret pe_bl)) pss_nil)
      (pss_one (ps_set (i := 5) sc_lnr.nd rfl (Or.inl rfl) (pe_methS (pv 5) W.B.cl mW GW hr15 bW (fun σ => passN) (pa_cons (pe_lst (pa_cons (pe_getO GG (hr.mono (by decide)) bg (fun σ => passN) sg ng ig (pv 0) (pv 6)) pa_nil)) pa_nil))))))
      (pss_one (ps_ret (pe_and (pe_cmpR (op_eqD hr.units) (pe_cl (cl_allOf T M2 W) hr (by decide) (pa_cons (pv 5) pa_nil)) (pe_cl (cl_joinB T M W) hr (by decide) (pa_cons (pv 0) (pa_cons (pv 2) (pa_cons (pv 3) pa_nil)))) (nomark _)) (pe_one (pe_cmpR (op_eqO GE hr1 bE sE iE) (pv 5) (pe_cl (cl_part T M2 W hit) hr (by decide) (pa_cons (pv 0) (pa_cons (pe_cl (cl_allOf T M2 W) hr (by decide) (pa_cons (pv 5) pa_nil)) pa_nil))) (nomark _)))))))))), ?_⟩
    have lu := dl.dq.len
    have oke := dl.ok.perm pm
    have ue := bb.up
    have xB := br_is x4 cx
    have yB := br_is y4 cy
    refine ⟨_, rfl, _, rfl, _, rfl, bk, es, _, brD x, _, brD y, rfl, bb, dq_br ha, dq_br hb, ⟨fun _ => ⟨fun _ H1 q1 us1 S1 n1 h1 hus1 => ?_, fun no => (by rw [yB] at no; cases no)⟩, fun no => (by rw [xB] at no; cases no)⟩⟩
    rw [ints_br, ints_br] at hus1
    have rN : ∀ d ∈ newsD x y es, deedD d = true := fun d hd => bb.right d (news_mem.mp hd).1
    -- as the law looks
    refine ⟨_, rfl, _, rfl, l, rfl, ⟨us, S1.seq hl⟩, fun D2 n2 => ?_⟩
    refine lc_stF (j := 7) (newsP x y) n2 (S1.seq hl) (dl.to S1) (by omega) (fun _ => rfl) (fun _ => rfl) (fun d u H' Q' hd s qd sd q => ?_) (fun H2 us2 S2 h2 hus2 => ?_)
    · have rd := dl.ok.right d hd
      have sa := S1.trans s
      refine ⟨_, rfl, _, rfl, u, d, a, x, rfl, qd, rd, K0.seqT_same sa ha, x4, _, rfl, ?_⟩
      unfold newsP at q
      by_cases c1 : tmD d ≤ x.getD (handD d) 0
      · rw [decide_eq_true c1] at q ⊢
        refine iteT ⟨_, rfl, _, rfl, u, d, b, y, rfl, qd, rd, K0.seqT_same sa hb, y4, _, rfl, ?_⟩
        rw [Bool.true_and, decide_not] at q
        exact q
      · rw [decide_eq_false c1] at q ⊢
        exact iteF q
    have S12 := S1.trans S2
    have rF : ∀ d ∈ ds.filter (newsP x y), deedD d = true := fun d hd => dl.ok.right d (List.mem_filter.mp hd).1
    refine ⟨D2, us2, ds.filter (newsP x y), rfl, SqL.of h2, hus2, rF, (dl.ok.nd.sublist (List.Sublist.map _ List.filter_sublist)), by have := List.length_filter_le (newsP x y) ds; omega, fun p3 us3 ks H3 S3 h3 hus3 pk uk => ?_⟩
    have S13 := S12.trans S3
    have same : ks.map pairD = (newsD x y es).map stOf := keysSame (ue.sublist List.filter_sublist) pk uk fun z => by
      rw [news_mem, List.mem_filter, pm.mem_iff]
      unfold newsP
      rw [Bool.and_eq_true, decide_eq_true_eq, decide_eq_true_eq]
    rw [same] at hus3
    have S23 := S2.trans S3
    refine ⟨_, _, dp_sts rN (S23 _ _ h1) (hus1.to S23), dp_sts rN h3 hus3, shaped_sts rN, shaped_sts rN, _, rfl, ?_⟩
    rw [K0.eqv_shaped (shaped_sts rN)]
    have q13 := S23 _ _ h1
    have u13 := hus1.to S23
    clear hus3 h3 hus2 h2 h1 hus1 S12 n2 n1
    refine iteF ⟨_, rfl, _, rfl, bk, b, es, y, rfl, bb.to S13, oke, K0.seqT_same S13 hb, y4, yB, fun H4 hb4 S4 bk4 => ?_⟩
    have S14 := S13.trans S4
    have q14 := S4 _ _ q13
    have u14 := u13.to S4
    have lN := u14.len
    rw [List.length_map] at lN
    refine ⟨_, rfl, q1, rfl, ⟨us1, SqL.of q14⟩, ?_⟩
    have lT : (takenD y es).length ≤ es.length := List.length_filter_le _ _
    have lW : (newsD x y es).length ≤ es.length := List.length_filter_le _ _
    have le := pm.length_eq
    have dT := Down.taken oke cy
    -- down with the first news
    have dN : ∀ i, i ≤ (newsD x y es).length → Down es (takenD y es ++ (newsD x y es).take i) := fun i => by
      induction i with
      | zero =>
        intro _
        rw [List.take_zero, List.append_nil]
        exact dT
      | succ i ih =>
        intro hi
        have he : (newsD x y es)[i]? = some ((newsD x y es)[i]'(by omega)) := List.getElem?_eq_getElem (by omega)
        obtain ⟨e1, e2, e3⟩ := news_step oke ue cx cy he
        rw [List.take_succ, he, ← List.append_assoc]
        exact (ih (by omega)).more oke e1 e2 e3
    refine for_list (K := K) (a := q1) (xs := us1) (fun i σ J => ∃ z6 z7, ∃ h : Addr, ∃ gs : List PyData, σ = [some (.ref bk), some (.ref l), some (.ref a), some (.ref b), some (.ref q1), some (.ref h), z6, z7] ∧ Same H4 J ∧ BookAt K C J h gs ∧ gs.Perm (takenD y es ++ (newsD x y es).take i))
      ⟨_, _, hb4, takenD y es, rfl, Same.refl _, bk4, by rw [List.take_zero, List.append_nil]⟩ (fun i σ J _ ⟨_, _, _, _, _, s, _⟩ => SqL.of (s _ _ q14)) ?_ ?_
    · rintro i u σ J hu ⟨z6, z7, h, gs, rfl, s, bg, pg⟩
      obtain ⟨e0, he0, qu⟩ := u14.at hu
      rw [List.getElem?_map] at he0
      obtain ⟨e, he, rfl⟩ := Option.map_eq_some_iff.mp he0
      obtain ⟨e1, e2, e3⟩ := news_step oke ue cx cy he
      have re := bb.right e e1
      obtain ⟨i1, i2⟩ := has_st oke.nd re e1
      have hi : i < (newsD x y es).length := (List.getElem?_eq_some_iff.mp he).1
      have dn1 : Down es (takenD y es ++ (newsD x y es).take i ++ [e]) := (dN i (by omega)).more oke e1 e2 e3
      have pg1 : (gs ++ [e]).Perm (takenD y es ++ (newsD x y es).take i ++ [e]) := pg.append_right _
      have lg := pg.length_eq
      rw [List.length_append, List.length_take] at lg
      have ndg : ((gs ++ [e]).map keyD).Nodup := (dn1.perm pg1).nd
      have okg := (dn1.perm pg1).ok oke
      have bJ := bb.to (S14.trans s)
      obtain ⟨dx, rA, tA, sA, lA, iJ⟩ := bJ.ins
      refine ⟨_, rfl, _, rfl, _, rfl, bk, dx, _, rfl, iJ, bk, es, u, stOf e, rfl, bJ, qu.to s, ⟨fun _ e' H5 v he' S5 hv hst => ?_, fun no => (by rw [i1] at no; cases no)⟩⟩
      rw [i2] at he'
      cases he'
      refine ⟨h, gs, v, e, rfl, bg.to S5, hv, hst, re, ndg, by omega, fun H6 es6 S6 p6 u6 => ?_⟩
      rw [(okg.perm p6).good u6]
      have S56 := S5.trans S6
      obtain ⟨dx2, rA2, tA2, sA2, lA2, i2'⟩ := (bg.to S56).ins
      have bJ6 := bJ.to S56
      obtain ⟨dx3, rA3, tA3, sA3, lA3, iJ3⟩ := bJ6.ins
      refine ⟨_, rfl, iteF ⟨_, rfl, h, dx2, _, rfl, i2', no_with, _, rfl, _, rfl, bk, dx3, _, rfl, iJ3, bk, es, u, stOf e, rfl, bJ6, (qu.to s).to S56, ⟨fun _ e' H7 v7 he' S7 hv7 hst7 => ?_, fun no => (by rw [i1] at no; cases no)⟩⟩⟩
      rw [i2] at he'
      cases he'
      refine ⟨by show 1 ≤ sizeLine; rw [sizeLine_eq]; decide, fun q8 n8 => ?_⟩
      have S8 := K0.same_upd (o := .lst [v7]) n8
      have h8 := @upd_same H7 q8 (.lst [v7])
      generalize upd H7 q8 (.lst [v7]) = H8 at S8 h8 ⊢
      have dq1 : DQs K H8 [v7] [e] := .cons (hv7.to S8) .nil
      have st1 : Sts K H8 [v7] [e] := fun i u x hu hx => by
        match i with
        | 0 =>
          cases hu
          cases hx
          exact hst7.to S8
        | i + 1 => cases hu
      refine with_right (d := .list [e]) (bg.to (S56.trans (S7.trans S8))) rfl (.lst (SqL.of h8) dq1) rfl rfl (.inl (SqL.of h8)) dq1 st1 okg (by rw [List.length_append]; show gs.length + 1 ≤ 60; omega) fun H9 q9 gs9 S9 b9 p9 u9 => ?_
      refine ⟨_, _, q9, gs9, rfl, s.trans (S56.trans (S7.trans (S8.trans S9))), b9, ?_⟩
      rw [List.take_succ, he, ← List.append_assoc]
      exact p9.trans pg1
    · rintro σ J ⟨z6, z7, h, gs, rfl, s, bg, pg⟩
      rw [lN, List.take_length] at pg
      have c4 := zip_len4 (f := max) x4 y4
      have cm := closed_max oke cx cy x4 y4
      obtain rfl : gs = takenD (List.zipWith max x y) es := ordered bg.up (up_taken ue) fun z => by
        rw [pg.mem_iff]
        exact news_all x4 y4 bb.right z
      have SJ := S14.trans s
      refine ⟨_, rfl, h, _, rfl, bg, fun H5 q5 S5 hq5 => ⟨_, rfl, _, rfl, _, rfl, bk, a, b, es, x, y, rfl, bb.to (SJ.trans S5), K0.seqT_same (SJ.trans S5) ha, K0.seqT_same (SJ.trans S5) hb, x4, y4, xB, yB, fun H6 q6 S6 hq6 => ?_⟩⟩
      rw [last_taken oke ue c4 cm] at hq5
      refine ⟨brD _, brD _, dp_br c4 (K0.seqT_same S6 hq5), dp_br c4 hq6, shaped_br c4, shaped_br c4, ?_⟩
      rw [K0.eqv_shaped (shaped_br c4)]
      have S56 := S5.trans S6
      refine ⟨_, rfl, iteT ⟨_, rfl, _, rfl, _, rfl, h, _, rfl, bg.to S56, fun H7 q7 S7 hq7 => ?_⟩⟩
      rw [last_taken oke ue c4 cm] at hq7
      have S57 := S56.trans S7
      refine ⟨bk, q7, es, _, rfl, bb.to (SJ.trans S57), oke, hq7, c4, br_is c4 cm, fun H8 q8 S8 b8 => ?_⟩
      have bg8 := bg.to (S57.trans S8)
      obtain ⟨dx1, rA1, tA1, sA1, lA1, i1⟩ := bg8.ins
      obtain ⟨dx2, rA2, tA2, sA2, lA2, i2⟩ := b8.ins
      refine ⟨h, q8, dx1, dx2, _, _, rfl, rfl, i1, i2, h, q8, _, _, rfl, bg8, b8, _, rfl, ?_⟩
      rw [K0.eqv_shaped (shaped_deeds b8.right)]
      exact k H8 (SJ.trans (S57.trans S8))
end
end K1
set_option maxHeartbeats 16000000
/-! what is lacking, as the law looks -/
namespace K1
open PySem L2 PySem.Spec PyProof.Rows RZ LamX
theorem lack_in {es : List PyData} {b : List Int} {e : PyData} (h : OkD es) (c : closedD es b = true) (he : e ∈ es) (le : tmD e ≤ b.getD (handD e) 0) : lackD b e es = [] := List.eq_nil_iff_forall_not_mem.mpr fun x hx => by
  obtain ⟨hm, l1, l2, l3⟩ := lack_mem.mp hx
  have := close_seen h he hm l1 l2
  have := taken_seen h c (taken_mem.mpr ⟨he, le⟩) _ (hand_lt (h.right x hm))
  omega
theorem eqv_st {y x : PyData} (ry : deedD y = true) (rx : deedD x = true) : PyData.eqv (stOf y) (stOf x) = decide (keyD y = keyD x) := by
  rw [st_eq ry, st_eq rx, eqv_pair, key_of ry, key_of rx, decide_eq_decide]
  constructor
  · rintro ⟨h1, h2⟩
    rw [h1, h2]
  · intro h
    exact ⟨(List.cons.inj h).1, (List.cons.inj (List.cons.inj h).2).1⟩
def lackQ (b : List Int) (e : PyData) (x : PyData) : Bool := decide (tmD x ≤ (closeD e).getD (handD x) 0) && (decide (¬ tmD x ≤ b.getD (handD x) 0) && decide (keyD x ≠ keyD e))
theorem emp_len {α β : Type} {l : List α} {m : List β} (h : l.length = m.length) : l.isEmpty = m.isEmpty := by
  cases l <;> cases m <;> simp_all
def spLLR (K : PySem.W.Frag) (C : Addr) : Sp := fun vs H Q _ => ∃ bk l b u us ds es e, ∃ y : List Int, vs = [.ref bk, .ref l, .ref b, u] ∧ BookAt K C H bk es ∧ SqL K H l us ∧ Deeds K H us ds ∧ es.Perm ds ∧ ds.length ≤ 20 ∧ SqT K H b (y.map V.int) ∧ y.length = 4 ∧ closedD es y = true ∧ e ∈ ds ∧ DQ K H u e ∧ StT K H u e ∧ ∀ H', Same H H' → Q (.bl true) H'
section
variable {P : Program} {w : World} {K : PySem.W.Frag} {mg : Str → Option Value} {base : Heap} {C : Addr} {c : Nat → Addr}
theorem sc_llr : FnScope ["_law_book", "_law_deeds", "_law_branch", "_law_deed", "_law_whole", "_law_due", "_law_told", "_law_one_here"] ["_law_book", "_law_deeds", "_law_branch", "_law_deed"] (defScope (top 80)) := ⟨rfl, rfl, rfl, by decide +kernel, rfl, by decide +kernel, by decide +kernel⟩
theorem cl_llr (T : All K mg) (M : Nms mg) (M2 : Nms2 mg) (W : BkAll K mg C c) (X : Exq K mg c) (hit : mg "iter" = none) : Cl P w K mg base 17 "_law_lack_right" ["_law_book", "_law_deeds", "_law_branch", "_law_deed"] (spLLR K C) := by
  obtain ⟨g, fd, D⟩ := T.dn 80 _ _ rfl
  refine D.cl (D.fn.ok sc_llr (fun vs H Q E h => ?_) (fun cdv A outer s H vs Q E hr h => ?_))
  · obtain ⟨bk, l, b, u, us, ds, es, e, y, rfl, _⟩ := h
    rfl
  · obtain ⟨bk, l, b, u, us, ds, es, e, y, rfl, bb, hl, dl, pm, few, hb, y4, cy, hem, hu, hst, k⟩ := h
    refine ⟨_, (pss_cons (ps_set (i := 4) sc_llr.nd rfl (Or.inr rfl) (pe_cl (cl_closB T W) hr (by decide) (pa_cons (pv 0) (pa_cons (pe_ix ix_tup (pv 3) pe_int (fun _ _ => rfl)) pa_nil))))
      (pss_cons (ps_setLc (i := 5) (own := [("_law_one_here", 7)]) (g := gName 7) (tt := (tAnd (tB (tCall (spIn K) [] E0 (tCons (tVar 7) (tCons (tVar 4) tNil)))) (tAnd (tNot (tB (tCall (spIn K) [] E0 (tCons (tVar 7) (tCons (tVar 2) tNil))))) (tTest (tOp (rNeD K) (tOp (rIxT K) (tVar 7) (tC (.int 0))) (tOp (rIxT K) (tVar 3) (tC (.int 0)))))))) (te := (tOp (rIxT K) (tVar 7) (tC (.int 0)))) rfl sc_llr.nd rfl rfl (sw_true rfl rfl rfl (by decide +kernel)) (pi_list (pv 1)) (blkOk_by (own := [("_law_one_here", 7)]) (N := ["_law_book", "_law_deeds", "_law_branch", "_law_deed", "_law_whole", "_law_due", "_law_told", "_law_one_here"]) (sc := defScope (top 80)) (by decide +kernel)) (fun _ _ _ _ _ => (pg_name (i := 7) sc_llr.nd rfl (Or.inl rfl))) (fun _ _ _ _ _ => pts_one (PW.pt (pw_and (pt_val (pe_cl (cl_lin T) hr (by decide) (pa_cons (pv 7) (pa_cons (pv 4) pa_nil)))) (pw_and (pt_not (pt_val (pe_cl (cl_lin T) hr (by decide) (pa_cons (pv 7) (pa_cons (pv 2) pa_nil))))) (pw_and1 (pt_cmpR (op_neD hr.units) (pe_ix ix_tup (pv 7) pe_int (fun _ _ => rfl)) (pe_ix ix_tup (pv 3) pe_int (fun _ _ => rfl)) (nomark _))))))) (fun _ _ _ _ _ => (pe_ix ix_tup (pv 7) pe_int (fun _ _ => rfl))))
      (pss_cons (ps_set (i := 6) sc_llr.nd rfl (Or.inl rfl) (pe_clN (cl_lacks T W hit) hr (by decide) (pa_cons (pv 0) (pa_cons (pv 2) (pa_cons (pe_ix ix_tup (pv 3) pe_int (fun _ _ => rfl)) pa_nil)))))
      (pss_cons (ps_if (pt_val (pe_cl (cl_lin T) hr (by decide) (pa_cons (pv 3) (pa_cons (pv 2) pa_nil)))) (pss_one (ps_ret (pe_cmpR (op_eqE hr.units) (pv 6) (pe_lst pa_nil) (nomark _)))) pss_nil)
      (pss_one (ps_ret (pe_and (pe_cmpR (op_eqD hr.units) (pv 6) (pe_cl (cl_stamps T M M2) hr (by decide) (pa_cons (pv 5) pa_nil)) (nomark _)) (pe_one (pe_cmpR op_eq (pe_cl (cl_can T M2 W X) hr (by decide) (pa_cons (pe_cl (cl_part T M2 W hit) hr (by decide) (pa_cons (pv 0) (pa_cons (pv 2) pa_nil))) (pa_cons (pv 3) pa_nil))) (pe_cmpR (op_eqE hr.units) (pv 6) (pe_lst pa_nil) (nomark _)) (nomark _)))))))))), ?_⟩
    have lu := dl.dq.len
    have oke := dl.ok.perm pm
    have ue := bb.up
    have yB := br_is y4 cy
    have hee := pm.mem_iff.mpr hem
    have re := dl.ok.right e hem
    obtain ⟨i1, i2⟩ := has_st oke.nd re hee
    obtain ⟨ua, us1, ux, uy, rfl, hu1, hu2⟩ := stT_stamp hst
    have c4 := close_len (sn_four re)
    refine ⟨_, rfl, _, rfl, ua, _, _, _, rfl, rfl, hu1, atI_nat (j := 0) rfl, bk, es, _, stOf e, rfl, bb, hu2, i1, fun e' H1 q1 he' S1 hq1 => ?_⟩
    rw [i2] at he'
    cases he'
    -- due
    refine ⟨_, rfl, l, rfl, ⟨us, S1.seq hl⟩, fun D2 n2 => ?_⟩
    refine lc_stF (j := 7) (lackQ y e) n2 (S1.seq hl) (dl.to S1) (by omega) (fun _ => rfl) (fun _ => rfl) (fun d v H' Q' hd s qd sd q => ?_) (fun H2 us2 S2 h2 hus2 => ?_)
    · have rd := dl.ok.right d hd
      have sa := S1.trans s
      refine ⟨_, rfl, _, rfl, v, d, q1, closeD e, rfl, qd, rd, K0.seqT_same s hq1, c4, _, rfl, ?_⟩
      unfold lackQ at q
      by_cases c1 : tmD d ≤ (closeD e).getD (handD d) 0
      · rw [decide_eq_true c1, Bool.true_and] at q
        rw [decide_eq_true c1]
        refine iteT ⟨_, rfl, _, rfl, v, d, b, y, rfl, qd, rd, K0.seqT_same sa hb, y4, _, rfl, ?_⟩
        by_cases c2 : tmD d ≤ y.getD (handD d) 0
        · rw [decide_eq_false (fun no => no c2), Bool.false_and] at q
          rw [decide_eq_true c2]
          exact iteF q
        · rw [decide_eq_true c2, Bool.true_and] at q
          rw [decide_eq_false c2]
          obtain ⟨va, vs1, vx, vy, rfl, hv1, hv2⟩ := stT_stamp sd
          refine iteT ⟨_, rfl, va, _, _, _, rfl, rfl, hv1, atI_nat (j := 0) rfl, _, rfl, ua, _, _, _, rfl, rfl, K0.seqT_same sa hu1, atI_nat (j := 0) rfl, stOf d, stOf e, DQ.dp _ _ (nodict_st rd) hv2, DQ.dp _ _ (nodict_st re) (hu2.to sa), shaped_st rd, shaped_st re, _, rfl, ?_⟩
          rw [eqv_st rd re]
          rw [decide_not] at q
          exact q
      · rw [decide_eq_false c1, Bool.false_and] at q
        rw [decide_eq_false c1]
        exact iteF q
    have S12 := S1.trans S2
    refine ⟨_, rfl, _, rfl, _, rfl, ua, _, _, _, rfl, rfl, K0.seqT_same S12 hu1, atI_nat (j := 0) rfl, bk, es, _, brD y, _, stOf e, rfl, bb.to S12, dq_br (K0.seqT_same S12 hb), hu2.to S12, ⟨fun _ => ⟨fun _ e' H3 q3 us3 he' S3 n3 h3 hus3 => ?_, fun no => (by rw [i1] at no; cases no)⟩, fun no => (by rw [yB] at no; cases no)⟩⟩
    rw [i2] at he'
    cases he'
    rw [ints_br] at hus3
    have S13 := S12.trans S3
    have rL : ∀ d ∈ lackD y e es, deedD d = true := fun d hd => bb.right d (lack_mem.mp hd).1
    have l3 := hus3.len
    rw [List.length_map] at l3
    refine ⟨_, rfl, _, rfl, .ref ua, e, b, y, rfl, hu.to S13, re, K0.seqT_same S13 hb, y4, _, rfl, ?_⟩
    by_cases cb : tmD e ≤ y.getD (handD e) 0
    · rw [decide_eq_true cb]
      refine iteT ⟨_, rfl, Nat.zero_le _, fun q4 n4 => ?_⟩
      have S4 := K0.same_upd (o := .lst []) n4
      refine ⟨q3, q4, us3, rfl, rfl, .inl ⟨SqL.of (S4 _ _ h3), SqL.of upd_same⟩, ?_⟩
      have z := k _ (S13.trans S4)
      rw [lack_in oke cy hee cb] at l3
      rw [List.eq_nil_of_length_eq_zero l3]
      exact z
    · rw [decide_eq_false cb]
      have rF : ∀ d ∈ ds.filter (lackQ y e), deedD d = true := fun d hd => dl.ok.right d (List.mem_filter.mp hd).1
      refine iteF ⟨_, rfl, _, rfl, D2, us2, ds.filter (lackQ y e), rfl, SqL.of (S3 _ _ h2), hus2.to S3, rF, (dl.ok.nd.sublist (List.Sublist.map _ List.filter_sublist)), by have := List.length_filter_le (lackQ y e) ds; omega, fun p4 us4 ks H4 S4 h4 hus4 pk uk => ?_⟩
      have S14 := S13.trans S4
      have same : ks.map pairD = (lackD y e es).map stOf := keysSame (ue.sublist List.filter_sublist) pk uk fun z => by
        rw [lack_mem, List.mem_filter, pm.mem_iff]
        unfold lackQ
        rw [Bool.and_eq_true, Bool.and_eq_true, decide_eq_true_eq, decide_eq_true_eq, decide_eq_true_eq]
        constructor
        · rintro ⟨a1, a2, a3, a4⟩
          exact ⟨a1, a2, a4, a3⟩
        · rintro ⟨a1, a2, a3, a4⟩
          exact ⟨a1, a2, a4, a3⟩
      rw [same] at hus4
      refine ⟨_, _, dp_sts rL (S4 _ _ h3) (hus3.to S4), dp_sts rL h4 hus4, shaped_sts rL, shaped_sts rL, ?_⟩
      rw [K0.eqv_shaped (shaped_sts rL)]
      refine ⟨_, rfl, iteT ⟨_, rfl, _, rfl, bk, b, es, y, rfl, bb.to S14, oke, K0.seqT_same S14 hb, y4, yB, fun H5 hb5 S5 bk5 => ?_⟩⟩
      have S15 := S14.trans S5
      have nin : e ∉ takenD y es := fun z => cb (taken_mem.mp z).2
      have ndt : ((takenD y es ++ [e]).map keyD).Nodup := by
        rw [List.map_append, List.nodup_append]
        refine ⟨(Down.taken oke cy).nd, by simp, fun k hk k' hk' => ?_⟩
        rw [List.map_cons, List.map_nil, List.mem_singleton] at hk'
        obtain ⟨d, hd, rfl⟩ := List.mem_map.mp hk
        intro q
        have : d = e := key_one oke.nd (taken_mem.mp hd).1 hee (by rw [q, hk'])
        rw [this] at hd
        exact nin hd
      have lT : (takenD y es).length ≤ es.length := List.length_filter_le _ _
      have le := pm.length_eq
      refine ⟨_, rfl, hb5, takenD y es, .ref ua, e, rfl, bk5, hu.to S15, hst.to S15, re, ndt, by omega, fun H6 fs S6 pf uf => ?_⟩
      refine ⟨_, rfl, Nat.zero_le _, fun q7 n7 => ?_⟩
      have S7 := K0.same_upd (o := .lst []) n7
      have S47 := (S4.trans S5).trans (S6.trans S7)
      refine ⟨q3, q7, us3, rfl, rfl, .inl ⟨SqL.of (S47 _ _ h3), SqL.of upd_same⟩, rfl, ?_⟩
      have z := k _ (S13.trans S47)
      have ee : (errC fs fs l0).isNone = us3.isEmpty := by
        rw [emp_len l3]
        cases er : errC fs fs l0 with
        | none =>
          rw [(lack_err oke cy hee cb pf uf).mp er]
          rfl
        | some r =>
          cases el : lackD y e es with
          | nil =>
            rw [(lack_err oke cy hee cb pf uf).mpr el] at er
            cases er
          | cons _ _ => rfl
      rw [ee, decide_eq_true rfl]
      exact z
end
end K1
set_option maxHeartbeats 8000000
/-! _law_refused, and what it is handed -/
namespace K1
open PySem L2 LamX
/-- the suite of a clause: return [word, repr(e.told)] -/
def tsRepr (K : PySem.W.Frag) (C : Addr) (word fld : Str) : SuiteT := fun a cls d => lenT 2 (tRet (tLst (tCons (tC (.str word)) (tCons (tCB (rReprQ K) (tCons (tXf a cls d C fld (tVar 1)) tNil)) tNil))))
/-- what is wished of an error that comes to the clauses -/
def EcR (K : PySem.W.Frag) (c : Nat → Addr) (Q : VK) : XK := fun cls d H => ∃ (i : Nat) (word : Str) (dd : Addr) (v : V) (e : PyData), ((i = 4 ∧ word = "branch") ∨ (i = 6 ∧ word = "stamp")) ∧ cls = .ref (c i) ∧ d = some dd ∧ H dd = some (.xd [("told", v)]) ∧ Shows K H v e ∧
  ∀ p, H p = none → Q (.ref p) (upd H p (.lst [.str word, .str e.shown]))
def TTr (K : PySem.W.Frag) (c : Nat → Addr) : (XK → Hp → VK → Prop) → Hp → VK → Prop := fun tl H Q => tl (EcR K c Q) H fun _ H' => 2 ≤ sizeLine ∧ ∀ p, H' p = none → Q (.ref p) (upd H' p (.lst [.str "told", .non]))
abbrev NC : List Str := ["_law_call", "e"]
theorem sc_refused : FnScope NC ["_law_call"] (defScope (top 81)) := ⟨rfl, rfl, rfl, by decide +kernel, rfl, by decide +kernel, by decide +kernel⟩
theorem refused_gives {X : Cx} {c : Nat → Addr} {g : Addr} {cdg : Value} {q : Str} (T : Exq X.K X.mg c) (hgd : X.A.guards = some []) (hu : X.A.units + 80 < cLine) (rep : X.mg "repr" = none) :
    LamX.GivesTo X NC "_law_refused" (defScope (top 81)) g cdg (defBody (top 81)) "_law_call" q (TTr X.K c) := by
  intro f c' s H Q tl act hc h
  have suite : ∀ (i : Nat) (word fld : Str), XfC X.K (c i) → PySem.W.findIn X.K (.ref (c i)) fld = some none → ∀ (a : Addr) (oe : Obj) (cls : Value) (d : Option Addr) (pn : List (Addr × Obj)), Zc cls d oe → (∃ vs, oe.data = .fields vs) → ∀ (j : Nat) (p1 p2 p3 p4 p5 p6 p7 : Pos),
      PSs ((cxOf C8.CX0 X.prog X.w X.K X.mg X.base NC "_law_refused" (defScope (top 81)) g cdg X.A X.stack s H C8.E0).nox.suite a ((a, oe) :: pn)) [.Return (some (.List [.Constant (.str word) j p1, .Call (.Name "repr" p2) [.Attribute (.Name "e" p3) fld p4] [] p5] p6)) p7] (tsRepr X.K (c i) word fld a cls d) := by
    intro i word fld hx hn a oe cls d pn hz hf j p1 p2 p3 p4 p5 p6 p7
    refine pss_len (pss_one (ps_ret (pe_lst (pa_cons pe_str (pa_cons (pe_callB (call_reprQ hgd ?_) (by rfl) rep (by decide +kernel) (pa_cons (pe_xf hx hn hz hf (pv 1)) pa_nil)) pa_nil))))) rfl
    show X.A.units + 3 + 64 < cLine
    omega
  have take : ∀ (i : Nat) (word fld : Str) (a : Addr) (cls : Value) (d : Option Addr) (dd : Addr) (v : V) (e : PyData) (σ' : St) (H' : Hp) (D : Ends), D.rt = Q → cls = .ref (c i) → d = some dd → H' dd = some (.xd [(fld, v)]) → Shows X.K H' v e →
      (∀ p, H' p = none → Q (.ref p) (upd H' p (.lst [.str word, .str e.shown]))) → tsRepr X.K (c i) word fld a cls d (gone 1 D) (σ'.set 1 (some (.ref a))) H' := by
    intro i word fld a cls d dd v e σ' H' D hD h1 h2 h3 h4 h5 hlen
    rw [List.length_set] at hlen
    have get : (σ'.set 1 (some (V.ref a)))[1]? = some (some (V.ref a)) := by
      rw [List.getElem?_set_self (by omega)]
    refine ⟨_, get, rfl, h1, dd, _, v, h2, h3, by simp [List.lookup], v, e, rfl, h4.dq, h4.nl, h4.sh, h4.dp, h4.sz, (by show 2 ≤ sizeLine; rw [sizeLine_eq]; decide), fun p new => ?_⟩
    show D.rt _ _
    rw [hD]
    exact h5 p new
  refine ⟨_, pss_cons (ps_try_each (X := (cxOf C8.CX0 X.prog X.w X.K X.mg X.base NC "_law_refused" (defScope (top 81)) g cdg X.A X.stack s H C8.E0).nox) (n := "e") (i := 1)
      (tb := fun W D σ H => ∃ Ech : XK, (∀ cls d σ' H', Ech cls d H' → W cls d σ' H') ∧ σ[0]? = some (some (.ref f)) ∧ H c' = some (LamX.CodeO c' q) ∧ tl Ech H fun _ H' => D.nx σ H')
      rfl rfl sc_refused.nd rfl rfl takes_none5 (fun W pn xe tk _ => ?_)
      (.cons (c := .ref (c 4)) (ts := tsRepr X.K (c 4) "branch" "told") ⟨(by rfl), (by decide), .inl T.m4⟩ (fun a oe cls d pn hz hf => suite 4 "branch" "told" T.x4 T.n4 a oe cls d pn hz hf _ _ _ _ _ _ _ _)
      (.cons (c := .ref (c 6)) (ts := tsRepr X.K (c 6) "stamp" "told") ⟨(by rfl), (by decide), .inl T.m6⟩ (fun a oe cls d pn hz hf => suite 6 "stamp" "told" T.x6 T.n6 a oe cls d pn hz hf _ _ _ _ _ _ _ _)
      .nil))) (pss_one (ps_ret (pe_lst (pa_cons pe_str (pa_cons pe_non pa_nil))))), ?_⟩
  · refine ⟨fun pins s' σ H' D I h' => ?_⟩
    obtain ⟨Ech, hW, h1, h2, h3⟩ := h'
    exact (pss_one (ps_expr (act W pn xe Ech _ _ tk hW))).run pins s' σ H' D I ⟨h1, h2, h3⟩
  · refine ⟨EcR X.K c Q, fun cls d σ' H' w => ?_, rfl, hc, h⟩
    obtain ⟨i, word, dd, v, e, hi, h1, h2, h3, h4, h5⟩ := w
    rcases hi with ⟨rfl, rfl⟩ | ⟨rfl, rfl⟩
    · subst h1
      exact ⟨true, T.e44, fun _ a na => take 4 "branch" "told" a _ _ dd v e σ' H' _ rfl rfl h2 h3 h4 h5, fun z => Bool.noConfusion z⟩
    · subst h1
      exact ⟨false, T.e64, fun z => Bool.noConfusion z, fun _ => ⟨true, T.e66, fun _ a na => take 6 "stamp" "told" a _ _ dd v e σ' H' _ rfl rfl h2 h3 h4 h5, fun z => Bool.noConfusion z⟩⟩
abbrev qR : Str := "_law_refuses.<locals>.<lambda>"
abbrev NR : List Str := ["_law_source", "_law_book", "_law_branch", "_law_odd", "_law_stamp"]
theorem sc_refuses : FnScope NR ["_law_source", "_law_book", "_law_branch"] (defScope (top 82)) := ⟨rfl, rfl, rfl, by decide +kernel, rfl, by decide +kernel, by decide +kernel⟩
def noE : Expr := .Constant .none 0 ⟨0, 0, 0, 0⟩
def eLR (i : Nat) : Expr := match (defBody (top 82)).getD i noS with
  | .If (.Compare e ..) .. => e
  | .Return (some (.Compare e ..)) _ => e
  | _ => noE
section
variable {P : Program} {w : World} {K : PySem.W.Frag} {mg : Str → Option Value} {base : Heap} {C : Addr} {c : Nat → Addr}
theorem pe_lamLR1 {f g cf tb : Addr} {fdg : FuncData} {Ts : List (Addr × Str)} {A : Around} {outer : List Env} {s : Shared} {H : Hp} {E : XK} (T : All K mg) (M : Nms mg) (M2 : Nms2 mg) (W : BkAll K mg C c) (X : Exq K mg c) (hit : mg "iter" = none)
    (Dg : Dn K mg "_law_refused" ["_law_call"] (top 81) g fdg) (hgd : A.guards = some []) (hr : Room 17 (A.deeper (PyProof.Rows.envOfC "_law_refuses" (defScope (top 82)) s.heap.objs.size f (.ref cf)))) (TB : TabB base mg cf tb) (hmT : (tb, qR) ∈ Ts) (hu : ∀ p ∈ Ts, p.1 = tb → p.2 = qR) :
    PE (cxOf CX0 P w K mg base NR "_law_refuses" (defScope (top 82)) f (.ref cf) A outer s H E).nox (eLR 1) (tLam Ts (TTr K c) fun E' => (tCallS (spNews K C (c 4)) (fun _ => E') (tCons (tVar 1) (tCons (tVar 3) (tCons (tC .non) tNil))))) := by
  obtain ⟨oc, od, kV, doc, pm, an, cdv, ct, osl, rfl, lk, hcd⟩ := Dg.fn.ex
  refine pe_lamcall (X := (cxOf CX0 P w K mg base NR "_law_refuses" (defScope (top 82)) f (.ref cf) A outer s H E).nox) (k := 15) (T := Ts) (by rfl) Dg.mg Dg.fn.kp lk hcd Dg.bn sc_refused rfl (.inl rfl) ?_ TB rfl hmT hu hr (lamS_by (sc := defScope (top 82)) (by decide +kernel)) rfl (fun _ _ _ _ _ => by rfl) (fun A' outer' s' H' E' f' c' hr' => ?_)
  · exact refused_gives X hgd (by have := hr.un; show A.units + 3 + 80 < cLine; have h2 : (A.deeper (PyProof.Rows.envOfC "_law_refuses" (defScope (top 82)) s.heap.objs.size f (.ref cf))).units = A.units + 3 := rfl; omega) M2.repr
  · exact (pe_clX (cl_news T W hit) hr' (takes_of rfl rfl rfl rfl) (by decide) (pa_cons (pv 1) (pa_cons (pv 3) (pa_cons pe_non pa_nil))))
theorem pe_lamLR2 {f g cf tb : Addr} {fdg : FuncData} {Ts : List (Addr × Str)} {A : Around} {outer : List Env} {s : Shared} {H : Hp} {E : XK} (T : All K mg) (M : Nms mg) (M2 : Nms2 mg) (W : BkAll K mg C c) (X : Exq K mg c) (hit : mg "iter" = none)
    (Dg : Dn K mg "_law_refused" ["_law_call"] (top 81) g fdg) (hgd : A.guards = some []) (hr : Room 17 (A.deeper (PyProof.Rows.envOfC "_law_refuses" (defScope (top 82)) s.heap.objs.size f (.ref cf)))) (TB : TabB base mg cf tb) (hmT : (tb, qR) ∈ Ts) (hu : ∀ p ∈ Ts, p.1 = tb → p.2 = qR) :
    PE (cxOf CX0 P w K mg base NR "_law_refuses" (defScope (top 82)) f (.ref cf) A outer s H E).nox (eLR 2) (tLam Ts (TTr K c) fun E' => (tCallS (spNews K C (c 4)) (fun _ => E') (tCons (tVar 1) (tCons (tVar 2) (tCons (tVar 3) tNil))))) := by
  obtain ⟨oc, od, kV, doc, pm, an, cdv, ct, osl, rfl, lk, hcd⟩ := Dg.fn.ex
  refine pe_lamcall (X := (cxOf CX0 P w K mg base NR "_law_refuses" (defScope (top 82)) f (.ref cf) A outer s H E).nox) (k := 15) (T := Ts) (by rfl) Dg.mg Dg.fn.kp lk hcd Dg.bn sc_refused rfl (.inl rfl) ?_ TB rfl hmT hu hr (lamS_by (sc := defScope (top 82)) (by decide +kernel)) rfl (fun _ _ _ _ _ => by rfl) (fun A' outer' s' H' E' f' c' hr' => ?_)
  · exact refused_gives X hgd (by have := hr.un; show A.units + 3 + 80 < cLine; have h2 : (A.deeper (PyProof.Rows.envOfC "_law_refuses" (defScope (top 82)) s.heap.objs.size f (.ref cf))).units = A.units + 3 := rfl; omega) M2.repr
  · exact (pe_clX (cl_news T W hit) hr' (takes_of rfl rfl rfl rfl) (by decide) (pa_cons (pv 1) (pa_cons (pv 2) (pa_cons (pv 3) pa_nil))))
theorem pe_lamLR3 {f g cf tb : Addr} {fdg : FuncData} {Ts : List (Addr × Str)} {A : Around} {outer : List Env} {s : Shared} {H : Hp} {E : XK} (T : All K mg) (M : Nms mg) (M2 : Nms2 mg) (W : BkAll K mg C c) (X : Exq K mg c) (hit : mg "iter" = none)
    (Dg : Dn K mg "_law_refused" ["_law_call"] (top 81) g fdg) (hgd : A.guards = some []) (hr : Room 17 (A.deeper (PyProof.Rows.envOfC "_law_refuses" (defScope (top 82)) s.heap.objs.size f (.ref cf)))) (TB : TabB base mg cf tb) (hmT : (tb, qR) ∈ Ts) (hu : ∀ p ∈ Ts, p.1 = tb → p.2 = qR) :
    PE (cxOf CX0 P w K mg base NR "_law_refuses" (defScope (top 82)) f (.ref cf) A outer s H E).nox (eLR 3) (tLam Ts (TTr K c) fun E' => (tCallS (spJoinX K C (c 4)) (fun _ => E') (tCons (tVar 1) (tCons (tVar 2) (tCons (tVar 3) tNil))))) := by
  obtain ⟨oc, od, kV, doc, pm, an, cdv, ct, osl, rfl, lk, hcd⟩ := Dg.fn.ex
  refine pe_lamcall (X := (cxOf CX0 P w K mg base NR "_law_refuses" (defScope (top 82)) f (.ref cf) A outer s H E).nox) (k := 15) (T := Ts) (by rfl) Dg.mg Dg.fn.kp lk hcd Dg.bn sc_refused rfl (.inl rfl) ?_ TB rfl hmT hu hr (lamS_by (sc := defScope (top 82)) (by decide +kernel)) rfl (fun _ _ _ _ _ => by rfl) (fun A' outer' s' H' E' f' c' hr' => ?_)
  · exact refused_gives X hgd (by have := hr.un; show A.units + 3 + 80 < cLine; have h2 : (A.deeper (PyProof.Rows.envOfC "_law_refuses" (defScope (top 82)) s.heap.objs.size f (.ref cf))).units = A.units + 3 := rfl; omega) M2.repr
  · exact (pe_clX (cl_joinX T M W) hr' (takes_of rfl rfl rfl rfl) (by decide) (pa_cons (pv 1) (pa_cons (pv 2) (pa_cons (pv 3) pa_nil))))
theorem pe_lamLR4 {f g cf tb : Addr} {fdg : FuncData} {Ts : List (Addr × Str)} {A : Around} {outer : List Env} {s : Shared} {H : Hp} {E : XK} (T : All K mg) (M : Nms mg) (M2 : Nms2 mg) (W : BkAll K mg C c) (X : Exq K mg c) (hit : mg "iter" = none)
    (Dg : Dn K mg "_law_refused" ["_law_call"] (top 81) g fdg) (hgd : A.guards = some []) (hr : Room 17 (A.deeper (PyProof.Rows.envOfC "_law_refuses" (defScope (top 82)) s.heap.objs.size f (.ref cf)))) (TB : TabB base mg cf tb) (hmT : (tb, qR) ∈ Ts) (hu : ∀ p ∈ Ts, p.1 = tb → p.2 = qR) :
    PE (cxOf CX0 P w K mg base NR "_law_refuses" (defScope (top 82)) f (.ref cf) A outer s H E).nox (eLR 4) (tLam Ts (TTr K c) fun E' => (tCallS (spLacks K C (c 4) (c 6)) (fun _ => E') (tCons (tVar 1) (tCons (tVar 3) (tCons (tC .non) tNil))))) := by
  obtain ⟨oc, od, kV, doc, pm, an, cdv, ct, osl, rfl, lk, hcd⟩ := Dg.fn.ex
  refine pe_lamcall (X := (cxOf CX0 P w K mg base NR "_law_refuses" (defScope (top 82)) f (.ref cf) A outer s H E).nox) (k := 15) (T := Ts) (by rfl) Dg.mg Dg.fn.kp lk hcd Dg.bn sc_refused rfl (.inl rfl) ?_ TB rfl hmT hu hr (lamS_by (sc := defScope (top 82)) (by decide +kernel)) rfl (fun _ _ _ _ _ => by rfl) (fun A' outer' s' H' E' f' c' hr' => ?_)
  · exact refused_gives X hgd (by have := hr.un; show A.units + 3 + 80 < cLine; have h2 : (A.deeper (PyProof.Rows.envOfC "_law_refuses" (defScope (top 82)) s.heap.objs.size f (.ref cf))).units = A.units + 3 := rfl; omega) M2.repr
  · exact (pe_clX (cl_lacks T W hit) hr' (takes_of rfl rfl rfl rfl) (by decide) (pa_cons (pv 1) (pa_cons (pv 3) (pa_cons pe_non pa_nil))))
theorem pe_lamLR6 {f g cf tb : Addr} {fdg : FuncData} {Ts : List (Addr × Str)} {A : Around} {outer : List Env} {s : Shared} {H : Hp} {E : XK} (T : All K mg) (M : Nms mg) (M2 : Nms2 mg) (W : BkAll K mg C c) (X : Exq K mg c) (hit : mg "iter" = none)
    (Dg : Dn K mg "_law_refused" ["_law_call"] (top 81) g fdg) (hgd : A.guards = some []) (hr : Room 17 (A.deeper (PyProof.Rows.envOfC "_law_refuses" (defScope (top 82)) s.heap.objs.size f (.ref cf)))) (TB : TabB base mg cf tb) (hmT : (tb, qR) ∈ Ts) (hu : ∀ p ∈ Ts, p.1 = tb → p.2 = qR) :
    PE (cxOf CX0 P w K mg base NR "_law_refuses" (defScope (top 82)) f (.ref cf) A outer s H E).nox (eLR 6) (tLam Ts (TTr K c) fun E' => (tCallS (spLacks K C (c 4) (c 6)) (fun _ => E') (tCons (tVar 1) (tCons (tVar 2) (tCons (tVar 4) tNil))))) := by
  obtain ⟨oc, od, kV, doc, pm, an, cdv, ct, osl, rfl, lk, hcd⟩ := Dg.fn.ex
  refine pe_lamcall (X := (cxOf CX0 P w K mg base NR "_law_refuses" (defScope (top 82)) f (.ref cf) A outer s H E).nox) (k := 15) (T := Ts) (by rfl) Dg.mg Dg.fn.kp lk hcd Dg.bn sc_refused rfl (.inl rfl) ?_ TB rfl hmT hu hr (lamS_by (sc := defScope (top 82)) (by decide +kernel)) rfl (fun _ _ _ _ _ => by rfl) (fun A' outer' s' H' E' f' c' hr' => ?_)
  · exact refused_gives X hgd (by have := hr.un; show A.units + 3 + 80 < cLine; have h2 : (A.deeper (PyProof.Rows.envOfC "_law_refuses" (defScope (top 82)) s.heap.objs.size f (.ref cf))).units = A.units + 3 := rfl; omega) M2.repr
  · exact (pe_clX (cl_lacks T W hit) hr' (takes_of rfl rfl rfl rfl) (by decide) (pa_cons (pv 1) (pa_cons (pv 2) (pa_cons (pv 4) pa_nil))))
end
end K1
set_option maxHeartbeats 16000000
/-! what is refused -/
namespace K1
open PySem L2 PySem.Spec PyProof.Rows RZ LamX
def oddR : List PyData := [.none, .tuple [.int 0, .int 0, .int 0], .list [.int 0, .int 0, .int 0, .int 0], .tuple [.int 998, .int 0, .int 0, .int 0], .tuple [.int 0, .int 0, .int 0, .bool true], .tuple [.int 0, .int 0, .int 0, .int (-1)]]
def stR : List PyData := [.none, .tuple [.int 0, .int 0], .tuple [.int 998, .int 1], .tuple [.int 1], .str "1.0"]
theorem at_no {es : List PyData} {t h : Int} (right : ∀ e ∈ es, deedD e = true) (no : ∀ e ∈ es, tmD e ≠ t) : atD es [t, h] = none := by
  cases e : atD es [t, h] with
  | none => rfl
  | some d =>
    obtain ⟨h1, h2⟩ := atD_mem e
    rw [key_of (right d h1)] at h2
    exact absurd (List.cons.inj h2).1 (no d h1)
theorem isB_br {es : List PyData} {b : List Int} (h : b.length = 4) : isB es (brD b) = closedD es b := by
  show (decide ((b.map PyData.int).length = 4) && ((b.map PyData.int).all numD && closedD es ((b.map PyData.int).map intD))) = _
  rw [List.map_map, show (intD ∘ PyData.int) = id from rfl, List.map_id, List.length_map, decide_eq_true h, Bool.true_and, show (b.map PyData.int).all numD = true from List.all_eq_true.mpr fun x hx => by
    obtain ⟨i, _, rfl⟩ := List.mem_map.mp hx
    rfl, Bool.true_and]
theorem oddR_no {es : List PyData} (right : ∀ e ∈ es, deedD e = true) (old : ∀ e ∈ es, tmD e ≤ 900) {d : PyData} (h : d ∈ oddR) : isB es d = false := by
  have bad : ∀ (l : List Int) (i : Nat), i < 4 → l.getD i 0 ≠ 0 → (∀ e ∈ es, tmD e ≠ l.getD i 0) → closedD es l = false := fun l i hi h0 no => by
    rw [Bool.eq_false_iff]
    intro z
    unfold closedD at z
    have o := List.all_eq_true.mp z i (List.mem_range.mpr hi)
    unfold okAt at o
    rw [decide_eq_false h0, at_no right no] at o
    cases o
  unfold oddR at h
  simp only [List.mem_cons, List.not_mem_nil, or_false] at h
  rcases h with rfl | rfl | rfl | rfl | rfl | rfl
  · rfl
  · rfl
  · rfl
  · exact (isB_br (b := [998, 0, 0, 0]) rfl).trans (bad [998, 0, 0, 0] 0 (by decide) (by decide) fun e he z => by have := old e he; have z' : tmD e = 998 := z; omega)
  · rfl
  · exact (isB_br (b := [0, 0, 0, -1]) rfl).trans (bad [0, 0, 0, -1] 3 (by decide) (by decide) fun e he z => by have := tm_pos (right e he); have z' : tmD e = -1 := z; omega)
theorem stR_no {es : List PyData} (right : ∀ e ∈ es, deedD e = true) (old : ∀ e ∈ es, tmD e ≤ 900) {d : PyData} (h : d ∈ stR) : hasD es d = false := by
  unfold stR at h
  simp only [List.mem_cons, List.not_mem_nil, or_false] at h
  rcases h with rfl | rfl | rfl | rfl | rfl
  · rfl
  · rfl
  · show (_ && (atD es [998, 1]).isSome) = false
    rw [at_no right (fun e he z => by have := old e he; omega)]
    rfl
  · rfl
  · rfl
theorem nice_of {d : PyData} (h : d ∈ oddR ++ stR) : Nice 1 100 d ∧ d.hasDict = false := by
  unfold oddR stR at h
  simp only [List.cons_append, List.nil_append, List.mem_cons, List.not_mem_nil, or_false] at h
  rcases h with rfl | rfl | rfl | rfl | rfl | rfl | rfl | rfl | rfl | rfl | rfl <;> exact ⟨⟨by decide, by decide, by decide, by decide +kernel⟩, rfl⟩
theorem oddR_shows {K : PySem.W.Frag} {H : Hp} {v : V} {d : PyData} (h : d ∈ oddR ++ stR) (hq : DQ K H v d) : Shows K H v d := by
  obtain ⟨n, z⟩ := nice_of h
  exact shows_of hq n (by decide) (by decide) fun y => (by rw [z] at y; cases y)
def spRefs (K : PySem.W.Frag) (C : Addr) (Ts : List (Addr × Str)) : Sp := fun vs H Q _ => ∃ p bk b es, ∃ y : List Int, vs = [.ref p, .ref bk, .ref b] ∧ Src H p ∧ Tabs Ts H ∧ BookAt K C (grd p H) bk es ∧ SqT K (grd p H) b (y.map V.int) ∧ y.length = 4 ∧ closedD es y = true ∧ (∀ e ∈ es, tmD e ≤ 900) ∧ ∀ H', Kp Ts p H H' → Q (.bl true) H'
section
variable {P : Program} {w : World} {K : PySem.W.Frag} {mg : Str → Option Value} {base : Heap} {C : Addr} {c : Nat → Addr}
theorem ok_refuses {f g cf tb : Addr} {fd fdg : FuncData} {Ts : List (Addr × Str)} (T : All K mg) (M : Nms mg) (M2 : Nms2 mg) (W : BkAll K mg C c) (X : Exq K mg c) (hit : mg "iter" = none)
    (Dg : Dn K mg "_law_refused" ["_law_call"] (top 81) g fdg) (F : FunC K "_law_refuses" "_law_refuses" (top 82) f fd cf) (TB : TabB base mg cf tb) (hmT : (tb, qR) ∈ Ts) (hu : ∀ p ∈ Ts, p.1 = tb → p.2 = qR) : FnG P w K mg base 18 f fd ["_law_source", "_law_book", "_law_branch"] (spRefs K C Ts) := by
  refine okGC F sc_refuses (fun vs H Q E h => ?_) (fun A outer s H vs Q E hgd hr h => ?_)
  · obtain ⟨p, bk, b, es, y, rfl, _⟩ := h
    rfl
  · obtain ⟨p, bk, b, es, y, rfl, src, tabs, bb, hb, y4, cy, old, k⟩ := h
    refine ⟨_, (pss_cons (ps_set (i := 3) sc_refuses.nd rfl (Or.inr rfl) (pe_cl (cl_one T M) hr (by decide) (pa_cons (pv 0) (pa_cons (li_list (ds := oddR) (las_cons li_non (las_cons (li_tup (las_cons li_int (las_cons li_int (las_cons li_int las_nil))) (by decide)) (las_cons (li_lst (las_cons li_int (las_cons li_int (las_cons li_int (las_cons li_int las_nil)))) (by decide)) (las_cons (li_tup (las_cons li_int (las_cons li_int (las_cons li_int (las_cons li_int las_nil)))) (by decide)) (las_cons (li_tup (las_cons li_int (las_cons li_int (las_cons li_int (las_cons li_bl las_nil)))) (by decide)) (las_cons (li_tup (las_cons li_int (las_cons li_int (las_cons li_int (las_cons li_neg las_nil)))) (by decide)) las_nil)))))) (by decide)) pa_nil))))
      (pss_cons (ps_if (pt_cmpR (op_neTT hr.units) (pe_lamLR1 T M M2 W X hit Dg hgd hr TB hmT hu) (pe_lst (pa_cons pe_str (pa_cons (pe_callB (call_reprQ hgd hr.units) (by rfl) M2.repr (by decide +kernel) (pa_cons (pv 3) pa_nil)) pa_nil))) (nomark _)) (pss_one (ps_ret pe_bl)) pss_nil)
      (pss_cons (ps_if (pt_cmpR (op_neTT hr.units) (pe_lamLR2 T M M2 W X hit Dg hgd hr TB hmT hu) (pe_lst (pa_cons pe_str (pa_cons (pe_callB (call_reprQ hgd hr.units) (by rfl) M2.repr (by decide +kernel) (pa_cons (pv 3) pa_nil)) pa_nil))) (nomark _)) (pss_one (ps_ret pe_bl)) pss_nil)
      (pss_cons (ps_if (pt_cmpR (op_neTT hr.units) (pe_lamLR3 T M M2 W X hit Dg hgd hr TB hmT hu) (pe_lst (pa_cons pe_str (pa_cons (pe_callB (call_reprQ hgd hr.units) (by rfl) M2.repr (by decide +kernel) (pa_cons (pv 3) pa_nil)) pa_nil))) (nomark _)) (pss_one (ps_ret pe_bl)) pss_nil)
      (pss_cons (ps_if (pt_cmpR (op_neTT hr.units) (pe_lamLR4 T M M2 W X hit Dg hgd hr TB hmT hu) (pe_lst (pa_cons pe_str (pa_cons (pe_callB (call_reprQ hgd hr.units) (by rfl) M2.repr (by decide +kernel) (pa_cons (pv 3) pa_nil)) pa_nil))) (nomark _)) (pss_one (ps_ret pe_bl)) pss_nil)
      (pss_cons (ps_set (i := 4) sc_refuses.nd rfl (Or.inr rfl) (pe_cl (cl_one T M) hr (by decide) (pa_cons (pv 0) (pa_cons (li_list (ds := stR) (las_cons li_non (las_cons (li_tup (las_cons li_int (las_cons li_int las_nil)) (by decide)) (las_cons (li_tup (las_cons li_int (las_cons li_int las_nil)) (by decide)) (las_cons (li_tup (las_cons li_int las_nil) (by decide)) (las_cons (li_str (by decide +kernel)) las_nil))))) (by decide)) pa_nil))))
      (pss_one (ps_ret (pe_cmpR (op_eqTT hr.units) (pe_lamLR6 T M M2 W X hit Dg hgd hr TB hmT hu) (pe_lst (pa_cons pe_str (pa_cons (pe_callB (call_reprQ hgd hr.units) (by rfl) M2.repr (by decide +kernel) (pa_cons (pv 4) pa_nil)) pa_nil))) (nomark _)))))))))), ?_⟩
    have right := bb.right
    have yB := br_is y4 cy
    have s2 : 2 ≤ sizeLine := by rw [sizeLine_eq]; decide
    have r0 := Kp.refl (Ts := Ts) src tabs
    have BJ : ∀ {J}, Kp Ts p H J → BookAt K C J bk es := fun k => bb.to (k.g.trans (grd_in p _))
    have YJ : ∀ {J}, Kp Ts p H J → SqT K J b (y.map V.int) := fun k => K0.seqT_same (k.g.trans (grd_in p _)) hb
    refine ⟨_, rfl, fun J9 q9 v9 S9 n9 e9 d9 => one_lit (E := E0) src S9 n9 e9 d9 (by decide) (by decide) fun J10 uo od ho bo qo => ?_⟩
    have k10 := r0.bt bo
    have go := qo.grd
    have oB := oddR_no right old ho
    have OJ : ∀ {J}, Kp Ts p J10 J → DQ K J uo od := fun k => go.to (k.g.trans (grd_in p _))
    have shw : ∀ {J : Hp}, DQ K J uo od → Shows K J uo od := fun h => oddR_shows (List.mem_append_left _ ho) h
    have i10 := Kp.refl (Ts := Ts) k10.s k10.t
    clear S9 n9 e9 d9 bo qo
    refine ⟨i10.t, fun HA xA tA => ?_⟩
    have kA := i10.ext xA tA
    refine ⟨_, rfl, _, rfl, bk, es, _, od, _, .none, rfl, BJ (k10.trans kA), OJ kA, .non, ⟨fun z => (by rw [oB] at z; cases z), fun _ HB ddB SB hB => ?_⟩⟩
    have kB := kA.same SB
    refine ⟨4, "branch", ddB, _, od, .inl ⟨rfl, rfl⟩, rfl, rfl, hB, shw (OJ kB), fun p1 n1 => ?_⟩
    have m1 := K0.same_upd (o := .lst [.str "branch", .str od.shown]) n1
    have f1 := @upd_same HB p1 (.lst [.str "branch", .str od.shown])
    have kC := kB.same m1
    generalize upd HB p1 (.lst [.str "branch", .str od.shown]) = HC at m1 f1 kC ⊢
    have sh := shw (OJ kC)
    refine ⟨_, rfl, _, od, rfl, sh.dq, sh.nl, sh.sh, sh.dp, sh.sz, s2, fun q1 n2 => ?_⟩
    have m2 := K0.same_upd (o := .lst [.str "branch", .str od.shown]) n2
    have f2 := @upd_same HC q1 (.lst [.str "branch", .str od.shown])
    have j1 := kC.same m2
    generalize upd HC q1 (.lst [.str "branch", .str od.shown]) = HD at m2 f2 j1 ⊢
    refine ⟨p1, q1, "branch", od.shown, rfl, rfl, SqL.of (m2 _ _ f1), SqL.of f2, _, rfl, iteF ?_⟩
    clear kA kB kC m1 m2 f1 f2 sh n1 n2 hB SB xA tA
    refine ⟨j1.t, fun HA xA tA => ?_⟩
    have kA := j1.ext xA tA
    refine ⟨_, rfl, _, rfl, _, rfl, bk, es, _, brD y, _, od, rfl, BJ (k10.trans kA), dq_br (YJ (k10.trans kA)), OJ kA, ⟨fun _ => ⟨fun z => (by rw [oB] at z; cases z), fun _ HB ddB SB hB => ?_⟩, fun z => (by rw [yB] at z; cases z)⟩⟩
    have kB := kA.same SB
    refine ⟨4, "branch", ddB, _, od, .inl ⟨rfl, rfl⟩, rfl, rfl, hB, shw (OJ kB), fun p1 n1 => ?_⟩
    have m1 := K0.same_upd (o := .lst [.str "branch", .str od.shown]) n1
    have f1 := @upd_same HB p1 (.lst [.str "branch", .str od.shown])
    have kC := kB.same m1
    generalize upd HB p1 (.lst [.str "branch", .str od.shown]) = HC at m1 f1 kC ⊢
    have sh := shw (OJ kC)
    refine ⟨_, rfl, _, od, rfl, sh.dq, sh.nl, sh.sh, sh.dp, sh.sz, s2, fun q1 n2 => ?_⟩
    have m2 := K0.same_upd (o := .lst [.str "branch", .str od.shown]) n2
    have f2 := @upd_same HC q1 (.lst [.str "branch", .str od.shown])
    have j2 := kC.same m2
    generalize upd HC q1 (.lst [.str "branch", .str od.shown]) = HD at m2 f2 j2 ⊢
    refine ⟨p1, q1, "branch", od.shown, rfl, rfl, SqL.of (m2 _ _ f1), SqL.of f2, _, rfl, iteF ?_⟩
    clear kA kB kC m1 m2 f1 f2 sh n1 n2 hB SB xA tA
    refine ⟨j2.t, fun HA xA tA => ?_⟩
    have kA := j2.ext xA tA
    refine ⟨_, rfl, _, rfl, _, rfl, bk, es, _, brD y, _, od, rfl, BJ (k10.trans kA), dq_br (YJ (k10.trans kA)), OJ kA, ⟨fun _ => ⟨fun z => (by rw [oB] at z; cases z), fun _ HB ddB SB hB => ?_⟩, fun z => (by rw [yB] at z; cases z)⟩⟩
    have kB := kA.same SB
    refine ⟨4, "branch", ddB, _, od, .inl ⟨rfl, rfl⟩, rfl, rfl, hB, shw (OJ kB), fun p1 n1 => ?_⟩
    have m1 := K0.same_upd (o := .lst [.str "branch", .str od.shown]) n1
    have f1 := @upd_same HB p1 (.lst [.str "branch", .str od.shown])
    have kC := kB.same m1
    generalize upd HB p1 (.lst [.str "branch", .str od.shown]) = HC at m1 f1 kC ⊢
    have sh := shw (OJ kC)
    refine ⟨_, rfl, _, od, rfl, sh.dq, sh.nl, sh.sh, sh.dp, sh.sz, s2, fun q1 n2 => ?_⟩
    have m2 := K0.same_upd (o := .lst [.str "branch", .str od.shown]) n2
    have f2 := @upd_same HC q1 (.lst [.str "branch", .str od.shown])
    have j3 := kC.same m2
    generalize upd HC q1 (.lst [.str "branch", .str od.shown]) = HD at m2 f2 j3 ⊢
    refine ⟨p1, q1, "branch", od.shown, rfl, rfl, SqL.of (m2 _ _ f1), SqL.of f2, _, rfl, iteF ?_⟩
    clear kA kB kC m1 m2 f1 f2 sh n1 n2 hB SB xA tA
    refine ⟨j3.t, fun HA xA tA => ?_⟩
    have kA := j3.ext xA tA
    refine ⟨_, rfl, _, rfl, bk, es, _, od, _, .none, rfl, BJ (k10.trans kA), OJ kA, .non, ⟨fun z => (by rw [oB] at z; cases z), fun _ HB ddB SB hB => ?_⟩⟩
    have kB := kA.same SB
    refine ⟨4, "branch", ddB, _, od, .inl ⟨rfl, rfl⟩, rfl, rfl, hB, shw (OJ kB), fun p1 n1 => ?_⟩
    have m1 := K0.same_upd (o := .lst [.str "branch", .str od.shown]) n1
    have f1 := @upd_same HB p1 (.lst [.str "branch", .str od.shown])
    have kC := kB.same m1
    generalize upd HB p1 (.lst [.str "branch", .str od.shown]) = HC at m1 f1 kC ⊢
    have sh := shw (OJ kC)
    refine ⟨_, rfl, _, od, rfl, sh.dq, sh.nl, sh.sh, sh.dp, sh.sz, s2, fun q1 n2 => ?_⟩
    have m2 := K0.same_upd (o := .lst [.str "branch", .str od.shown]) n2
    have f2 := @upd_same HC q1 (.lst [.str "branch", .str od.shown])
    have j4 := kC.same m2
    generalize upd HC q1 (.lst [.str "branch", .str od.shown]) = HD at m2 f2 j4 ⊢
    refine ⟨p1, q1, "branch", od.shown, rfl, rfl, SqL.of (m2 _ _ f1), SqL.of f2, _, rfl, iteF ?_⟩
    clear kA kB kC m1 m2 f1 f2 sh n1 n2 hB SB xA tA
    have kj := k10.trans j4
    refine ⟨_, rfl, fun J9 q9 v9 S9 n9 e9 d9 => one_lit (E := E0) kj.s S9 n9 e9 d9 (by decide) (by decide) fun J20 us sd hs bs qs => ?_⟩
    have k20 := kj.bt bs
    have gs := qs.grd
    have sB := stR_no right old hs
    have PJ : ∀ {J}, Kp Ts p J20 J → DQ K J us sd := fun k => gs.to (k.g.trans (grd_in p _))
    have shs : ∀ {J : Hp}, DQ K J us sd → Shows K J us sd := fun h => oddR_shows (List.mem_append_right _ hs) h
    have i20 := Kp.refl (Ts := Ts) k20.s k20.t
    refine ⟨i20.t, fun HA xA tA => ?_⟩
    have kA := i20.ext xA tA
    refine ⟨_, rfl, _, rfl, _, rfl, bk, es, _, brD y, _, sd, rfl, BJ (k20.trans kA), dq_br (YJ (k20.trans kA)), PJ kA, ⟨fun _ => ⟨fun z => (by rw [sB] at z; cases z), fun _ HB ddB SB hB => ?_⟩, fun z => (by rw [yB] at z; cases z)⟩⟩
    have kB := kA.same SB
    refine ⟨6, "stamp", ddB, _, sd, .inr ⟨rfl, rfl⟩, rfl, rfl, hB, shs (PJ kB), fun p1 n1 => ?_⟩
    have m1 := K0.same_upd (o := .lst [.str "stamp", .str sd.shown]) n1
    have f1 := @upd_same HB p1 (.lst [.str "stamp", .str sd.shown])
    have kC := kB.same m1
    generalize upd HB p1 (.lst [.str "stamp", .str sd.shown]) = HC at m1 f1 kC ⊢
    have sh := shs (PJ kC)
    refine ⟨_, rfl, _, sd, rfl, sh.dq, sh.nl, sh.sh, sh.dp, sh.sz, s2, fun q1 n2 => ?_⟩
    have m2 := K0.same_upd (o := .lst [.str "stamp", .str sd.shown]) n2
    have f2 := @upd_same HC q1 (.lst [.str "stamp", .str sd.shown])
    have j6 := kC.same m2
    generalize upd HC q1 (.lst [.str "stamp", .str sd.shown]) = HD at m2 f2 j6 ⊢
    exact ⟨p1, q1, "stamp", sd.shown, rfl, rfl, SqL.of (m2 _ _ f1), SqL.of f2, k _ (k20.trans j6)⟩
end
end K1
set_option maxHeartbeats 16000000
/-! law -/
namespace K1
open PySem L2 PySem.Spec PyProof.Rows RZ LamX
theorem sc_law12 : FnScope ["_law_script", "_law_k", "_law_source", "_law_deeds", "_law_book", "_law_lot", "_law_one_here", "_law_deed"] ["_law_script"] (defScope (top 83)) := ⟨rfl, rfl, rfl, by decide +kernel, rfl, by decide +kernel, by decide +kernel⟩
section
variable {P : Program} {w : World} {K : PySem.W.Frag} {mg : Str → Option Value} {base : Heap} {C : Addr} {c : Nat → Addr}
theorem ok_law12 {f cf : Addr} {fd : FuncData} {Ts : List (Addr × Str)} (T : All K mg) (M : Nms mg) (M2 : Nms2 mg) (N2 : Nm2 mg) (W : BkAll K mg C c) (X : Exq K mg c) (hit : mg "iter" = none) (DR : ClG P w K mg base 18 "_law_refuses" ["_law_source", "_law_book", "_law_branch"] (spRefs K C Ts)) (F : FunC K "law" "law" (top 83) f fd cf) : FnG P w K mg base 19 f fd ["_law_script"] (spLaw K Ts) := by
  obtain ⟨f8, fd8, aE, F8, MK, bI, bI0, hE⟩ := W.ini
  have GI : FnOk P w K mg base (L2.CX P w) 13 f8 fd8 ["self", "deeds"] (spBook K C (c 1) (c 0) (c 2) (c 3)) := W.book T M2 F8
  refine okGC F sc_law12 (fun vs H Q E h => ?_) (fun A outer s H vs Q E hgd hr h => ?_)
  · obtain ⟨a, ns, rfl, _⟩ := h
    rfl
  · obtain ⟨a, ns, rfl, ha, tabs, k⟩ := h
    have hr14 : Room 14 _ := hr.mono (by decide)
    refine ⟨_, (pss_cons (ps_for PassesOwn.never rfl (pi_list (pe_cl (cl_rounds T N2) hr (by decide) (pa_cons (pv 0) pa_nil))) (pg_name (i := 1) sc_law12.nd rfl (Or.inl rfl)) (pss_cons (ps_set (i := 2) sc_law12.nd rfl (Or.inl rfl) (pe_cl (cl_pool T M) hr (by decide) (pa_cons (pv 0) (pa_cons (pv 1) pa_nil))))
      (pss_cons (ps_set (i := 3) sc_law12.nd rfl (Or.inl rfl) (pe_ix ix_list (pe_cl (cl_drawn T M M2) hr (by decide) (pa_cons (pv 2) (pa_cons pe_int (pa_cons pe_int pa_nil)))) pe_int (fun _ _ => rfl)))
      (pss_cons (ps_par (i := 4) (j := 5) rfl sc_law12.nd rfl rfl (by decide) rfl rfl (pa_cons (pe_makeS MK GI hr14 rfl W.B.mgC bI .nil (fun σ => passN) (pa_cons (pv 3) pa_nil)) (pa_cons (pe_cl (cl_lbr2 T M M2) hr (by decide) (pa_cons (pv 2) (pa_cons (pv 3) pa_nil))) pa_nil)) (by rfl))
      (pss_cons (ps_for PassesOwn.never rfl (pi_list (pv 5)) (pg_name (i := 6) sc_law12.nd rfl (Or.inl rfl)) (pss_one (ps_if (pt_not (pt_val (pe_cl (cl_lnr T M M2 W X hit) hr (by decide) (pa_cons (pv 4) (pa_cons (pv 3) (pa_cons (pv 6) (pa_cons (pe_cl (cl_one T M) hr (by decide) (pa_cons (pv 2) (pa_cons (pv 5) pa_nil))) pa_nil))))))) (pss_one (ps_ret pe_bl)) pss_nil)))
      (pss_cons (ps_for PassesOwn.never rfl (pi_list (pv 3)) (pg_name (i := 7) sc_law12.nd rfl (Or.inl rfl)) (pss_one (ps_if (pt_not (pt_val (pe_cl (cl_llr T M M2 W X hit) hr (by decide) (pa_cons (pv 4) (pa_cons (pv 3) (pa_cons (pe_cl (cl_one T M) hr (by decide) (pa_cons (pv 2) (pa_cons (pv 5) pa_nil))) (pa_cons (pv 7) pa_nil))))))) (pss_one (ps_ret pe_bl)) pss_nil)))
      (pss_one (ps_if (pt_not (pt_val (pe_clG DR hgd hr (by decide) (pa_cons (pv 2) (pa_cons (pv 4) (pa_cons (pe_cl (cl_one T M) hr (by decide) (pa_cons (pv 2) (pa_cons (pv 5) pa_nil))) pa_nil)))))) (pss_one (ps_ret pe_bl)) pss_nil))))))))
      (pss_one (ps_ret (pe_cmpR (op_eqE hr.units) (pe_clN (cl_news T W hit) hr (by decide) (pa_cons (pe_makeS0 MK GI hr14 rfl W.B.mgC bI0 (.cons (rr _) .nil) (fun σ => passN)) (pa_cons (pe_tup (pa_cons pe_int (pa_cons pe_int (pa_cons pe_int (pa_cons pe_int pa_nil))))) (pa_cons (pe_tup (pa_cons pe_int (pa_cons pe_int (pa_cons pe_int (pa_cons pe_int pa_nil))))) pa_nil)))) (pe_lst pa_nil) (nomark _))))), ?_⟩
    refine ⟨_, rfl, a, _, rfl, ha, fun n ql hn nq => ⟨ql, rfl, ⟨_, SqL.of upd_same⟩, ?_⟩⟩
    have S1 := K0.same_upd (o := .lst ((List.range n).map fun i : Nat => V.int (i : Int))) nq
    have f1 := @upd_same H ql (.lst ((List.range n).map fun i : Nat => V.int (i : Int)))
    generalize upd H ql (.lst ((List.range n).map fun i : Nat => V.int (i : Int))) = H1 at S1 f1 ⊢
    have ha1 : SqL K (nt H1) a (ns.map V.int) := seq_nt (S1.seq ha)
    have f1' := nt_of f1 (fun ps z => by cases z)
    refine for_list (K := K) (a := ql) (fun i σ J => σ.length = 8 ∧ σ[0]? = some (some (V.ref a)) ∧ Same (nt H1) (nt J) ∧ Tabs Ts J) ⟨rfl, rfl, Same.refl _, tabs_same tabs S1⟩ (fun i σ J _ ⟨_, _, s, _⟩ => SqL.of (nt_in J _ _ (s _ _ f1'))) ?_ ?_
    · rintro i x σ J hx ⟨l8, t0, s0, tb0⟩
      obtain ⟨hi, rfl⟩ : i < n ∧ x = .int (i : Int) := by
        rw [List.getElem?_map] at hx
        obtain ⟨y, hy, rfl⟩ := Option.map_eq_some_iff.mp hx
        obtain ⟨h1, h2⟩ := List.getElem?_eq_some_iff.mp hy
        rw [List.length_range] at h1
        rw [List.getElem_range] at h2
        exact ⟨h1, by rw [h2]⟩
      obtain ⟨z0, z1, z2, z3, z4, z5, z6, z7, rfl⟩ := list8 l8
      obtain rfl : z0 = some (V.ref a) := Option.some.inj t0
      have haJ : SqL K J a (ns.map V.int) := (nt_in J).seq (s0.seq ha1)
      refine ⟨_, rfl, _, rfl, a, ns, i, rfl, by omega, haJ, fun p A0 B0 np b0 b1 => ?_⟩
      have S2 := K0.same_upd (o := .lst [.int A0, .int B0]) np
      have src2 : Src (upd J p (.lst [.int A0, .int B0])) p := ⟨A0, B0, upd_same, b0, b1⟩
      have tb2 := tabs_same tb0 S2
      have g2 : Same (nt J) (grd p (upd J p (.lst [.int A0, .int B0]))) := fun b u e => by
        obtain ⟨e1, e2⟩ := nt_at e
        exact grd_of (S2 _ _ e1) (ne_of_none e1 np) e2
      generalize upd J p (.lst [.int A0, .int B0]) = J2 at src2 tb2 g2 ⊢
      refine ⟨_, rfl, p, rfl, src2, fun J3 wd Dl Rl ds rs m b3 W3 ok => ?_⟩
      obtain ⟨us, hD, Sm⟩ := W3.sm
      have few := W3.few
      have lu := Sm.all.len
      have k3 := (Kp.refl (Ts := Ts) src2 tb2).bt b3
      have dl3 : Deeds K (grd p J3) us ds := ⟨dqs_grd _ _ Sm.all, sts_grd ((W3.st us hD).to (gnd_hid p Dl Rl J3)), ok.okD⟩
      have hD3 : grd p J3 Dl = some (.lst us) := grd_of hD W3.ne.2.1 (fun ps z => by cases z)
      have tm : ∀ d ∈ ds, tmD d ≤ 900 := fun d hd => by
        have z := (W3.right d hd).2
        have r := ok.right d hd
        obtain ⟨t, j, x, r', hk, ht, hj, _, _, _, e⟩ := deed_pure r
        have t1 : stampT d = t := by rw [e]; rfl
        have t2 : tmD d = t := by unfold tmD; rw [hk]; rfl
        omega
      refine ⟨wd, _, _, _, rfl, rfl, SqL.of W3.wl, atI_nat (j := 0) rfl, ?_⟩
      refine ⟨_, rfl, fun x dx nx ndx _ => make_list nx ndx (dl3.to (grd_in p J3)) (SqL.of hD) (by omega) fun J5 es S5 bat _ pm ue => ⟨rfl, ?_⟩⟩
      have k5 := k3.same S5
      have dl5 := dl3.to (grd_same S5)
      have hD5 := grd_same (p := p) S5 _ _ hD3
      have bk5 := book_grd k5.s bat
      clear bat nx ndx S5 dl3 hD3
      refine ⟨_, rfl, _, rfl, p, Dl, us, ds, rfl, k5.s, SqL.of (grd_hid p J5 _ _ hD5), dl5.to (grd_hid p J5), by omega, fun J6 lot ws bs b6 n6 nel h6 hws good pos lim => ⟨_, _, rfl, ?_⟩⟩
      have k6 := k5.bt b6
      have g6 := grd_bt b6
      have dl6 := dl5.to g6
      have hD6 := g6 _ _ hD5
      have bk6 := bk5.to g6
      have hws6 : DQs K (grd p J6) ws (bs.map brD) := dqs_grd _ _ hws
      have hl6 : grd p J6 lot = some (.lst ws) := grd_of h6 nel (fun ps z => by cases z)
      have G6 : Same (nt J) (grd p J6) := g2.trans k6.g
      have r6 := Kp.refl (Ts := Ts) k6.s k6.t
      have okd := dl6.ok
      have oke := okd.perm pm
      clear k5 k3 g6 g2 dl5 hD5 bk5 hws h6 n6 b6 b3 W3 Sm hD src2 tb2 S2
      have kk : ∀ {J5}, Kp Ts p J6 J5 → Same (nt H1) (nt J5) ∧ Tabs Ts J5 := fun {J5} k5 => ⟨s0.trans fun b o e => by
        obtain ⟨e3, e4⟩ := nt_at ((G6.trans k5.g) _ _ e)
        exact nt_of ((hid_at e3).2) e4, k5.t⟩
      have QJ : ∀ {J}, Kp Ts p J6 J → SqL K J Dl us := fun k => SqL.of ((k.g.trans (grd_in p _)) _ _ hD6)
      have DJ : ∀ {J}, Kp Ts p J6 J → Deeds K J us ds := fun k => dl6.to (k.g.trans (grd_in p _))
      have BJ : ∀ {J}, Kp Ts p J6 J → BookAt K C J x es := fun k => bk6.to (k.g.trans (grd_in p _))
      have LJ : ∀ {J}, Kp Ts p J6 J → SqL K (hid p J) lot ws ∧ DQs K (hid p J) ws (bs.map brD) := fun k => ⟨SqL.of ((k.g.trans (grd_hid p _)) _ _ hl6), hws6.to (k.g.trans (grd_hid p _))⟩
      have lb := hws6.len
      rw [List.length_map] at lb
      have brSq : ∀ {G : Hp} {u : V} {b : List Int}, DQ K G u (brD b) → ∃ a, u = .ref a ∧ SqT K G a (b.map V.int) := fun {G u b} h => by
        cases h with
        | tup g1 g2 => exact ⟨_, rfl, by rw [dqs_ints g2] at g1; exact g1⟩
      have goodE : ∀ b ∈ bs, b.length = 4 ∧ closedD es b = true := fun b hb => ⟨(good b hb).1, by rw [closed_perm okd.nd pm]; exact (good b hb).2⟩
      -- one of the branches, drawn
      have pick : ∀ {J : Hp} {Q : VK} {E : XK}, Kp Ts p J6 J → (∀ J' u b, b ∈ bs → Kp Ts p J6 J' → Kp Ts p J J' → DQ K (hid p J') u (brD b) → Q u J') → spOne K [.ref p, .ref lot] J Q E := fun {J Q E} kJ q => by
        refine ⟨p, lot, ws, bs.map brD, rfl, kJ.s, (LJ kJ).1, (LJ kJ).2, by rw [List.length_map]; exact pos, by rw [List.length_map]; omega, fun J' u d hd b' hq => ?_⟩
        obtain ⟨b, hb, rfl⟩ := List.mem_map.mp hd
        exact q J' u b hb (kJ.bt b') ((Kp.refl kJ.s kJ.t).bt b') hq
      refine ⟨_, rfl, lot, rfl, ⟨ws, (hid_same p J6).seq (LJ r6).1⟩, ?_⟩
      refine for_list (K := K) (a := lot) (xs := ws) (fun i σ J => (∃ z1 z6 z7, σ = [some (.ref a), z1, some (.ref p), some (.ref Dl), some (.ref x), some (.ref lot), z6, z7]) ∧ Kp Ts p J6 J) ⟨⟨_, _, _, rfl⟩, r6⟩ (fun i σ J _ ⟨_, k⟩ => (hid_same p J).seq (LJ k).1) ?_ ?_
      · rintro i u σ J hu ⟨⟨z1, z6, z7, rfl⟩, kJ⟩
        obtain ⟨b0, hb0, qu⟩ := (LJ kJ).2.at hu
        rw [List.getElem?_map] at hb0
        obtain ⟨y, hy, rfl⟩ := Option.map_eq_some_iff.mp hb0
        have hym := List.mem_of_getElem? hy
        refine ⟨_, rfl, _, rfl, _, rfl, _, rfl, _, rfl, pick (E := E) kJ fun J7 v b hb k7 kk7 hv => ?_⟩
        obtain ⟨ya, rfl, sy⟩ := brSq (((LJ k7).2.at hu).elim fun d hd => by
          obtain ⟨e1, e2⟩ := hd
          rw [List.getElem?_map, hy] at e1
          cases e1
          exact e2)
        obtain ⟨va, rfl, sv⟩ := brSq hv
        have hs7 := hid_same p J7
        refine ⟨x, Dl, ya, va, us, ds, es, y, b, rfl, BJ k7, QJ k7, DJ k7, pm, by omega, K0.seqT_same hs7 sy, K0.seqT_same hs7 sv, (goodE y hym).1, (goodE b hb).1, (goodE y hym).2, (goodE b hb).2, fun J8 S8 => ⟨_, rfl, iteF ⟨⟨_, _, _, rfl⟩, k7.same S8⟩⟩⟩
      · rintro σ J ⟨⟨z1, z6, z7, rfl⟩, kJ⟩
        refine ⟨_, rfl, Dl, rfl, ⟨us, QJ kJ⟩, ?_⟩
        refine for_list (K := K) (a := Dl) (xs := us) (fun i σ J => (∃ z1 z6 z7, σ = [some (.ref a), z1, some (.ref p), some (.ref Dl), some (.ref x), some (.ref lot), z6, z7]) ∧ Kp Ts p J6 J) ⟨⟨_, _, _, rfl⟩, kJ⟩ (fun i σ J _ ⟨_, k⟩ => QJ k) ?_ ?_
        · rintro i u σ J hu ⟨⟨z1, z6, z7, rfl⟩, kJ⟩
          refine ⟨_, rfl, _, rfl, _, rfl, _, rfl, pick (E := E) kJ fun J7 v b hb k7 kk7 hv => ?_⟩
          obtain ⟨va, rfl, sv⟩ := brSq hv
          obtain ⟨d, hd, hdm, rd, qd, sd⟩ := (DJ k7).get hu
          refine ⟨_, rfl, x, Dl, va, u, us, ds, es, d, b, rfl, BJ k7, QJ k7, DJ k7, pm, by omega, K0.seqT_same (hid_same p J7) sv, (goodE b hb).1, (goodE b hb).2, hdm, qd, sd, fun J8 S8 => ⟨_, rfl, iteF ⟨⟨_, _, _, rfl⟩, k7.same S8⟩⟩⟩
        · rintro σ J ⟨⟨z1, z6, z7, rfl⟩, kJ⟩
          refine ⟨_, rfl, _, rfl, _, rfl, _, rfl, pick (E := E) kJ fun J7 v b hb k7 kk7 hv => ?_⟩
          obtain ⟨va, rfl, sv⟩ := brSq hv
          refine ⟨p, x, va, es, b, rfl, k7.s, k7.t, bk6.to k7.g, tup_grd sv, (goodE b hb).1, (goodE b hb).2, fun e he => tm e (pm.mem_iff.mp he), fun J8 k8 => ⟨_, rfl, iteF ⟨rfl, rfl, kk (k7.trans k8)⟩⟩⟩
    · rintro σ J ⟨l8, t0, s0, tb0⟩
      refine fun y dy ny ndy _ => book_right (d := .tuple []) (ds := []) ny ndy (.tup (hE _) .nil) rfl rfl ⟨aE, [], rfl, .inr (hE _), .nil, (fun i u e hu => by cases hu)⟩ (fun d hd => absurd hd List.not_mem_nil) List.nodup_nil (Nat.zero_le _) (fun es p u => by rw [p.eq_nil]; rfl) fun J7 es7 S7 b7 _ pm7 up7 => ⟨rfl, ?_⟩
      rw [pm7.eq_nil] at b7
      refine ⟨by decide, fun q1 n1 => ⟨by decide, fun q2 n2 => ?_⟩⟩
      have T1 := K0.same_upd (o := .tup [.int 0, .int 0, .int 0, .int 0]) n1
      have g1 := @upd_same J7 q1 (.tup [.int 0, .int 0, .int 0, .int 0])
      generalize upd J7 q1 (.tup [.int 0, .int 0, .int 0, .int 0]) = J8 at T1 g1 n2 ⊢
      have T2 := K0.same_upd (o := .tup [.int 0, .int 0, .int 0, .int 0]) n2
      have g2 := @upd_same J8 q2 (.tup [.int 0, .int 0, .int 0, .int 0])
      generalize upd J8 q2 (.tup [.int 0, .int 0, .int 0, .int 0]) = J9 at T2 g2 ⊢
      have z1 : SqT K J9 q1 (l0.map V.int) := K0.seqT_same T2 (SqT.of g1)
      have z2 : SqT K J9 q2 (l0.map V.int) := SqT.of g2
      have isn : isB [] (brD l0) = true := by decide
      refine ⟨y, [], .ref q1, brD l0, .ref q2, brD l0, rfl, (b7.to T1).to T2, dq_br z1, dq_br z2, ⟨fun _ => ⟨fun _ H' q us S hq hl hd => ?_, fun e => by cases isn.symm.trans e⟩, fun e => by cases isn.symm.trans e⟩⟩
      have hd0 : us = [] := by
        cases us with
        | nil => rfl
        | cons u r => cases hd.len
      subst hd0
      exact ⟨by decide, fun q9 n9 => ⟨q, q9, [], rfl, rfl, .inl ⟨SqL.of (K0.same_upd n9 _ _ hl), SqL.of upd_same⟩, k _⟩⟩
end
end K1
set_option maxHeartbeats 4000000
/-! the head's facts -/
namespace K1
open PySem L2 LamX
theorem dn_mk {K : PySem.W.Frag} {mg : Str → Option Value} {h : Heap} {x : Str} {ps : List Str} {st : Stmt} {g : Addr} {oc : Value} {od an : Option Addr} {osl : Array (Option Value)} {kV doc pm cdv ct : Value} (X : K.In h) (G : h.Ns mainGlobals mg) (a : PySem.W.nsIn K mainGlobals x = some (some (.ref g)))
    (l : K.lookup g = some ⟨oc, od, .func (PySem.W.fnOf x x (defArgs st) (defBody st) (defScope st) .none kV doc pm an cdv ct), osl⟩) (cc : PySem.W.codeIn K cdv x = true) (k : PySem.W.keepIn K (.ref g) = true)
    (b : ∀ (kV doc pm : Value) (an : Option Addr) (cdv ct : Value) (us : List Value), us.length = ps.length → bindArgs (PySem.W.fnOf x x (defArgs st) (defBody st) (defScope st) .none kV doc pm an cdv ct) ⟨us, []⟩ = pure (ps.zip us)) :
    ∃ g fd, Dn K mg x ps st g fd := by
  have F := fun_mk (st := st) l cc k
  exact ⟨_, _, F, F.binds b, PySem.W.mg_of X G a⟩
theorem dc_mk {K : PySem.W.Frag} {mg : Str → Option Value} {h : Heap} {x : Str} {ps : List Str} {st : Stmt} {g c : Addr} {oc : Value} {od an : Option Addr} {osl : Array (Option Value)} {kV doc pm ct : Value} (X : K.In h) (G : h.Ns mainGlobals mg) (a : PySem.W.nsIn K mainGlobals x = some (some (.ref g)))
    (l : K.lookup g = some ⟨oc, od, .func (PySem.W.fnOf x x (defArgs st) (defBody st) (defScope st) .none kV doc pm an (.ref c) ct), osl⟩) (cc : PySem.W.codeIn K (.ref c) x = true) (k : PySem.W.keepIn K (.ref g) = true)
    (b : ∀ (kV doc pm : Value) (an : Option Addr) (cdv ct : Value) (us : List Value), us.length = ps.length → bindArgs (PySem.W.fnOf x x (defArgs st) (defBody st) (defScope st) .none kV doc pm an cdv ct) ⟨us, []⟩ = pure (ps.zip us)) :
    ∃ g fd, Dn K mg x ps st g fd ∧ FunC K x x st g fd c := by
  have F := fun_mk (st := st) l cc k
  exact ⟨_, _, ⟨F, F.binds b, PySem.W.mg_of X G a⟩, ⟨_, _, _, _, _, _, _, _, rfl, l, cc⟩⟩
theorem dc_dn {K : PySem.W.Frag} {mg : Str → Option Value} {x : Str} {ps : List Str} {st : Stmt} {c : Addr} (h : ∃ g fd, Dn K mg x ps st g fd ∧ FunC K x x st g fd c) : ∃ g fd, Dn K mg x ps st g fd := by
  obtain ⟨g, fd, h1, _⟩ := h
  exact ⟨g, fd, h1⟩
theorem dn_nil {K : PySem.W.Frag} {mg : Str → Option Value} : ∀ i x ps, ([] : List (Nat × Str × List Str)).lookup i = some (x, ps) → ∃ g fd, Dn K mg x ps (top i) g fd := fun _ _ _ e => by cases e
theorem dn_cons {K : PySem.W.Frag} {mg : Str → Option Value} {i : Nat} {x : Str} {ps : List Str} {r : List (Nat × Str × List Str)} (d : ∃ g fd, Dn K mg x ps (top i) g fd) (h : ∀ i x ps, r.lookup i = some (x, ps) → ∃ g fd, Dn K mg x ps (top i) g fd) :
    ∀ j y qs, ((i, x, ps) :: r).lookup j = some (y, qs) → ∃ g fd, Dn K mg y qs (top j) g fd := fun j y qs e => by
  rw [List.lookup_cons] at e
  cases q : j == i with
  | true =>
    rw [q] at e
    cases e
    rw [eq_of_beq q]
    exact d
  | false =>
    rw [q] at e
    exact h j y qs e
/-- the built-in names that the text does not name anew -/
def namesB (K : PySem.W.Frag) : Bool := [("isinstance" : Str), "int", "bool", "str", "tuple", "len", "all", "max", "min", "list", "range", "sorted", "dict", "repr", "zip", "enumerate", "set", "iter"].all fun x => decide (PySem.W.nsIn K mainGlobals x = some none)
theorem names_of {K : PySem.W.Frag} {h : Heap} {mg : Str → Option Value} (X : K.In h) (G : h.Ns mainGlobals mg) (hb : namesB K = true) : Bi mg ∧ Nms mg ∧ Nms2 mg ∧ Nm2 mg ∧ mg "zip" = none ∧ mg "enumerate" = none ∧ mg "set" = none ∧ mg "iter" = none := by
  unfold namesB at hb
  simp only [Bool.and_eq_true, List.all_cons, List.all_nil, decide_eq_true_eq] at hb
  obtain ⟨e1, e2, e3, e4, e5, e6, e7, e8, e9, e10, e11, e12, e13, e14, e15, e16, e17, e18, _⟩ := hb
  have n : ∀ {x : Str}, PySem.W.nsIn K mainGlobals x = some none → mg x = none := fun e => PySem.W.mg_none_of X G e
  exact ⟨⟨n e1, n e2, n e3, n e4, n e5, n e6, n e7⟩, ⟨n e6, n e8, n e2⟩, ⟨n e10, n e11, n e5, n e12, n e13, n e14, n e9⟩, ⟨n e6, n e8, n e9, n e10, n e11⟩, n e15, n e16, n e17, n e18⟩
/-- a class's facts, all but its own object -/
def erB (K : PySem.W.Frag) (C fI : Addr) : Bool :=
  decide (PySem.W.findIn K (.ref C) "__setattr__" = some (some (.builtin "object.__setattr__"))) && (decide (PySem.W.subIn K (.ref C) (.type "BaseException") = some true) && (decide (PySem.W.typeIn K (.ref C) = some (.type "type")) && (PySem.W.keepIn K (.ref C) &&
  (xfB K C && (decide (PySem.W.findIn K (.ref C) "told" = some none) && (decide (PySem.W.findIn K (.ref C) "__init__" = some (some (.ref fI))) && (decide (PySem.W.typeIn K (.ref fI) = some (.type "function")) && decide (PySem.W.exmOne K (.ref C) (.ref C) = some true))))))))
theorem er_mk {K : PySem.W.Frag} {mg : Str → Option Value} {h : Heap} {x : Str} {C fI : Addr} {nm q : Str} {N : Addr} {bs bm : List Value} {sn : List Str} {sub : List Value} {ab : Bool} {col : Option Bool} {dd : Option Addr} {k0 k1 k2 k3 k5 : Option Value} (X : K.In h) (G : h.Ns mainGlobals mg)
    (a : PySem.W.nsIn K mainGlobals x = some (some (.ref C)))
    (l : K.lookup C = some (excClassObj nm q C N bs bm true sn sub ab col dd k0 k1 k2 k3 k5 "ValueError.__new__")) (r : PySem.HandSPX.refsVE bm = true) (b : erB K C fI = true) (ini : ∃ fd, Fun K "__init__" "ScopeError.__init__" s_init fI fd ∧ Binds K fd ["self", "told"] []) : Er K mg x C fI := by
  unfold erB at b
  simp only [Bool.and_eq_true, decide_eq_true_eq] at b
  obtain ⟨h1, h2, h3, h4, h5, h6, h7, h8, h9⟩ := b
  exact ⟨PySem.W.mg_of X G a, ⟨⟨nm, q, N, bs, bm, sn, sub, ab, col, dd, k0, k1, k2, k3, k5, l, r⟩, h1, h2, h3, h4⟩, xfB_ok h5, h6, h7, h8, h9, ini⟩
theorem mf_mk {K : PySem.W.Frag} {x q : Str} {st : Stmt} {ps : List Str} {f : Addr} {oc : Value} {od an : Option Addr} {osl : Array (Option Value)} {kV doc pm cdv ct : Value}
    (l : K.lookup f = some ⟨oc, od, .func (PySem.W.fnOf x q (defArgs st) (defBody st) (defScope st) .none kV doc pm an cdv ct), osl⟩) (cc : PySem.W.codeIn K cdv q = true) (k : PySem.W.keepIn K (.ref f) = true)
    (b : ∀ (kV doc pm : Value) (an : Option Addr) (cdv ct : Value) (us : List Value), us.length = ps.length → bindArgs (PySem.W.fnOf x q (defArgs st) (defBody st) (defScope st) .none kV doc pm an cdv ct) ⟨us, []⟩ = pure (ps.zip us)) :
    ∃ fd, Fun K x q st f fd ∧ Binds K fd ps [] := by
  have F := fun_mk (st := st) l cc k
  exact ⟨_, F, F.binds b⟩
def erMB (K : PySem.W.Frag) (C fI : Addr) : Bool :=
  (decide (PySem.W.findIn K (.ref C) "__setattr__" = some (some (.builtin "object.__setattr__"))) && (decide (PySem.W.findIn K (.ref C) "__getattribute__" = some (some (.builtin "BaseException.__getattribute__"))) && (decide (PySem.W.findIn K (.ref C) "__getattr__" = some none) &&
  (decide (PySem.W.findIn K (.ref C) "most" = some none) && (decide (PySem.W.findIn K (.ref C) "__init__" = some (some (.ref fI))) && (decide (PySem.W.typeIn K (.ref fI) = some (.type "function")) && PySem.W.keepIn K (.ref C))))))) &&
  (decide (PySem.W.subIn K (.ref C) (.type "BaseException") = some true) && (decide (PySem.W.instIn K (.ref C) (.type "type") = some true) && (PySem.W.hasDictIn K C && (decide (PySem.W.mroIn K C (.type "object") = some true) &&
  (decide (PySem.W.findIn K (.ref C) "__class__" = some (some (.builtin "object.__class__"))) && (decide (PySem.W.typeIn K (.ref C) = some (.type "type")) && (xfB K C && decide (PySem.W.exmOne K (.ref C) (.ref C) = some true))))))))
theorem erM_mk {K : PySem.W.Frag} {mg : Str → Option Value} {h : Heap} {x : Str} {C fI : Addr} {nm q : Str} {N : Addr} {bs : List Value} {sn : List Str} {sub : List Value} {ab : Bool} {col : Option Bool} {dd : Option Addr} {k0 k1 k2 k3 k5 : Option Value}
    {oc : Value} {od : Option Addr} {doc pm : Value} {an : Option Addr} {cdv ct : Value} {osl : Array (Option Value)} {p1 p2 q1 q2 q3 q4 : Pos} (X : K.In h) (G : h.Ns mainGlobals mg) (a : PySem.W.nsIn K mainGlobals x = some (some (.ref C)))
    (l : K.lookup C = some (excClassObj nm q C N bs [.type "OverflowError", .type "ArithmeticError", .type "Exception", .type "BaseException", .type "object"] true sn sub ab col dd k0 k1 k2 k3 k5 "OverflowError.__new__")) (b : erMB K C fI = true)
    (li : K.lookup fI = some ⟨oc, od, .func (PySem.W.fnOf "__init__" "TooMany.__init__" (PySem.K0X.iAMost p1 p2) (PySem.K0X.iBMost q1 q2 q3 q4) PySem.K0X.iSMost .none .none doc pm an cdv ct), osl⟩) (cc : PySem.W.codeIn K cdv "TooMany.__init__" = true) : ErM K mg x C fI := by
  unfold erMB at b
  simp only [Bool.and_eq_true, decide_eq_true_eq] at b
  obtain ⟨⟨h1, h2, h3, h4, h5, h6, h7⟩, h8, h9, h10, h11, h12, h13, h14, h15⟩ := b
  exact ⟨PySem.W.mg_of X G a, ⟨⟨_, _, _, _, nm, q, N, bs, _, sn, sub, ab, col, dd, k0, k1, k2, k3, k5, F.excBase_OverflowError, F.store_OverflowError, ⟨[], rfl⟩, l⟩, h1, h2, h3, h4, h5, h6, h7, h8, h9, h10, h11, h12⟩, ⟨_, _, _, _, _, _, _, _, _, _, _, _, _, _, li, cc⟩, h13, xfB_ok h14, h15⟩
/-- where the caught classes stand -/
def cA (i : Nat) : Addr := [163, 84, 96, 108, 132, 0, 120, 0, 144].getD i 0
/-- a written tuple of nothing -/
theorem sqt_nil {K : PySem.W.Frag} {a : Addr} {d : Option Addr} {n : Nat} {sl : Array (Option Value)} (l : K.lookup a = some ⟨.type "tuple", d, .seq #[] n, sl⟩) : ∀ H, SqT K H a [] :=
  fun H => .inr ⟨_, _, _, l, rfl, rfl, (by show 0 ≤ sizeLine; omega), .nil⟩
/-- Book.__init__, with its default -/
theorem bk_ini {K : PySem.W.Frag} {f dT aE : Addr} {oc oc' : Value} {od od' an : Option Addr} {osl osl' : Array (Option Value)} {kV doc pm cdv ct : Value} {n : Nat}
    (l : K.lookup f = some ⟨oc, od, .func (PySem.W.fnOf "__init__" "Book.__init__" (defArgs (inClass (top 40) 0)) (defBody (inClass (top 40) 0)) (defScope (inClass (top 40) 0)) (.ref dT) kV doc pm an cdv ct), osl⟩) (cc : PySem.W.codeIn K cdv "Book.__init__" = true)
    (lt : K.lookup dT = some ⟨oc', od', .seq #[.ref aE] n, osl'⟩) : ∃ fd, FunD K "__init__" "Book.__init__" (inClass (top 40) 0) f fd ∧ Binds K fd ["self", "deeds"] [] ∧ Binds K fd ["self", "deeds"] [.ref aE] := by
  refine ⟨_, ⟨⟨_, _, _, _, _, _, _, _, _, _, rfl, l, cc⟩⟩, fun s us X hl => ?_, fun s us X hl => ?_⟩
  · match us, hl with
    | [u, v], _ => exact PySem.W.binds_K X rfl lt rfl rfl rfl
  · have hl' : us.length = 1 := by
      rw [List.length_append] at hl
      exact Nat.succ.inj hl
    match us, hl' with
    | [u], _ => exact PySem.W.binds_K X rfl lt rfl rfl rfl
/-- a written tuple of two ints -/
theorem sqt_ints {K : PySem.W.Frag} {a : Addr} {x y : Int} {t u : Tok} {d : Option Addr} {n : Nat} {sl : Array (Option Value)} (l : K.lookup a = some ⟨.type "tuple", d, .seq #[.int x t, .int y u] n, sl⟩) : ∀ H, SqT K H a [.int x, .int y] :=
  fun H => .inr ⟨_, _, _, l, rfl, rfl, (by show 2 ≤ sizeLine; rw [sizeLine_eq]; decide), .cons ⟨t, rfl⟩ (.cons ⟨u, rfl⟩ .nil)⟩
theorem sqt_two {K : PySem.W.Frag} {a : Addr} {x y : Str} {t u : Tok} {d : Option Addr} {n : Nat} {sl : Array (Option Value)} (l : K.lookup a = some ⟨.type "tuple", d, .seq #[.str x t, .str y u] n, sl⟩) : ∀ H, SqT K H a [.str x, .str y] :=
  fun H => .inr ⟨_, _, _, l, rfl, rfl, (by show 2 ≤ sizeLine; rw [sizeLine_eq]; decide), .cons ⟨t, rfl⟩ (.cons ⟨u, rfl⟩ .nil)⟩
theorem sqt_four {K : PySem.W.Frag} {a : Addr} {x y z v : Str} {t u t' u' : Tok} {d : Option Addr} {n : Nat} {sl : Array (Option Value)} (l : K.lookup a = some ⟨.type "tuple", d, .seq #[.str x t, .str y u, .str z t', .str v u'] n, sl⟩) : ∀ H, SqT K H a [.str x, .str y, .str z, .str v] :=
  fun H => .inr ⟨_, _, _, l, rfl, rfl, (by show 4 ≤ sizeLine; rw [sizeLine_eq]; decide), .cons ⟨t, rfl⟩ (.cons ⟨u, rfl⟩ (.cons ⟨t', rfl⟩ (.cons ⟨u', rfl⟩ .nil)))⟩
theorem cn_mk {K : PySem.W.Frag} {h : Heap} {mg : Str → Option Value} {t t' : Tok} {a b : Addr} (X : K.In h) (G : h.Ns mainGlobals mg) (m : PySem.W.nsIn K mainGlobals "MOST_TIME" = some (some (.int 999 t))) (ho : PySem.W.nsIn K mainGlobals "_HOLDERS" = some (some (.ref a)))
    (sh : ∀ H, SqT K H a [.str "block", .str "let", .str "sum", .str "product"]) (ma : PySem.W.nsIn K mainGlobals "_MARKS" = some (some (.ref b))) (sm : ∀ H, SqT K H b [.str "undo", .str "redo"]) (le : PySem.W.nsIn K mainGlobals "_LETTERS" = some (some (.str "abcdefghijklmnopqrstuvwxyz" t'))) : Cn K mg :=
  ⟨⟨t, PySem.W.mg_of X G m⟩, ⟨a, PySem.W.mg_of X G ho, sh⟩, ⟨b, PySem.W.mg_of X G ma, sm⟩, ⟨t', PySem.W.mg_of X G le⟩⟩
/-- Book as the top has made it, all that is told by a look -/
def bkB (K : PySem.W.Frag) (C fI f1 f3 f4 f5 f6 f7 f8 f9 : Addr) : Bool :=
  (PySem.W.plainGet K C Str.empty && (PySem.W.hasDictIn K C && (PySem.W.plainOver K C && decide (PySem.W.findIn K (.ref C) "__setattr__" = some (some (.builtin "object.__setattr__")))))) &&
  (([("_rows" : Str), "_table", "_stamps", "_last"].all fun x => decide (PySem.W.findIn K (.ref C) x = some none)) &&
  ((decide (PySem.W.findIn K (.ref C) "__class__" = some (some (.builtin "object.__class__"))) && (decide (PySem.W.specialIn K (.builtin "object.__class__") "__get__" = some (some (.builtin "getset_descriptor.__get__"))) && (decide (PySem.W.takesIn K (.builtin "object.__class__") = some true) &&
    (decide (PySem.W.mroIn K C (.type "object") = some true) && decide (PySem.W.kitOne K (.ref C) (.ref C) = some true))))) &&
  ((PySem.W.makesIn K C && (decide (PySem.W.findIn K (.ref C) "__init__" = some (some (.ref fI))) && (PySem.W.isFn K (.ref fI) && PySem.W.keepIn K (.ref C)))) &&
  (([(("deeds" : Str), f1), ("last", f3), ("__getitem__", f4), ("__contains__", f5), ("__len__", f6), ("__eq__", f7), ("__iter__", f8), ("with_deeds", f9)].all fun p => decide (PySem.W.findIn K (.ref C) p.1 = some (some (.ref p.2))) && (PySem.W.isFn K (.ref p.2) && PySem.W.keepIn K (.ref p.2))) && (PySem.W.fnIn K f4 && (decide (PySem.W.findIn K (.ref C) "__ne__" = some (some (.builtin "object.__ne__"))) && decide (PySem.W.kitOne K (.type "int") (.ref C) = some false)))))))
theorem bk_all {K : PySem.W.Frag} {mg : Str → Option Value} {h : Heap} {c : Nat → Addr} {C fI f1 f3 f4 f5 f6 f7 f8 f9 aE aR fB fM fC fU fS fH fN : Addr} {tM : Nat} (X : K.In h) (G : h.Ns mainGlobals mg) (a : PySem.W.nsIn K mainGlobals "Book" = some (some (.ref C))) (b : bkB K C fI f1 f3 f4 f5 f6 f7 f8 f9 = true)
    (Rb : Er K mg "NoBook" (c 1) fB) (Rm : ErM K mg "TooMany" (c 0) fM) (Rc : Er K mg "NotClosed" (c 2) fC) (Ru : Er K mg "Unseen" (c 3) fU) (Rs : Er K mg "NoStamp" (c 6) fS) (Rh : Er K mg "NoHand" (c 8) fH) (Rbr : Er K mg "NoBranch" (c 4) fN)
    (ini : ∃ fd, FunD K "__init__" "Book.__init__" (inClass (top 40) 0) fI fd ∧ Binds K fd ["self", "deeds"] [] ∧ Binds K fd ["self", "deeds"] [.ref aE]) (hE : ∀ H, SqT K H aE [])
    (m1 : ∃ fd, Fun K "deeds" "Book.deeds" (inClass (top 40) 1) f1 fd ∧ Binds K fd ["self"] []) (m3 : ∃ fd, Fun K "last" "Book.last" (inClass (top 40) 3) f3 fd ∧ Binds K fd ["self", "hand"] [])
    (m4 : ∃ fd, Fun K "__getitem__" "Book.__getitem__" (inClass (top 40) 8) f4 fd ∧ Binds K fd ["self", "at"] []) (m5 : ∃ fd, Fun K "__contains__" "Book.__contains__" (inClass (top 40) 9) f5 fd ∧ Binds K fd ["self", "x"] []) (m6 : ∃ fd, Fun K "__len__" "Book.__len__" (inClass (top 40) 10) f6 fd ∧ Binds K fd ["self"] [])
    (m7 : ∃ fd, Fun K "__eq__" "Book.__eq__" (inClass (top 40) 12) f7 fd ∧ Binds K fd ["self", "other"] []) (m8 : ∃ fd, Fun K "__iter__" "Book.__iter__" (inClass (top 40) 11) f8 fd ∧ Binds K fd ["self"] []) (m9 : ∃ fd, Fun K "with_deeds" "Book.with_deeds" (inClass (top 40) 4) f9 fd ∧ Binds K fd ["self", "more"] []) (mR : PySem.W.nsIn K mainGlobals "ROOT" = some (some (.ref aR))) (tR : ∀ H, SqT K H aR [.int 0, .int 0]) (mo : PySem.W.nsIn K mainGlobals "MOST_DEEDS" = some (some (.int 60 tM)))
    (hz : mg "zip" = none) (he : mg "enumerate" = none) (hs : mg "set" = none) : BkAll K mg C c := by
  unfold bkB at b
  simp only [Bool.and_eq_true, decide_eq_true_eq, List.all_cons, List.all_nil] at b
  obtain ⟨⟨a1, a2, a3, a4⟩, ⟨n1, n2, n3, n4, _⟩, ⟨t1, t2, t3, t4, t5⟩, ⟨k1, k2, k3, k4⟩, ⟨⟨d1, d2, d3⟩, ⟨s1, s2, s3⟩, ⟨g1, g2, g3⟩, ⟨h1, h2, h3⟩, ⟨e1, e2, e3⟩, ⟨q1, q2, q3⟩, ⟨r1, r2, r3⟩, ⟨y1, y2, y3⟩, _⟩, fn4, ne1, no1⟩ := b
  obtain ⟨x0, F0, B0, B0'⟩ := ini
  obtain ⟨x1, F1, B1⟩ := m1
  obtain ⟨x3, F3, B3⟩ := m3
  obtain ⟨x4, F4, B4⟩ := m4
  obtain ⟨x5, F5, B5⟩ := m5
  obtain ⟨x6, F6, B6⟩ := m6
  obtain ⟨x7, F7, B7⟩ := m7
  obtain ⟨x8, F8, B8⟩ := m8
  obtain ⟨x9, F9, B9⟩ := m9
  exact ⟨⟨⟨a1, a2, a3, a4⟩, n1, n2, n3, n4, PySem.W.mg_of X G a⟩, ⟨t1, t2, t3, t4, t5⟩, ⟨_, Rb⟩, ⟨_, Rm⟩, ⟨_, Rc⟩, ⟨_, Ru⟩, ⟨_, Rs⟩, ⟨_, Rh⟩, ⟨_, _, _, F0, ⟨k1, k2, k3, k4⟩, B0, B0', hE⟩, ⟨_, _, F1, B1, ⟨d1, d2, d3⟩⟩, ⟨_, _, F9, B9, ⟨y1, y2, y3⟩⟩, ⟨_, _, F3, B3, ⟨s1, s2, s3⟩⟩,
    ⟨_, _, F4, B4, g1, fn4, g2⟩, ⟨_, _, F5, B5, h1, h2⟩, ⟨_, _, F6, B6, e1, e2⟩, ⟨_, _, F7, B7, q1, q2⟩, ⟨_, _, F8, B8, r1, r2, r3⟩, ne1, no1, ⟨_, Rbr⟩, ⟨_, PySem.W.mg_of X G mR, tR⟩, ⟨_, PySem.W.mg_of X G mo⟩, hz, he, hs⟩
/-- which error is which -/
def exqB (K : PySem.W.Frag) (c2 c3 c4 c6 : Addr) : Bool :=
  (decide (PySem.W.exmOne K (.ref c2) (.ref c2) = some true) && (decide (PySem.W.exmOne K (.ref c3) (.ref c2) = some false) && (decide (PySem.W.exmOne K (.ref c3) (.ref c3) = some true) && (decide (PySem.W.exmOne K (.ref c4) (.ref c4) = some true) &&
  (decide (PySem.W.exmOne K (.ref c6) (.ref c4) = some false) && (decide (PySem.W.exmOne K (.ref c6) (.ref c6) = some true) && (xfB K c4 && (xfB K c6 && (decide (PySem.W.findIn K (.ref c4) "told" = some none) && decide (PySem.W.findIn K (.ref c6) "told" = some none))))))))))
theorem exq_mk {K : PySem.W.Frag} {mg : Str → Option Value} {C : Addr} {c : Nat → Addr} (W : BkAll K mg C c) (b : exqB K (c 2) (c 3) (c 4) (c 6) = true) : Exq K mg c := by
  unfold exqB at b
  simp only [Bool.and_eq_true, decide_eq_true_eq] at b
  obtain ⟨h1, h2, h3, h4, h5, h6, h7, h8, h9, h10⟩ := b
  obtain ⟨_, Rc⟩ := W.Rc
  obtain ⟨_, Ru⟩ := W.Ru
  obtain ⟨_, Rs⟩ := W.Rs
  obtain ⟨_, Rbr⟩ := W.Rbr
  exact ⟨Rc.mg, Ru.mg, Rbr.mg, Rs.mg, h1, h2, h3, h4, h5, h6, xfB_ok h7, xfB_ok h8, h9, h10⟩
/-- the law, at its call -/
theorem good_all {P : Program} {w : World} {K : PySem.W.Frag} {h : Heap} {mg : Str → Option Value} {cA : Nat → Addr} {fa C cL cB tB : Addr} (X : K.In h) (G : h.Ns mainGlobals mg) (hfa : mg "law" = some (.ref fa)) (nb : namesB K = true) (cn : Cn K mg)
    (dn : ∀ i x ps, tabL.lookup i = some (x, ps) → ∃ g fd, Dn K mg x ps (top i) g fd) (W : BkAll K mg C cA)
    (xb : exqB K (cA 2) (cA 3) (cA 4) (cA 6) = true)
    (DB : ∃ g fd, Dn K mg "_law_refuses" ["_law_source", "_law_book", "_law_branch"] (top 82) g fd ∧ FunC K "_law_refuses" "_law_refuses" (top 82) g fd cB)
    (DL : ∃ g fd, Dn K mg "law" ["_law_script"] (top 83) g fd ∧ FunC K "law" "law" (top 83) g fd cL) :
    GoodT P w K mg fa 63 [(cB, tB)] := by
  intro base s H a ns hl TB e0 S hS
  obtain ⟨b1, b2, b3, b4, _, _, _, b8⟩ := names_of X G nb
  have T : All K mg := ⟨dn, b1, cn⟩
  obtain ⟨gl, fdl, Dl, Fl⟩ := DL
  obtain ⟨gb, fdb, Db, Fb⟩ := DB
  have eq := hfa.symm.trans Dl.mg
  cases eq
  have XQ := exq_mk W xb
  obtain ⟨gc, fdc, Dc⟩ := dn 81 _ _ rfl
  have TB1 := TB (cB, tB) (.head _)
  have SB := S.tab (cB, tB) (.head _)
  have hB : (tB, qR) ∈ [(tB, qR)] := .head _
  have uB : ∀ p ∈ [(tB, qR)], p.1 = tB → p.2 = qR := fun p hp e => by
    rw [List.mem_singleton.mp hp]
  have tabs : Tabs [(tB, qR)] H := fun p hp => by
    rw [List.mem_singleton.mp hp]
    exact TabS.nil SB
  have DB : ClG P w K mg base 18 "_law_refuses" ["_law_source", "_law_book", "_law_branch"] (spRefs K C [(tB, qR)]) := ⟨_, _, ok_refuses T b2 b3 W XQ b8 Dc Fb TB1 hB uB, Db.mg, Db.fn.kp, Db.bn⟩
  have L := ok_law12 T b2 b3 b4 W XQ b8 DB Fl
  have hb := Dl.bn s [.ref a] (fun b o e => (e0.bs b o (e0.mod.kin b o e)).1) rfl
  exact L.run callerA [] s H ⟨[.ref a], []⟩ [.ref a] [.ref a] _ _ rfl ⟨rfl, by decide, by decide⟩ e0 hb (.cons rfl .nil) ⟨a, ns, rfl, hS, tabs, fun H' => rfl⟩
theorem good_S {l : PySem.W.OpenLaw} {w : World} {K : PySem.W.Frag} {h : Heap} {mg : Str → Option Value} {fa cB tB : Addr} (X : K.In h) (hT : ∀ p ∈ [tB], h.get? p = some { cls := .none, data := .fields #[] })
    (n1 : K.lookup tB = none) (h1 : PySem.W.codeHdIn K cB tB = true) (g : GoodT l.prog w K mg fa 63 [(cB, tB)]) : GoodAtS l w K 63 mg fa h := by
  have one : ∀ {Q : Addr × Addr → Prop}, Q (cB, tB) → ∀ p ∈ [(cB, tB)], Q p := fun q p hp => by
    rw [List.mem_singleton.mp hp]
    exact q
  exact ⟨_, one (hT tB (.head _)), one n1, one (PySem.W.codeHd_of_K X h1), g⟩
end K1
open PySem PySem.W PyProof.Rows
set_option maxRecDepth 100000 in
set_option maxHeartbeats 0 in
theorem PySem.Challenge.cw_sharedscopes_k12_news_and_what_is_lackin_holds : PySem.Challenge.rw_sharedscopes_k12_news_and_what_is_lackin.Holds := by
  w_on; o_law; k_head; (case hw => w_witness2)
  k_fill
  refine K1.walk_tabs (n := 63) rfl (by decide) rfl (fun w h Y => PySem.W.km_in_of Y) ?F
  case F =>
    intro w mg fa h Y KX G hmg
    have hT := PySem.W.km_tabs_of Y
    refine' K1.good_S (cB := 619) (tB := 615) KX hT ?n1 ?h1 ?g
    (case n1 => kernel_rfl)
    (case h1 => kernel_rfl)
    case g =>
      have Z := K1.names_of KX G (by kernel_rfl)
      obtain ⟨_, _, _, _, Z1, Z2, Z3, _⟩ := Z
      refine' K1.good_all (cA := K1.cA) (C := 376) (cL := 626) KX G hmg ?nb ?cn ?dn ?W ?xb ?DB ?DL
      (case nb => kernel_rfl)
      case cn =>
        refine' K1.cn_mk KX G ?m ?ho ?sh ?ma ?sm ?hle
        (case m => k_is)
        (case ho => k_is)
        (case sh => refine' K1.sqt_four ?l; (case l => k_is))
        (case ma => k_is)
        (case sm => refine' K1.sqt_two ?l; (case l => k_is))
        (case hle => k_is)
      case W =>
        refine' K1.bk_all (C := 376) (fI := 289) (f1 := 296) (f3 := 310) (f4 := 345) (f5 := 352) (f6 := 359) (f7 := 373) (f8 := 366) (f9 := 317) (aE := 283) (aR := 167) (fB := 68) (fM := 160) (fC := 68) (fU := 68) (fS := 68) (fH := 68) (fN := 68) KX G ?a ?b ?Rb ?Rm ?Rc ?Ru ?Rs ?Rh ?Rn ?wini ?hE ?m1 ?m3 ?m4 ?m5 ?m6 ?m7 ?m8 ?m9 ?mR ?tR ?mo Z1 Z2 Z3
        (case a => k_is)
        (case b => kernel_rfl)
        case Rb =>
          refine' K1.er_mk KX G ?a ?l ?r ?b ?ini
          (case a => k_is)
          (case l => k_is)
          (case r => kernel_rfl)
          (case b => kernel_rfl)
          case ini =>
            refine' K1.mf_mk ?l ?c ?k ?b
            (case l => k_is)
            (case c => k_is)
            (case k => k_is)
            (case b => exact fun _ _ _ _ _ _ us hl => match us, hl with | [_, _], _ => rfl)
        case Rc =>
          refine' K1.er_mk KX G ?a ?l ?r ?b ?ini
          (case a => k_is)
          (case l => k_is)
          (case r => kernel_rfl)
          (case b => kernel_rfl)
          case ini =>
            refine' K1.mf_mk ?l ?c ?k ?b
            (case l => k_is)
            (case c => k_is)
            (case k => k_is)
            (case b => exact fun _ _ _ _ _ _ us hl => match us, hl with | [_, _], _ => rfl)
        case Ru =>
          refine' K1.er_mk KX G ?a ?l ?r ?b ?ini
          (case a => k_is)
          (case l => k_is)
          (case r => kernel_rfl)
          (case b => kernel_rfl)
          case ini =>
            refine' K1.mf_mk ?l ?c ?k ?b
            (case l => k_is)
            (case c => k_is)
            (case k => k_is)
            (case b => exact fun _ _ _ _ _ _ us hl => match us, hl with | [_, _], _ => rfl)
        case Rs =>
          refine' K1.er_mk KX G ?a ?l ?r ?b ?ini
          (case a => k_is)
          (case l => k_is)
          (case r => kernel_rfl)
          (case b => kernel_rfl)
          case ini =>
            refine' K1.mf_mk ?l ?c ?k ?b
            (case l => k_is)
            (case c => k_is)
            (case k => k_is)
            (case b => exact fun _ _ _ _ _ _ us hl => match us, hl with | [_, _], _ => rfl)
        case Rh =>
          refine' K1.er_mk KX G ?a ?l ?r ?b ?ini
          (case a => k_is)
          (case l => k_is)
          (case r => kernel_rfl)
          (case b => kernel_rfl)
          case ini =>
            refine' K1.mf_mk ?l ?c ?k ?b
            (case l => k_is)
            (case c => k_is)
            (case k => k_is)
            (case b => exact fun _ _ _ _ _ _ us hl => match us, hl with | [_, _], _ => rfl)
        case Rn =>
          refine' K1.er_mk KX G ?a ?l ?r ?b ?ini
          (case a => k_is)
          (case l => k_is)
          (case r => kernel_rfl)
          (case b => kernel_rfl)
          case ini =>
            refine' K1.mf_mk ?l ?c ?k ?b
            (case l => k_is)
            (case c => k_is)
            (case k => k_is)
            (case b => exact fun _ _ _ _ _ _ us hl => match us, hl with | [_, _], _ => rfl)
        case Rm =>
          refine' K1.erM_mk KX G ?a ?l ?b ?li ?cc
          (case a => k_is)
          (case l => k_is)
          (case b => kernel_rfl)
          (case li => k_is)
          (case cc => k_is)
        case wini =>
          refine' K1.bk_ini (dT := 284) ?l ?c ?lt
          (case l => k_is)
          (case c => k_is)
          (case lt => k_is)
        (case hE => refine' K1.sqt_nil ?l; (case l => k_is))
        case m1 =>
          refine' K1.mf_mk ?l ?c ?k ?b
          (case l => k_is)
          (case c => k_is)
          (case k => k_is)
          (case b => exact fun _ _ _ _ _ _ us hl => match us, hl with | [_], _ => rfl)
        case m3 =>
          refine' K1.mf_mk ?l ?c ?k ?b
          (case l => k_is)
          (case c => k_is)
          (case k => k_is)
          (case b => exact fun _ _ _ _ _ _ us hl => match us, hl with | [_, _], _ => rfl)
        case m4 =>
          refine' K1.mf_mk ?l ?c ?k ?b
          (case l => k_is)
          (case c => k_is)
          (case k => k_is)
          (case b => exact fun _ _ _ _ _ _ us hl => match us, hl with | [_, _], _ => rfl)
        case m5 =>
          refine' K1.mf_mk ?l ?c ?k ?b
          (case l => k_is)
          (case c => k_is)
          (case k => k_is)
          (case b => exact fun _ _ _ _ _ _ us hl => match us, hl with | [_, _], _ => rfl)
        case m6 =>
          refine' K1.mf_mk ?l ?c ?k ?b
          (case l => k_is)
          (case c => k_is)
          (case k => k_is)
          (case b => exact fun _ _ _ _ _ _ us hl => match us, hl with | [_], _ => rfl)
        case m7 =>
          refine' K1.mf_mk ?l ?c ?k ?b
          (case l => k_is)
          (case c => k_is)
          (case k => k_is)
          (case b => exact fun _ _ _ _ _ _ us hl => match us, hl with | [_, _], _ => rfl)
        case m8 =>
          refine' K1.mf_mk ?l ?c ?k ?b
          (case l => k_is)
          (case c => k_is)
          (case k => k_is)
          (case b => exact fun _ _ _ _ _ _ us hl => match us, hl with | [_], _ => rfl)
        case m9 =>
          refine' K1.mf_mk ?l ?c ?k ?b
          (case l => k_is)
          (case c => k_is)
          (case k => k_is)
          (case b => exact fun _ _ _ _ _ _ us hl => match us, hl with | [_, _], _ => rfl)
        (case mR => k_is)
        (case tR => refine' K1.sqt_ints ?l; (case l => k_is))
        (case mo => k_is)
      (case xb => kernel_rfl)
      case DB =>
        refine' K1.dc_mk KX G ?a ?l ?c ?k ?b
        (case a => k_is); (case l => k_is); (case c => k_is); (case k => k_is); (case b => exact fun _ _ _ _ _ _ us hl => match us, hl with | [_, _, _], _ => rfl)
      case DL =>
        refine' K1.dc_mk KX G ?a ?l ?c ?k ?b
        (case a => k_is); (case l => k_is); (case c => k_is); (case k => k_is); (case b => exact fun _ _ _ _ _ _ us hl => match us, hl with | [_], _ => rfl)
      case dn =>
        refine' K1.dn_cons ?d ?r
        case d =>
          refine' K1.dn_mk KX G ?a ?l ?c ?k ?b
          (case a => k_is); (case l => k_is); (case c => k_is); (case k => k_is); (case b => exact fun _ _ _ _ _ _ us hl => match us, hl with | [_], _ => rfl)
        case r =>
         refine' K1.dn_cons ?d ?r
         case d =>
           refine' K1.dn_mk KX G ?a ?l ?c ?k ?b
           (case a => k_is); (case l => k_is); (case c => k_is); (case k => k_is); (case b => exact fun _ _ _ _ _ _ us hl => match us, hl with | [_], _ => rfl)
         case r =>
          refine' K1.dn_cons ?d ?r
          case d =>
            refine' K1.dn_mk KX G ?a ?l ?c ?k ?b
            (case a => k_is); (case l => k_is); (case c => k_is); (case k => k_is); (case b => exact fun _ _ _ _ _ _ us hl => match us, hl with | [_, _, _], _ => rfl)
          case r =>
           refine' K1.dn_cons ?d ?r
           case d =>
             refine' K1.dn_mk KX G ?a ?l ?c ?k ?b
             (case a => k_is); (case l => k_is); (case c => k_is); (case k => k_is); (case b => exact fun _ _ _ _ _ _ us hl => match us, hl with | [_, _], _ => rfl)
           case r =>
            refine' K1.dn_cons ?d ?r
            case d =>
              refine' K1.dn_mk KX G ?a ?l ?c ?k ?b
              (case a => k_is); (case l => k_is); (case c => k_is); (case k => k_is); (case b => exact fun _ _ _ _ _ _ us hl => match us, hl with | [_], _ => rfl)
            case r =>
             refine' K1.dn_cons ?d ?r
             case d =>
               refine' K1.dn_mk KX G ?a ?l ?c ?k ?b
               (case a => k_is); (case l => k_is); (case c => k_is); (case k => k_is); (case b => exact fun _ _ _ _ _ _ us hl => match us, hl with | [_, _], _ => rfl)
             case r =>
              refine' K1.dn_cons ?d ?r
              case d =>
                refine' K1.dn_mk KX G ?a ?l ?c ?k ?b
                (case a => k_is); (case l => k_is); (case c => k_is); (case k => k_is); (case b => exact fun _ _ _ _ _ _ us hl => match us, hl with | [_], _ => rfl)
              case r =>
               refine' K1.dn_cons ?d ?r
               case d =>
                 refine' K1.dn_mk KX G ?a ?l ?c ?k ?b
                 (case a => k_is); (case l => k_is); (case c => k_is); (case k => k_is); (case b => exact fun _ _ _ _ _ _ us hl => match us, hl with | [_], _ => rfl)
               case r =>
                refine' K1.dn_cons ?d ?r
                case d =>
                  refine' K1.dn_mk KX G ?a ?l ?c ?k ?b
                  (case a => k_is); (case l => k_is); (case c => k_is); (case k => k_is); (case b => exact fun _ _ _ _ _ _ us hl => match us, hl with | [_], _ => rfl)
                case r =>
                 refine' K1.dn_cons ?d ?r
                 case d =>
                   refine' K1.dn_mk KX G ?a ?l ?c ?k ?b
                   (case a => k_is); (case l => k_is); (case c => k_is); (case k => k_is); (case b => exact fun _ _ _ _ _ _ us hl => match us, hl with | [_], _ => rfl)
                 case r =>
                  refine' K1.dn_cons ?d ?r
                  case d =>
                    refine' K1.dn_mk KX G ?a ?l ?c ?k ?b
                    (case a => k_is); (case l => k_is); (case c => k_is); (case k => k_is); (case b => exact fun _ _ _ _ _ _ us hl => match us, hl with | [_], _ => rfl)
                  case r =>
                   refine' K1.dn_cons ?d ?r
                   case d =>
                     refine' K1.dn_mk KX G ?a ?l ?c ?k ?b
                     (case a => k_is); (case l => k_is); (case c => k_is); (case k => k_is); (case b => exact fun _ _ _ _ _ _ us hl => match us, hl with | [_], _ => rfl)
                   case r =>
                    refine' K1.dn_cons ?d ?r
                    case d =>
                      refine' K1.dn_mk KX G ?a ?l ?c ?k ?b
                      (case a => k_is); (case l => k_is); (case c => k_is); (case k => k_is); (case b => exact fun _ _ _ _ _ _ us hl => match us, hl with | [_], _ => rfl)
                    case r =>
                     refine' K1.dn_cons ?d ?r
                     case d =>
                       refine' K1.dn_mk KX G ?a ?l ?c ?k ?b
                       (case a => k_is); (case l => k_is); (case c => k_is); (case k => k_is); (case b => exact fun _ _ _ _ _ _ us hl => match us, hl with | [_, _], _ => rfl)
                     case r =>
                      refine' K1.dn_cons ?d ?r
                      case d =>
                        refine' K1.dn_mk KX G ?a ?l ?c ?k ?b
                        (case a => k_is); (case l => k_is); (case c => k_is); (case k => k_is); (case b => exact fun _ _ _ _ _ _ us hl => match us, hl with | [_], _ => rfl)
                      case r =>
                       refine' K1.dn_cons ?d ?r
                       case d =>
                         refine' K1.dn_mk KX G ?a ?l ?c ?k ?b
                         (case a => k_is); (case l => k_is); (case c => k_is); (case k => k_is); (case b => exact fun _ _ _ _ _ _ us hl => match us, hl with | [_, _], _ => rfl)
                       case r =>
                        refine' K1.dn_cons ?d ?r
                        case d =>
                          refine' K1.dn_mk KX G ?a ?l ?c ?k ?b
                          (case a => k_is); (case l => k_is); (case c => k_is); (case k => k_is); (case b => exact fun _ _ _ _ _ _ us hl => match us, hl with | [_, _], _ => rfl)
                        case r =>
                         refine' K1.dn_cons ?d ?r
                         case d =>
                           refine' K1.dn_mk KX G ?a ?l ?c ?k ?b
                           (case a => k_is); (case l => k_is); (case c => k_is); (case k => k_is); (case b => exact fun _ _ _ _ _ _ us hl => match us, hl with | [_], _ => rfl)
                         case r =>
                          refine' K1.dn_cons ?d ?r
                          case d =>
                            refine' K1.dn_mk KX G ?a ?l ?c ?k ?b
                            (case a => k_is); (case l => k_is); (case c => k_is); (case k => k_is); (case b => exact fun _ _ _ _ _ _ us hl => match us, hl with | [_], _ => rfl)
                          case r =>
                           refine' K1.dn_cons ?d ?r
                           case d =>
                             refine' K1.dn_mk KX G ?a ?l ?c ?k ?b
                             (case a => k_is); (case l => k_is); (case c => k_is); (case k => k_is); (case b => exact fun _ _ _ _ _ _ us hl => match us, hl with | [_], _ => rfl)
                           case r =>
                            refine' K1.dn_cons ?d ?r
                            case d =>
                              refine' K1.dn_mk KX G ?a ?l ?c ?k ?b
                              (case a => k_is); (case l => k_is); (case c => k_is); (case k => k_is); (case b => exact fun _ _ _ _ _ _ us hl => match us, hl with | [_, _], _ => rfl)
                            case r =>
                             refine' K1.dn_cons ?d ?r
                             case d =>
                               refine' K1.dn_mk KX G ?a ?l ?c ?k ?b
                               (case a => k_is); (case l => k_is); (case c => k_is); (case k => k_is); (case b => exact fun _ _ _ _ _ _ us hl => match us, hl with | [_], _ => rfl)
                             case r =>
                              refine' K1.dn_cons ?d ?r
                              case d =>
                                refine' K1.dn_mk KX G ?a ?l ?c ?k ?b
                                (case a => k_is); (case l => k_is); (case c => k_is); (case k => k_is); (case b => exact fun _ _ _ _ _ _ us hl => match us, hl with | [_], _ => rfl)
                              case r =>
                               refine' K1.dn_cons ?d ?r
                               case d =>
                                 refine' K1.dn_mk KX G ?a ?l ?c ?k ?b
                                 (case a => k_is); (case l => k_is); (case c => k_is); (case k => k_is); (case b => exact fun _ _ _ _ _ _ us hl => match us, hl with | [_, _], _ => rfl)
                               case r =>
                                refine' K1.dn_cons ?d ?r
                                case d =>
                                  refine' K1.dn_mk KX G ?a ?l ?c ?k ?b
                                  (case a => k_is); (case l => k_is); (case c => k_is); (case k => k_is); (case b => exact fun _ _ _ _ _ _ us hl => match us, hl with | [_, _], _ => rfl)
                                case r =>
                                 refine' K1.dn_cons ?d ?r
                                 case d =>
                                   refine' K1.dn_mk KX G ?a ?l ?c ?k ?b
                                   (case a => k_is); (case l => k_is); (case c => k_is); (case k => k_is); (case b => exact fun _ _ _ _ _ _ us hl => match us, hl with | [_], _ => rfl)
                                 case r =>
                                  refine' K1.dn_cons ?d ?r
                                  case d =>
                                    refine' K1.dn_mk KX G ?a ?l ?c ?k ?b
                                    (case a => k_is); (case l => k_is); (case c => k_is); (case k => k_is); (case b => exact fun _ _ _ _ _ _ us hl => match us, hl with | [_], _ => rfl)
                                  case r =>
                                   refine' K1.dn_cons ?d ?r
                                   case d =>
                                     refine' K1.dn_mk KX G ?a ?l ?c ?k ?b
                                     (case a => k_is); (case l => k_is); (case c => k_is); (case k => k_is); (case b => exact fun _ _ _ _ _ _ us hl => match us, hl with | [_, _], _ => rfl)
                                   case r =>
                                    refine' K1.dn_cons ?d ?r
                                    case d =>
                                      refine' K1.dn_mk KX G ?a ?l ?c ?k ?b
                                      (case a => k_is); (case l => k_is); (case c => k_is); (case k => k_is); (case b => exact fun _ _ _ _ _ _ us hl => match us, hl with | [_, _], _ => rfl)
                                    case r =>
                                     refine' K1.dn_cons ?d ?r
                                     case d =>
                                       refine' K1.dn_mk KX G ?a ?l ?c ?k ?b
                                       (case a => k_is); (case l => k_is); (case c => k_is); (case k => k_is); (case b => exact fun _ _ _ _ _ _ us hl => match us, hl with | [_], _ => rfl)
                                     case r =>
                                      refine' K1.dn_cons ?d ?r
                                      case d =>
                                        refine' K1.dn_mk KX G ?a ?l ?c ?k ?b
                                        (case a => k_is); (case l => k_is); (case c => k_is); (case k => k_is); (case b => exact fun _ _ _ _ _ _ us hl => match us, hl with | [_, _], _ => rfl)
                                      case r =>
                                       refine' K1.dn_cons ?d ?r
                                       case d =>
                                         refine' K1.dn_mk KX G ?a ?l ?c ?k ?b
                                         (case a => k_is); (case l => k_is); (case c => k_is); (case k => k_is); (case b => exact fun _ _ _ _ _ _ us hl => match us, hl with | [_, _, _], _ => rfl)
                                       case r =>
                                        refine' K1.dn_cons ?d ?r
                                        case d =>
                                          refine' K1.dn_mk KX G ?a ?l ?c ?k ?b
                                          (case a => k_is); (case l => k_is); (case c => k_is); (case k => k_is); (case b => exact fun _ _ _ _ _ _ us hl => match us, hl with | [_, _], _ => rfl)
                                        case r =>
                                         refine' K1.dn_cons ?d ?r
                                         case d =>
                                           refine' K1.dn_mk KX G ?a ?l ?c ?k ?b
                                           (case a => k_is); (case l => k_is); (case c => k_is); (case k => k_is); (case b => exact fun _ _ _ _ _ _ us hl => match us, hl with | [_, _, _], _ => rfl)
                                         case r =>
                                          refine' K1.dn_cons ?d ?r
                                          case d =>
                                            refine' K1.dn_mk KX G ?a ?l ?c ?k ?b
                                            (case a => k_is); (case l => k_is); (case c => k_is); (case k => k_is); (case b => exact fun _ _ _ _ _ _ us hl => match us, hl with | [_, _, _], _ => rfl)
                                          case r =>
                                           refine' K1.dn_cons ?d ?r
                                           case d =>
                                             refine' K1.dn_mk KX G ?a ?l ?c ?k ?b
                                             (case a => k_is); (case l => k_is); (case c => k_is); (case k => k_is); (case b => exact fun _ _ _ _ _ _ us hl => match us, hl with | [_, _], _ => rfl)
                                           case r =>
                                            refine' K1.dn_cons ?d ?r
                                            case d =>
                                              refine' K1.dn_mk KX G ?a ?l ?c ?k ?b
                                              (case a => k_is); (case l => k_is); (case c => k_is); (case k => k_is); (case b => exact fun _ _ _ _ _ _ us hl => match us, hl with | [_, _], _ => rfl)
                                            case r =>
                                             refine' K1.dn_cons ?d ?r
                                             case d =>
                                               refine' K1.dn_mk KX G ?a ?l ?c ?k ?b
                                               (case a => k_is); (case l => k_is); (case c => k_is); (case k => k_is); (case b => exact fun _ _ _ _ _ _ us hl => match us, hl with | [_], _ => rfl)
                                             case r =>
                                              refine' K1.dn_cons ?d ?r
                                              case d =>
                                                refine' K1.dn_mk KX G ?a ?l ?c ?k ?b
                                                (case a => k_is); (case l => k_is); (case c => k_is); (case k => k_is); (case b => exact fun _ _ _ _ _ _ us hl => match us, hl with | [_, _], _ => rfl)
                                              case r =>
                                               refine' K1.dn_cons ?d ?r
                                               case d =>
                                                 refine' K1.dn_mk KX G ?a ?l ?c ?k ?b
                                                 (case a => k_is); (case l => k_is); (case c => k_is); (case k => k_is); (case b => exact fun _ _ _ _ _ _ us hl => match us, hl with | [_, _], _ => rfl)
                                               case r =>
                                                refine' K1.dn_cons ?d ?r
                                                case d =>
                                                  refine' K1.dn_mk KX G ?a ?l ?c ?k ?b
                                                  (case a => k_is); (case l => k_is); (case c => k_is); (case k => k_is); (case b => exact fun _ _ _ _ _ _ us hl => match us, hl with | [_, _], _ => rfl)
                                                case r =>
                                                 refine' K1.dn_cons ?d ?r
                                                 case d =>
                                                   refine' K1.dn_mk KX G ?a ?l ?c ?k ?b
                                                   (case a => k_is); (case l => k_is); (case c => k_is); (case k => k_is); (case b => exact fun _ _ _ _ _ _ us hl => match us, hl with | [_, _], _ => rfl)
                                                 case r =>
                                                  refine' K1.dn_cons ?d ?r
                                                  case d =>
                                                    refine' K1.dn_mk KX G ?a ?l ?c ?k ?b
                                                    (case a => k_is); (case l => k_is); (case c => k_is); (case k => k_is); (case b => exact fun _ _ _ _ _ _ us hl => match us, hl with | [_, _], _ => rfl)
                                                  case r =>
                                                   refine' K1.dn_cons ?d ?r
                                                   case d =>
                                                     refine' K1.dn_mk KX G ?a ?l ?c ?k ?b
                                                     (case a => k_is); (case l => k_is); (case c => k_is); (case k => k_is); (case b => exact fun _ _ _ _ _ _ us hl => match us, hl with | [_], _ => rfl)
                                                   case r =>
                                                    refine' K1.dn_cons ?d ?r
                                                    case d =>
                                                      refine' K1.dn_mk KX G ?a ?l ?c ?k ?b
                                                      (case a => k_is); (case l => k_is); (case c => k_is); (case k => k_is); (case b => exact fun _ _ _ _ _ _ us hl => match us, hl with | [_], _ => rfl)
                                                    case r =>
                                                     refine' K1.dn_cons ?d ?r
                                                     case d =>
                                                       refine' K1.dn_mk KX G ?a ?l ?c ?k ?b
                                                       (case a => k_is); (case l => k_is); (case c => k_is); (case k => k_is); (case b => exact fun _ _ _ _ _ _ us hl => match us, hl with | [_, _], _ => rfl)
                                                     case r =>
                                                      refine' K1.dn_cons ?d ?r
                                                      case d =>
                                                        refine' K1.dn_mk KX G ?a ?l ?c ?k ?b
                                                        (case a => k_is); (case l => k_is); (case c => k_is); (case k => k_is); (case b => exact fun _ _ _ _ _ _ us hl => match us, hl with | [_, _, _], _ => rfl)
                                                      case r =>
                                                       refine' K1.dn_cons ?d ?r
                                                       case d =>
                                                         refine' K1.dn_mk KX G ?a ?l ?c ?k ?b
                                                         (case a => k_is); (case l => k_is); (case c => k_is); (case k => k_is); (case b => exact fun _ _ _ _ _ _ us hl => match us, hl with | [_, _, _], _ => rfl)
                                                       case r =>
                                                        refine' K1.dn_cons ?d ?r
                                                        case d =>
                                                          refine' K1.dn_mk KX G ?a ?l ?c ?k ?b
                                                          (case a => k_is); (case l => k_is); (case c => k_is); (case k => k_is); (case b => exact fun _ _ _ _ _ _ us hl => match us, hl with | [_], _ => rfl)
                                                        case r =>
                                                         refine' K1.dn_cons ?d ?r
                                                         case d =>
                                                           refine' K1.dn_mk KX G ?a ?l ?c ?k ?b
                                                           (case a => k_is); (case l => k_is); (case c => k_is); (case k => k_is); (case b => exact fun _ _ _ _ _ _ us hl => match us, hl with | [_, _], _ => rfl)
                                                         case r =>
                                                          refine' K1.dn_cons ?d ?r
                                                          case d =>
                                                            refine' K1.dn_mk KX G ?a ?l ?c ?k ?b
                                                            (case a => k_is); (case l => k_is); (case c => k_is); (case k => k_is); (case b => exact fun _ _ _ _ _ _ us hl => match us, hl with | [_, _], _ => rfl)
                                                          case r =>
                                                           refine' K1.dn_cons ?d ?r
                                                           case d =>
                                                             refine' K1.dn_mk KX G ?a ?l ?c ?k ?b
                                                             (case a => k_is); (case l => k_is); (case c => k_is); (case k => k_is); (case b => exact fun _ _ _ _ _ _ us hl => match us, hl with | [_, _, _, _], _ => rfl)
                                                           case r =>
                                                            refine' K1.dn_cons ?d ?r
                                                            case d =>
                                                              refine' K1.dn_mk KX G ?a ?l ?c ?k ?b
                                                              (case a => k_is); (case l => k_is); (case c => k_is); (case k => k_is); (case b => exact fun _ _ _ _ _ _ us hl => match us, hl with | [_, _], _ => rfl)
                                                            case r =>
                                                             refine' K1.dn_cons ?d ?r
                                                             case d =>
                                                               refine' K1.dn_mk KX G ?a ?l ?c ?k ?b
                                                               (case a => k_is); (case l => k_is); (case c => k_is); (case k => k_is); (case b => exact fun _ _ _ _ _ _ us hl => match us, hl with | [_, _, _], _ => rfl)
                                                             case r =>
                                                              refine' K1.dn_cons ?d ?r
                                                              case d =>
                                                                refine' K1.dn_mk KX G ?a ?l ?c ?k ?b
                                                                (case a => k_is); (case l => k_is); (case c => k_is); (case k => k_is); (case b => exact fun _ _ _ _ _ _ us hl => match us, hl with | [_], _ => rfl)
                                                              case r =>
                                                               refine' K1.dn_cons ?d ?r
                                                               case d =>
                                                                 refine' K1.dn_mk KX G ?a ?l ?c ?k ?b
                                                                 (case a => k_is); (case l => k_is); (case c => k_is); (case k => k_is); (case b => exact fun _ _ _ _ _ _ us hl => match us, hl with | [_, _], _ => rfl)
                                                               case r =>
                                                                refine' K1.dn_cons ?d ?r
                                                                case d =>
                                                                  refine' K1.dn_mk KX G ?a ?l ?c ?k ?b
                                                                  (case a => k_is); (case l => k_is); (case c => k_is); (case k => k_is); (case b => exact fun _ _ _ _ _ _ us hl => match us, hl with | [_, _], _ => rfl)
                                                                case r =>
                                                                 refine' K1.dn_cons ?d ?r
                                                                 case d =>
                                                                   refine' K1.dn_mk KX G ?a ?l ?c ?k ?b
                                                                   (case a => k_is); (case l => k_is); (case c => k_is); (case k => k_is); (case b => exact fun _ _ _ _ _ _ us hl => match us, hl with | [_, _], _ => rfl)
                                                                 case r =>
                                                                  refine' K1.dn_cons ?d ?r
                                                                  case d =>
                                                                    refine' K1.dn_mk KX G ?a ?l ?c ?k ?b
                                                                    (case a => k_is); (case l => k_is); (case c => k_is); (case k => k_is); (case b => exact fun _ _ _ _ _ _ us hl => match us, hl with | [_, _, _, _], _ => rfl)
                                                                  case r =>
                                                                   refine' K1.dn_cons ?d ?r
                                                                   case d =>
                                                                     refine' K1.dn_mk KX G ?a ?l ?c ?k ?b
                                                                     (case a => k_is); (case l => k_is); (case c => k_is); (case k => k_is); (case b => exact fun _ _ _ _ _ _ us hl => match us, hl with | [_, _, _, _], _ => rfl)
                                                                   case r =>
                                                                    refine' K1.dn_cons ?d ?r
                                                                    case d =>
                                                                      refine' K1.dn_mk KX G ?a ?l ?c ?k ?b
                                                                      (case a => k_is); (case l => k_is); (case c => k_is); (case k => k_is); (case b => exact fun _ _ _ _ _ _ us hl => match us, hl with | [_], _ => rfl)
                                                                    case r =>
                                                                     refine' K1.dn_cons ?d ?r
                                                                     case d =>
                                                                       refine' K1.dn_mk KX G ?a ?l ?c ?k ?b
                                                                       (case a => k_is); (case l => k_is); (case c => k_is); (case k => k_is); (case b => exact fun _ _ _ _ _ _ us hl => match us, hl with | [_, _, _], _ => rfl)
                                                                     case r =>
                                                                      refine' K1.dn_cons ?d ?r
                                                                      case d =>
                                                                        refine' K1.dn_mk KX G ?a ?l ?c ?k ?b
                                                                        (case a => k_is); (case l => k_is); (case c => k_is); (case k => k_is); (case b => exact fun _ _ _ _ _ _ us hl => match us, hl with | [_], _ => rfl)
                                                                      case r =>
                                                                       exact K1.dn_nil
