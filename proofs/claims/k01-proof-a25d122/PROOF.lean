import PyProof.Rows.All
import Wide.All
import OpenK.AllK
import Wide.FinOn
import KE.KExcInit
import HandS.Base
import HandS.Call
import HandS.List
import HandS.Ends
import HandS.Exc
import HandS.ForMost
import HandS.ExcInit
import HandS.ExcIs
import HandS.IsInst
import KE.KExcIs
import HandS.Walk
import HandS.Wide
import HandS.TryMany
import HandS.ExcField
import HandS.WordsExc
import PyProof.NeKinds
import PyProof.NeData
import HandS.Steps
import HandS.Lambda
import HandS.TupSets
import HandS.SetBool
import HandS.TupAny
import PyProof.FitsInt
import HandS.Conv
import KE.KDictPairs
import KE.KDictSum
import KE.KDictKeyed
import HandS.EndTab
import PySem.Challenge.RW_sharedscopes_k01_deeds_and_names
set_option Elab.async false
set_option linter.all false
set_option maxRecDepth 100000
set_option maxHeartbeats 8000000
set_option maxHeartbeats 4000000
/-! errors of own classes, by inherited __init__, with and without keywords -/
namespace PySem
namespace K0X
open Builtin Builtin.ObjectAttr
/-- own classes, then a built-in's mro -/
def RefTail (bmB bm : List Value) : Prop := ∃ cs : List Addr, bm = cs.map Value.ref ++ bmB
theorem RefTail.contains {bmB bm : List Value} (T : RefTail bmB bm) (X : String) : bm.contains (.type X) = bmB.contains (.type X) := by
  obtain ⟨cs, rfl⟩ := T
  induction cs with
  | nil => rfl
  | cons c r ih =>
    rw [List.map_cons, List.cons_append, List.contains_cons, ih]; rfl
theorem RefTail.passes {bmB bm : List Value} (T : RefTail bmB bm) (self : Value) (h : refuseLoop self "__setattr__" bmB = pure ()) : refuseLoop self "__setattr__" bm = pure () := by
  obtain ⟨cs, rfl⟩ := T
  induction cs with
  | nil => exact h
  | cons c r ih =>
    rw [List.map_cons, List.cons_append, refuseLoop_ref]; exact ih

section
variable {prog : Program} {w : World} {A : Around} {E : Value → Shared → Prop} {R : Result → Shared → Prop} {h : Heap} {g : Array GenState} {d : Drawn} {t : Nat} {os : OsState}
variable {nm q : Str} {C N : Addr} {bs bm bmB : List Value} {hdct : Bool} {sn : List Str} {sub : List Value} {ab : Bool} {col : Option Bool} {dd : Option Addr} {k0 k1 k2 k3 k5 : Option Value} {B newId initId : String}
abbrev excO (C t : Addr) : Obj := { cls := .ref C, data := .fields #[.ref t, .none, .none, .none, .bool false, .none] }

theorem check_new_kw {M : Model} (F : ExcBaseFacts B newId initId bmB) (hT : ∀ X : String, bm.contains (.type X) = bmB.contains (.type X)) {rest : List Value} {kw : List (Str × Value)} {Q : Unit → Shared → Prop}
    (hC : h.get? C = some (excClassObj nm q C N bs bm hdct sn sub ab col dd k0 k1 k2 k3 k5 newId)) (hq : Q () ⟨h, g, d, t, os⟩) : wpAny M A (checkBuiltinCall newId ⟨.ref C :: rest, kw⟩) Q E ⟨h, g, d, t, os⟩ := by
  have hcont : (Value.ref C :: bm).contains (.type B) = true := by rw [List.contains_cons, hT, F.hasB, Bool.or_true]
  have hstar := F.noStar
  simp only [checkBuiltinCall, F.newKind, F.newSplit, F.newRow]
  repeat (first | refine wpAny_loadPart_at hC ?_ | (refine wpAny_isSubtype_exc hC ?_; rw [hcont]) | refine wpAny_staticBase_exc hC ?_ | refine wpAny_madeBy_exc hC ?_ | simp only [bne_self_eq_false, Bool.false_eq_true, if_false] | wp_step)
  exact hq

theorem new_kw (F : ExcBaseFacts B newId initId bmB) (hT : ∀ X : String, bm.contains (.type X) = bmB.contains (.type X)) {rest : List Value} {kw : List (Str × Value)}
    (hC : h.get? C = some (excClassObj nm q C N bs bm hdct sn sub ab col dd k0 k1 k2 k3 k5 newId))
    (hq : R (.ok (.ret (.ref (h.objs.size + 1)))) ⟨(h.push { cls := .type "tuple", data := .seq rest.toArray }).push
      { cls := .ref C, data := .fields #[.ref h.objs.size, .none, .none, .none, .bool false, .none] }, g, d, t, os⟩) (hrest : rest.length ≤ sizeLine) :
    codeAny (model prog w) A (.builtin newId ⟨.ref C :: rest, kw⟩) R ⟨h, g, d, t, os⟩ := by
  have hends := F.ends
  have hcB : (Value.ref C :: bm).contains (.type B) = true := by rw [List.contains_cons, hT, F.hasB, Bool.or_true]
  have hcA : (Value.ref C :: bm).contains (.type "AttributeError") = false := by rw [List.contains_cons, hT, F.noAttr]; rfl
  have hcN : (Value.ref C :: bm).contains (.type "NameError") = false := by rw [List.contains_cons, hT, F.noName]; rfl
  refine codeAny_builtinAt F.entry ?_
  unfold Builtin.«BaseException.__new__»
  refine wpAt_bind ?_
  show wpAt _ _ _ (stack >>= _) _ _ _
  refine wpAt_bind (wpAt_stack fun p below => wpAt_of_wpAny ?_)
  wp_walk
  refine wpAt_of_wpAny ?_
  rw [F.owner]
  repeat (first | with_reducible refine wpAny_madeHere_exc F.canon hC ?_ | with_reducible refine wpAny_loadPart_at hC ?_ | (with_reducible refine wpAny_isSubtype_exc hC ?_; first | rw [hcB] | rw [hcA] | rw [hcN]) | wp_step)
  show R _ _
  rw [Heap.size_push]
  exact hq

theorem type_call_kw (F : ExcBaseFacts B newId initId bmB) (hT : ∀ X : String, bm.contains (.type X) = bmB.contains (.type X)) {rest : List Value} {kw : List (Str × Value)} {fI : Addr} {Q : Fin → Shared → Prop}
    (hC : h.get? C = some (excClassObj nm q C N bs bm hdct sn sub ab col dd k0 k1 k2 k3 k5 newId))
    (hi : W.Looks (model prog w) h (typeLookup (.ref C) "__init__") (some (.ref fI))) (hb : ∀ self, W.Looks (model prog w) h (bindSpecial (.ref fI) self) (.ref fI, [self])) (hrest : rest.length ≤ sizeLine)
    (hq : codeAny (model prog w) A (.call (.ref fI) ⟨.ref (h.objs.size + 1) :: rest, kw⟩)
      (fun r s' => match r with | .ok (.ret v) => v = .none ∧ Q (.done (.ret (.ref (h.objs.size + 1)))) s' | .ok _ => False | .error e => E e s')
      ⟨(h.push (W.kdv_tup rest)).push (excO C h.objs.size), g, d, t, os⟩) :
    wpAny (model prog w) A (Builtin.«type.__call__» ⟨.ref C :: rest, kw⟩) Q E ⟨h, g, d, t, os⟩ := by
  repeat (first | with_reducible refine wpAny_loadPart_at hC ?_ | with_reducible refine wpAny_madeBy_exc hC ?_ | wp_step)
  refine codeAny_call_builtin_code (Code.quiet_builtin _ F.quiet) (check_new_kw F hT hC ?_)
  refine new_kw F hT hC ?_ hrest
  show wpAny _ _ _ _ _ _
  have k : ∀ b o, h.get? b = some o → ((h.push (W.kdv_tup rest)).push (excO C h.objs.size)).get? b = some o := fun b o e => Heap.get?_push_of_some _ (Heap.get?_push_of_some _ e)
  have hC₁ := k _ _ hC
  have hget : ((h.push (W.kdv_tup rest)).push (excO C h.objs.size)).get? (h.objs.size + 1) = some (excO C h.objs.size) := by heap_get
  have hcC : (Value.ref C :: bm).contains (.ref C) = true := by simp
  have i1 := hi.keeps k
  have b1 := (hb (.ref (h.objs.size + 1))).keeps k
  unfold isInstance
  repeat (first | with_reducible refine wpAny_loadPart_at hget ?_ | (with_reducible refine wpAny_isSubtype_exc hC₁ ?_; rw [hcC]) | wp_step)
  show wpAny _ _ (typeLookup (.ref C) _) _ _ _
  refine i1.at ?_
  refine wpAny_holding (wpAny_bind (b1.at ?_))
  refine wpAny_bind (wpAny_call (codeAny_mono hq fun r s' z => ?_))
  rcases r with e | (v | _ | _ | _) <;> first | exact z | exact z.elim | skip
  obtain ⟨rfl, z⟩ := z
  first
    | exact wpAny_pure (wpAny_pure z)
    | (wp_walk; exact z)

theorem call_kw (F : ExcBaseFacts B newId initId bmB) (hT : ∀ X : String, bm.contains (.type X) = bmB.contains (.type X)) {rest : List Value} {kw : List (Str × Value)} {fI : Addr}
    (hC : h.get? C = some (excClassObj nm q C N bs bm hdct sn sub ab col dd k0 k1 k2 k3 k5 newId)) (hty : W.Looks (model prog w) h (isInstance (.ref C) (.type "type")) true)
    (hi : W.Looks (model prog w) h (typeLookup (.ref C) "__init__") (some (.ref fI))) (hb : ∀ self, W.Looks (model prog w) h (bindSpecial (.ref fI) self) (.ref fI, [self])) (hrest : rest.length ≤ sizeLine)
    (hq : codeAny (model prog w) (A.under (.builtin "type.__call__" ⟨.ref C :: rest, kw⟩)) (.call (.ref fI) ⟨.ref (h.objs.size + 1) :: rest, kw⟩) (W.InitBack (h.objs.size + 1) R)
      ⟨(h.push (W.kdv_tup rest)).push (excO C h.objs.size), g, d, t, os⟩) :
    codeAny (model prog w) A (.call (.ref C) ⟨rest, kw⟩) R ⟨h, g, d, t, os⟩ := by
  have f1 := tc_lookup
  have f2 := tc_bind (.ref C)
  have hTy : (⟨h, g, d, t, os⟩ : Shared).TypeIs (.ref C) "type" := ⟨_, hC, rfl⟩
  refine codeAny_of_tree ?_
  show wpAny _ _ (callAny (.ref C) _) _ _ _
  repeat (any_goals (first | assumption | with_reducible refine wpAny_loadPart_at hC ?_ | wp_step))
  refine ⟨rfl, ?_⟩
  refine codeAny_call_builtin_at (Code.quiet_builtin _ (by decide +kernel)) entry_typeCall (W.check_slot tc_kind tc_split hty (W.tc_args _ _ _) (type_call_kw F hT hC hi hb hrest ?_))
  refine codeAny_mono hq fun r s' z => ?_
  rcases r with e | (v | _ | _ | _) <;> exact z
end

/-! self.name = v on an exception without a dict yet -/
section
variable {prog : Program} {w : World} {A : Around} {E : Value → Shared → Prop} {R : Result → Shared → Prop} {hp : Heap} {g : Array GenState} {d : Drawn} {t : Nat} {os : OsState}
variable {bm bmB : List Value} {B sa : String}
theorem osa_kw {K : W.Frag} {name : Str} {tk : Tok} {v : Value} {x C : Addr} {fv : Array Value} {cd : ClassData} (SF : StoreFacts B bmB sa "object") (T : RefTail bmB bm)
    (X : K.In hp) (hx : hp.get? x = some { cls := .ref C, data := .fields fv }) (hcd : W.clsIn K C = some cd) (hm : cd.mro = .ref C :: bm) (hh : cd.hasDict = true) (ha : W.findIn K (.ref C) name = some none)
    (hq : ∀ h' tk' dx, (∀ b o, b ≠ x → hp.get? b = some o → h'.get? b = some o) → hp.objs.size ≤ dx → dx ≠ x → h'.get? x = some { cls := .ref C, dict := some dx, data := .fields fv } →
      h'.Ns1 dx (fun y => if y = name then some v else none) → R (.ok (.ret .none)) ⟨h', g, d, tk', os⟩) :
    codeAny (model prog w) A (.call (.builtin "object.__setattr__") ⟨[.ref x, .str name tk, v], []⟩) R ⟨hp, g, d, t, os⟩ := by
  have I : W.InstAt hp x { cls := .ref C, data := .fields fv } C none := ⟨hx, rfl, rfl, trivial⟩
  have ne : cd.mro.isEmpty = false := by rw [hm]; rfl
  have hob : cd.mro.contains (.type "object") = true := by rw [hm, List.contains_cons, T.contains, SF.hasOwner]; rfl
  have hxs : x ≠ hp.objs.size := Nat.ne_of_lt (Heap.lt_size hx)
  have sub : W.Looks (model prog w) hp (isInstance (.ref x) (.type "object")) true := I.type.andThen (W.looks_mroIn X (by unfold W.mroIn; rw [hcd, Option.bind_some, if_neg (by rw [ne]; decide), hob]))
  have SO := F.store_object
  refine codeAny_call_builtin SO.slot.plain SO.entry (@W.check_slot (model prog w) _ _ ⟨hp, g, d, t, os⟩ "object.__setattr__" "object" "__setattr__" (.ref x) [.str name tk, v] [] _ SO.kind SO.split sub (SO.args (.ref x) (.str name tk) v) ?_)
  have hmr : W.Looks (model prog w) hp (mroOf (.ref C)) cd.mro := (W.looks_clsIn X hcd).andThen .now
  have L3 : W.Looks (model prog w) hp (storeTaker? none) none := .now
  have hcls : W.Looks (model prog w) hp (classData C) cd := W.looks_clsIn X hcd
  rw [W.osa_eq, refuse_eq]
  refine wpAny_bind (wpAny_bind (I.type.at (wpAny_bind (hmr.at ?_))))
  have hps : refuseLoop (.ref x) "__setattr__" cd.mro = pure () := by rw [hm, refuseLoop_ref]; exact T.passes (.ref x) (SF.passes (.ref x))
  rw [hps]
  refine wpAny_pure (wpAny_bind (I.type.at (wpAny_bind ((W.looks_findIn X ha).at (wpAny_bind (L3.at ?_))))))
  show wpAny _ _ (storeInOwnDict (.ref x) (.ref C) (.str name tk) name v false) _ _ _
  obtain ⟨nm, bs, mro, ns, qn, hd, sn, sb, ab, col, del⟩ := cd
  dsimp only at hh
  subst hh
  unfold storeInOwnDict ownDictForStores
  repeat (first | with_reducible refine HandSPX.store_in_new ?_ ?_ | with_reducible refine wpAny_loadPart_at hx ?_ | with_reducible refine hcls.at ?_ | wp_step)
  · exact ⟨_, #[], _, (Heap.get?_update_ne _ _ _ _ hxs.symm).trans (Heap.get?_push_at rfl rfl), rfl, fun e he => absurd he (by simp), fun _ => rfl⟩
  · intro h' tk' hn' hs
    have hx₁ : (hp.push { cls := .type "dict", data := .dict #[] }).get? x = some { cls := .ref C, data := .fields fv } := Heap.get?_push_of_some _ hx
    refine hq h' tk' hp.objs.size (fun b o hb ho => ?_) (Nat.le_refl _) hxs.symm ?_ hn'
    · exact (hs.2 b (Nat.ne_of_lt (Heap.lt_size ho))).trans ((Heap.get?_update_ne _ _ _ _ hb).trans (Heap.get?_push_of_some _ ho))
    · exact (hs.2 x hxs).trans (Heap.get?_update_self _ hx₁ rfl)
end
end K0X

namespace K0X
open PySem.W PySem.Calls PyProof.Rows
/-- what the written part says of an error class at C, whose __init__ (at fI, perhaps a base's) puts its one argument in the field fld -/
structure EC (K : Frag) (fld : Str) (C fI : Addr) : Prop where
  cls : ∃ (B newId initId : String) (bmB : List Value) (nm q : Str) (N : Addr) (bs bm : List Value) (sn : List Str) (sub : List Value) (ab : Bool) (col : Option Bool) (dd : Option Addr) (k0 k1 k2 k3 k5 : Option Value),
    ExcBaseFacts B newId initId bmB ∧ StoreFacts B bmB "object.__setattr__" "object" ∧ RefTail bmB bm ∧ K.lookup C = some (excClassObj nm q C N bs bm true sn sub ab col dd k0 k1 k2 k3 k5 newId)
  sa : findIn K (.ref C) "__setattr__" = some (some (.builtin "object.__setattr__"))
  ga : findIn K (.ref C) "__getattribute__" = some (some (.builtin "BaseException.__getattribute__"))
  gg : findIn K (.ref C) "__getattr__" = some none
  noN : findIn K (.ref C) fld = some none
  iC : findIn K (.ref C) "__init__" = some (some (.ref fI))
  tI : typeIn K (.ref fI) = some (.type "function")
  kC : keepIn K (.ref C) = true
  exC : subIn K (.ref C) (.type "BaseException") = some true
  tyC : instIn K (.ref C) (.type "type") = some true
  hdC : hasDictIn K C = true
  hm : mroIn K C (.type "object") = some true
  hcl : findIn K (.ref C) "__class__" = some (some (.builtin "object.__class__"))
/-- what __init__ leaves of a fresh exception at x -/
structure InitEnd (fld : Str) (h h' : Heap) (x C dx t1 : Addr) (v : Value) : Prop where
  keep : ∀ b o, b ≠ x → h.get? b = some o → h'.get? b = some o
  obj : h'.get? x = some { cls := .ref C, dict := some dx, data := .fields #[.ref t1, .none, .none, .none, .bool false, .none] }
  dbig : h.objs.size ≤ dx
  dne : dx ≠ x
  ns : h'.Ns1 dx (fun y => if y = fld then some v else none)
/-- a made one -/
structure Made (fld : Str) (h h' : Heap) (e C d : Addr) (v : Value) : Prop where
  keep : ∀ b o, h.get? b = some o → h'.get? b = some o
  new : h.objs.size ≤ e
  obj : ∃ t1 : Addr, h'.get? e = some { cls := .ref C, dict := some d, data := .fields #[.ref t1, .none, .none, .none, .bool false, .none] }
  dbig : h.objs.size ≤ d
  dne : d ≠ e
  ns : h'.Ns1 d (fun y => if y = fld then some v else none)
/-- __init__, called with these arguments behind self, puts v -/
def InitRuns (prog : Program) (w : World) (K : Frag) (fld : Str) (C fI : Addr) (rest : List Value) (kw : List (Str × Value)) (v : Value) : Prop :=
  ∀ (A : Around) (R : Result → Shared → Prop) (s : Shared) (x t0 : Addr), K.In s.heap → s.heap.NoLimit → s.heap.get? x = some (excO C t0) → A.depth < recursionLimit →
    (∀ h' tk dx, InitEnd fld s.heap h' x C dx t0 v → R (.ok (.ret .none)) { s with heap := h', toks := tk }) →
    codeAny (model prog w) A (.call (.ref fI) ⟨.ref x :: rest, kw⟩) R s
theorem one_size (v : Value) : [v].length ≤ sizeLine := by
  rw [sizeLine_eq]
  exact (by decide : 1 ≤ 16777216)
theorem ldC {M : Model} {s : Shared} {name : Str} {scope : Scope} {L a : Addr} {cd : Value} {m : Str → Option Value} {x : Str} {pos : Pos} {v : Value} {Q : Value → Shared → Prop} {A : Around} {E : Value → Shared → Prop} (hn : s.heap.Ns L m) (hv : m x = some v) (h : Q v s)
    (hk : scope.kind = .function := by rfl) (hl : (envOfC name scope L a cd).kindOf x = some .local := by rfl) (hd : (x == ("__debug__" : Str)) = false := by decide) :
    wpAny M A (eval (.Name x pos) (envOfC name scope L a cd)) Q E s := wpAny_Name (wpAny_loadName_local hk hl hn hv h) hd
section
variable {prog : Program} {w : World} {A : Around} {E : Value → Shared → Prop} {R : Result → Shared → Prop} {s : Shared} {K : Frag} {mg : Str → Option Value} {C fI : Addr} {fld : Str}
theorem low_made (T : EC K fld C fI) {v : Value} {rest : List Value} {kw : List (Str × Value)} (J : InitRuns prog w K fld C fI rest kw v) (hrest : rest.length ≤ sizeLine) (X : K.In s.heap) (hlim : s.heap.NoLimit) (hroom : A.depth + 1 < recursionLimit)
    (hq : ∀ h' tk e d, Made fld s.heap h' e C d v → R (.ok (.ret (.ref e))) { s with heap := h', toks := tk }) :
    codeAny (model prog w) A (.call (.ref C) ⟨rest, kw⟩) R s := by
  obtain ⟨B, newId, initId, bmB, nm, q, N, bs, bm, sn, sub, ab, col, dd, k0, k1, k2, k3, k5, FB, SF, RT, hC⟩ := T.cls
  obtain ⟨hp, g, dr, tk, os⟩ := s
  have k : ∀ b o, hp.get? b = some o → ((hp.push (kdv_tup rest)).push (excO C hp.objs.size)).get? b = some o := fun b o e => Heap.get?_push_of_some _ (Heap.get?_push_of_some _ e)
  have hget : ((hp.push (kdv_tup rest)).push (excO C hp.objs.size)).get? (hp.objs.size + 1) = some (excO C hp.objs.size) := by heap_get
  refine call_kw FB RT.contains (X _ _ hC) (looks_instIn X T.tyC) (looks_findIn X T.iC) (fun self => bind_fn X self T.tI) hrest ?_
  refine J _ _ ⟨(hp.push (kdv_tup rest)).push (excO C hp.objs.size), g, dr, tk, os⟩ _ _ (X.keeps k) (hlim.keeps k) hget ?_ fun h' tk' dx ⟨k', hx, dn, dne, hns⟩ => ?_
  · show A.depth + 1 < recursionLimit
    exact hroom
  · have old : ∀ b o, hp.get? b = some o → h'.get? b = some o := fun b o e => k' b o (Nat.ne_of_lt (Nat.lt_succ_of_lt (Heap.lt_size e))) (k b o e)
    have z : hp.objs.size + 1 + 1 ≤ dx := by
      first
        | (simpa only [Heap.size_push] using dn)
        | exact dn
        | (have q := dn; rw [Heap.size_push, Heap.size_push] at q; exact q)
    exact ⟨rfl, hq h' tk' (hp.objs.size + 1) dx ⟨old, Nat.le_succ _, ⟨_, hx⟩, Nat.le_trans (Nat.le_trans (Nat.le_succ _) (Nat.le_succ _)) z, dne, hns⟩⟩
end

/-! ### the __init__ that puts told -/
def iATold (p1 p2 : Pos) : Arguments := { posonlyargs := [], args := [{ arg := "self", annotation := none, pos := p1 }, { arg := "told", annotation := none, pos := p2 }], vararg := none, kwonlyargs := [], kw_defaults := [], kwarg := none, defaults := [] }
def iBTold (q1 q2 q3 q4 : Pos) : List Stmt := [.Assign [.Attribute (.Name "self" q1) "told" q2] (.Name "told" q3) q4]
def iSTold : Scope := { kind := .function, names := [(PySem.Str.ofString "self", .local), (PySem.Str.ofString "told", .local)], isGenerator := false, isCoroutine := false, more := [] }
def IniTold (K : Frag) (fI : Addr) : Prop := ∃ (oc : Value) (od : Option Addr) (doc pm : Value) (an : Option Addr) (cdv ct : Value) (osl : Array (Option Value)) (p1 p2 q1 q2 q3 q4 : Pos),
    K.lookup fI = some ⟨oc, od, .func (fnOf "__init__" "ScopeError.__init__" (iATold p1 p2) (iBTold q1 q2 q3 q4) iSTold .none .none doc pm an cdv ct), osl⟩ ∧ codeIn K cdv "ScopeError.__init__" = true
section
variable {prog : Program} {w : World} {K : Frag} {C fI : Addr} {v : Value}
theorem iniTold_pos (T : EC K "told" C fI) (J : IniTold K fI) : InitRuns prog w K "told" C fI [v] [] v := by
  intro A R s x t0 X hlim hx hroom hq
  obtain ⟨oc, od, doc, pm, an, cdv, ct, osl, p1, p2, q1, q2, q3, q4, ho, hcd⟩ := J
  obtain ⟨B, newId, initId, bmB, nm, q, N, bs, bm, sn, sub, ab, col, dd, k0, k1, k2, k3, k5, FB, SF, RT, hC⟩ := T.cls
  have hcl : clsIn K C = some { name := nm, bases := bs, mro := .ref C :: bm, ns := N, qualname := q, hasDict := true, slotNames := sn, subclasses := sub, abstract := ab, collection := col, hasDel := false } := by unfold clsIn; rw [hC] <;> rfl
  refine Att.call_fn (binds := [("self", .ref x), ("told", v)]) X hlim ho hcd hroom (BindsTo.of_eq (by first | rfl | with_unfolding_all rfl)) (by first | rfl | decide | with_unfolding_all rfl) (fun s₁ IC => ?_) rfl rfl rfl
  obtain ⟨h₁, tk₁, rfl⟩ := IC.toInCall.same
  have k : ∀ b o, s.heap.get? b = some o → h₁.get? b = some o := IC.toInCall.keep
  have hn := IC.toInCall.ns
  have X₁ : K.In h₁ := X.keeps k
  have hx₁ := k _ _ hx
  show wpAny _ _ (execs _ _) _ _ _
  refine wpAny_execs_cons (plainObj_wpAny_Assign_Attribute ?_)
  refine ldC (v := v) hn (by first | rfl | with_unfolding_all rfl | kernel_rfl) (ldC (v := .ref x) hn (by first | rfl | with_unfolding_all rfl | kernel_rfl) ?_)
  refine set_plain X₁ (ox := excO C t0) (od := none) ⟨hx₁, rfl, rfl, trivial⟩ T.sa ?_
  refine osa_kw SF RT X₁ hx₁ hcl rfl rfl T.noN (fun h₃ tk₃ dx k₃ dn dne hx₃ hn₃ => ?_)
  show wpAny _ _ (execs _ _) _ _ _
  have z : s.heap.objs.size < h₁.objs.size := hn.lt
  exact wpAny_execs_nil (hq h₃ tk₃ dx ⟨fun b o hb e => k₃ b o hb (k b o e), hx₃, Nat.le_of_lt (Nat.lt_of_lt_of_le z dn), dne, hn₃⟩)
theorem iniTold_kw (T : EC K "told" C fI) (J : IniTold K fI) : InitRuns prog w K "told" C fI [] [("told", v)] v := by
  intro A R s x t0 X hlim hx hroom hq
  obtain ⟨oc, od, doc, pm, an, cdv, ct, osl, p1, p2, q1, q2, q3, q4, ho, hcd⟩ := J
  obtain ⟨B, newId, initId, bmB, nm, q, N, bs, bm, sn, sub, ab, col, dd, k0, k1, k2, k3, k5, FB, SF, RT, hC⟩ := T.cls
  have hcl : clsIn K C = some { name := nm, bases := bs, mro := .ref C :: bm, ns := N, qualname := q, hasDict := true, slotNames := sn, subclasses := sub, abstract := ab, collection := col, hasDel := false } := by unfold clsIn; rw [hC] <;> rfl
  refine Att.call_fn (binds := [("self", .ref x), ("told", v)]) X hlim ho hcd hroom (BindsTo.of_eq (by first | rfl | with_unfolding_all rfl)) (by first | rfl | decide | with_unfolding_all rfl) (fun s₁ IC => ?_) rfl rfl rfl
  obtain ⟨h₁, tk₁, rfl⟩ := IC.toInCall.same
  have k : ∀ b o, s.heap.get? b = some o → h₁.get? b = some o := IC.toInCall.keep
  have hn := IC.toInCall.ns
  have X₁ : K.In h₁ := X.keeps k
  have hx₁ := k _ _ hx
  show wpAny _ _ (execs _ _) _ _ _
  refine wpAny_execs_cons (plainObj_wpAny_Assign_Attribute ?_)
  refine ldC (v := v) hn (by first | rfl | with_unfolding_all rfl | kernel_rfl) (ldC (v := .ref x) hn (by first | rfl | with_unfolding_all rfl | kernel_rfl) ?_)
  refine set_plain X₁ (ox := excO C t0) (od := none) ⟨hx₁, rfl, rfl, trivial⟩ T.sa ?_
  refine osa_kw SF RT X₁ hx₁ hcl rfl rfl T.noN (fun h₃ tk₃ dx k₃ dn dne hx₃ hn₃ => ?_)
  show wpAny _ _ (execs _ _) _ _ _
  have z : s.heap.objs.size < h₁.objs.size := hn.lt
  exact wpAny_execs_nil (hq h₃ tk₃ dx ⟨fun b o hb e => k₃ b o hb (k b o e), hx₃, Nat.le_of_lt (Nat.lt_of_lt_of_le z dn), dne, hn₃⟩)
end

/-! ### the __init__ that puts most -/
def iAMost (p1 p2 : Pos) : Arguments := { posonlyargs := [], args := [{ arg := "self", annotation := none, pos := p1 }, { arg := "most", annotation := none, pos := p2 }], vararg := none, kwonlyargs := [], kw_defaults := [], kwarg := none, defaults := [] }
def iBMost (q1 q2 q3 q4 : Pos) : List Stmt := [.Assign [.Attribute (.Name "self" q1) "most" q2] (.Name "most" q3) q4]
def iSMost : Scope := { kind := .function, names := [(PySem.Str.ofString "self", .local), (PySem.Str.ofString "most", .local)], isGenerator := false, isCoroutine := false, more := [] }
def IniMost (K : Frag) (fI : Addr) : Prop := ∃ (oc : Value) (od : Option Addr) (doc pm : Value) (an : Option Addr) (cdv ct : Value) (osl : Array (Option Value)) (p1 p2 q1 q2 q3 q4 : Pos),
    K.lookup fI = some ⟨oc, od, .func (fnOf "__init__" "TooMany.__init__" (iAMost p1 p2) (iBMost q1 q2 q3 q4) iSMost .none .none doc pm an cdv ct), osl⟩ ∧ codeIn K cdv "TooMany.__init__" = true
section
variable {prog : Program} {w : World} {K : Frag} {C fI : Addr} {v : Value}
theorem iniMost_pos (T : EC K "most" C fI) (J : IniMost K fI) : InitRuns prog w K "most" C fI [v] [] v := by
  intro A R s x t0 X hlim hx hroom hq
  obtain ⟨oc, od, doc, pm, an, cdv, ct, osl, p1, p2, q1, q2, q3, q4, ho, hcd⟩ := J
  obtain ⟨B, newId, initId, bmB, nm, q, N, bs, bm, sn, sub, ab, col, dd, k0, k1, k2, k3, k5, FB, SF, RT, hC⟩ := T.cls
  have hcl : clsIn K C = some { name := nm, bases := bs, mro := .ref C :: bm, ns := N, qualname := q, hasDict := true, slotNames := sn, subclasses := sub, abstract := ab, collection := col, hasDel := false } := by unfold clsIn; rw [hC] <;> rfl
  refine Att.call_fn (binds := [("self", .ref x), ("most", v)]) X hlim ho hcd hroom (BindsTo.of_eq (by first | rfl | with_unfolding_all rfl)) (by first | rfl | decide | with_unfolding_all rfl) (fun s₁ IC => ?_) rfl rfl rfl
  obtain ⟨h₁, tk₁, rfl⟩ := IC.toInCall.same
  have k : ∀ b o, s.heap.get? b = some o → h₁.get? b = some o := IC.toInCall.keep
  have hn := IC.toInCall.ns
  have X₁ : K.In h₁ := X.keeps k
  have hx₁ := k _ _ hx
  show wpAny _ _ (execs _ _) _ _ _
  refine wpAny_execs_cons (plainObj_wpAny_Assign_Attribute ?_)
  refine ldC (v := v) hn (by first | rfl | with_unfolding_all rfl | kernel_rfl) (ldC (v := .ref x) hn (by first | rfl | with_unfolding_all rfl | kernel_rfl) ?_)
  refine set_plain X₁ (ox := excO C t0) (od := none) ⟨hx₁, rfl, rfl, trivial⟩ T.sa ?_
  refine osa_kw SF RT X₁ hx₁ hcl rfl rfl T.noN (fun h₃ tk₃ dx k₃ dn dne hx₃ hn₃ => ?_)
  show wpAny _ _ (execs _ _) _ _ _
  have z : s.heap.objs.size < h₁.objs.size := hn.lt
  exact wpAny_execs_nil (hq h₃ tk₃ dx ⟨fun b o hb e => k₃ b o hb (k b o e), hx₃, Nat.le_of_lt (Nat.lt_of_lt_of_le z dn), dne, hn₃⟩)
theorem iniMost_kw (T : EC K "most" C fI) (J : IniMost K fI) : InitRuns prog w K "most" C fI [] [("most", v)] v := by
  intro A R s x t0 X hlim hx hroom hq
  obtain ⟨oc, od, doc, pm, an, cdv, ct, osl, p1, p2, q1, q2, q3, q4, ho, hcd⟩ := J
  obtain ⟨B, newId, initId, bmB, nm, q, N, bs, bm, sn, sub, ab, col, dd, k0, k1, k2, k3, k5, FB, SF, RT, hC⟩ := T.cls
  have hcl : clsIn K C = some { name := nm, bases := bs, mro := .ref C :: bm, ns := N, qualname := q, hasDict := true, slotNames := sn, subclasses := sub, abstract := ab, collection := col, hasDel := false } := by unfold clsIn; rw [hC] <;> rfl
  refine Att.call_fn (binds := [("self", .ref x), ("most", v)]) X hlim ho hcd hroom (BindsTo.of_eq (by first | rfl | with_unfolding_all rfl)) (by first | rfl | decide | with_unfolding_all rfl) (fun s₁ IC => ?_) rfl rfl rfl
  obtain ⟨h₁, tk₁, rfl⟩ := IC.toInCall.same
  have k : ∀ b o, s.heap.get? b = some o → h₁.get? b = some o := IC.toInCall.keep
  have hn := IC.toInCall.ns
  have X₁ : K.In h₁ := X.keeps k
  have hx₁ := k _ _ hx
  show wpAny _ _ (execs _ _) _ _ _
  refine wpAny_execs_cons (plainObj_wpAny_Assign_Attribute ?_)
  refine ldC (v := v) hn (by first | rfl | with_unfolding_all rfl | kernel_rfl) (ldC (v := .ref x) hn (by first | rfl | with_unfolding_all rfl | kernel_rfl) ?_)
  refine set_plain X₁ (ox := excO C t0) (od := none) ⟨hx₁, rfl, rfl, trivial⟩ T.sa ?_
  refine osa_kw SF RT X₁ hx₁ hcl rfl rfl T.noN (fun h₃ tk₃ dx k₃ dn dne hx₃ hn₃ => ?_)
  show wpAny _ _ (execs _ _) _ _ _
  have z : s.heap.objs.size < h₁.objs.size := hn.lt
  exact wpAny_execs_nil (hq h₃ tk₃ dx ⟨fun b o hb e => k₃ b o hb (k b o e), hx₃, Nat.le_of_lt (Nat.lt_of_lt_of_le z dn), dne, hn₃⟩)
end
end K0X
end PySem
set_option maxHeartbeats 4000000
namespace L2
open PySem PySem.Spec PyProof.Rows
/-- at a: an error of the class at C that tells v by the field fld -/
def ErrAt (fld : Str) (C : Addr) (v : V) (H : Hp) (a : Addr) : Prop := ∃ d, H a = some (exo a C (some d)) ∧ H d = some (exd d [(fld, v)])
theorem ErrAt.same {fld : Str} {C : Addr} {v : V} {H H' : Hp} {a : Addr} (h : ErrAt fld C v H a) (s : Same H H') : ErrAt fld C v H' a := by
  obtain ⟨d, h1, h2⟩ := h
  exact ⟨d, s _ _ h1, s _ _ h2⟩
section
variable {X : Cx} {pins : List (Addr × Obj)} {σ : St} {H : Hp} {s : Shared}
theorem inv_made {fld : Str} {C e d : Addr} {v : V} {u : Value} {h' : Heap} {tk : Nat} (I : Inv X pins σ H s) (M : PySem.K0X.Made fld s.heap h' e C d u) (rv : RelV v u) :
    Inv X pins σ (upd (upd H d (exd d [(fld, v)])) e (exo e C (some d))) { s with heap := h', toks := tk } ∧ H e = none ∧ H d = none ∧ d ≠ e := by
  have ne : H e = none := I.hok.fresh M.new
  have nd : H d = none := I.hok.fresh M.dbig
  have old : ∀ {b : Addr} {o : Obj}, s.heap.get? b = some o → b ≠ e ∧ b ≠ d := fun {b o} q => ⟨Nat.ne_of_lt (Nat.lt_of_lt_of_le (Heap.lt_size q) M.new), Nat.ne_of_lt (Nat.lt_of_lt_of_le (Heap.lt_size q) M.dbig)⟩
  have trk : ∀ {b : Addr} {o : HO}, H b = some o → b ≠ e ∧ b ≠ d := fun {b o} q => ⟨ne_of_none q ne, ne_of_none q nd⟩
  have put : ∀ {b : Addr}, b ≠ e → b ≠ d → upd (upd H d (exd d [(fld, v)])) e (exo e C (some d)) b = H b := fun {b} h1 h2 => by rw [upd_ne h1, upd_ne h2]
  obtain ⟨t1, ho⟩ := M.obj
  refine ⟨I.un ?_ fun b o q => ?_, ne, nd, M.dne⟩
  · exact {
      keep := fun b o q _ _ _ => M.keep b o q
      slot := fun b o q _ _ _ => ⟨o.slots, M.keep b o q⟩
      free := fun b o q n _ => by rw [put (old q).1 (old q).2]; exact n
      there := fun b o q _ => ⟨o, M.keep b o q⟩
      tups := fun b xs q => by rw [put (trk q).1 (trk q).2]; exact q
      frzs := fun b o xs q => by rw [put (trk q).1 (trk q).2]; exact q
      tbls := fun b ps q => ⟨#[], by rw [put (trk q).1 (trk q).2, q]; simp⟩ }
  · by_cases hb : b = e
    · subst hb
      rw [upd_same] at q
      cases q
      exact exo_ok ho
    · rw [upd_ne hb] at q
      by_cases hd : b = d
      · subst hd
        rw [upd_same] at q
        cases q
        exact exd_ok M.ns (relO_put (fs := []) rv fun g => True.intro)
      · rw [upd_ne hd] at q
        exact (I.hok b o q).stay (fun c w _ z => M.keep c w z) (fun c hc => by rw [put (trk hc).1 (trk hc).2]; exact hc) (fun c xs hc => by rw [put (trk hc).1 (trk hc).2]; exact hc)
/-- C(e) -/
def tMk (fld : Str) (C : Addr) (ta : TA) : TE := fun σ H Q => ta σ H fun vs H1 => ∃ v, vs = [v] ∧ ∀ a H2, Same H1 H2 → H1 a = none → ErrAt fld C v H2 a → Q (.ref a) H2
theorem same_made {fld : Str} {C e d : Addr} {v : V} (ne : H e = none) (nd : H d = none) : Same H (upd (upd H d (exd d [(fld, v)])) e (exo e C (some d))) := fun b o q => by
  rw [upd_ne (ne_of_none q ne), upd_ne (ne_of_none q nd)]
  exact q
theorem errAt_made {fld : Str} {C e d : Addr} {v : V} (n : d ≠ e) : ErrAt fld C v (upd (upd H d (exd d [(fld, v)])) e (exo e C (some d))) e :=
  ⟨d, upd_same, by rw [upd_ne n, upd_same]⟩
theorem pe_mk {fld : Str} {C fI : Addr} {x : Str} {e : Expr} {ta : TA} {p pos : Pos} {k : Nat} (T : PySem.K0X.EC X.K fld C fI) (J : ∀ v, PySem.K0X.InitRuns X.prog X.w X.K fld C fI [v] [] v) (hr : Room k X.A) (hm : X.mg x = some (.ref C)) (ha : PA X [e] ta) (hg : Gl X x := by rfl)
    (hdb : (x == ("__debug__" : Str)) = false := by decide) (he : starEach (e :: []) X.env = (false, eval e X.env) :: starEach [] X.env := by rfl) (hpl : (backTo pos (starEach [] X.env)).any (·.1) = false := by rfl) :
    PE X (.Call (.Name x p) [e] [] pos) (tMk fld C ta) := by
  refine ⟨fun pins s σ H Q I h => ?_⟩
  refine wpAny_Call_Name_kw (ld_glob I hg hm ?_ hdb)
  refine PySem.W.callWith_K (h₀ := X.base) I.ok.mod.kin T.kC (thn (ha.run pos pins s σ H _ I h) fun us s1 hh => ?_) he hpl
  obtain ⟨vs, H1, I1, r1, v, ev, q1⟩ := hh
  subst ev
  refine ⟨I1.kIn, ?_⟩
  cases r1 with
  | cons rv rn =>
    rename_i v' us'
    cases rn
    show wpAny _ _ (call (.ref C) [v']) _ _ _
    have hlim := I1.nolimit
    refine wpAny_call (PySem.K0X.low_made T (J v') (PySem.K0X.one_size v') I1.kIn hlim (by have := hr.dp; omega) fun h' tk' e d M => ?_)
    obtain ⟨I2, ne, nd, nde⟩ := inv_made (tk := tk') I1 M rv
    exact ⟨.ref e, _, I2, rfl, q1 e _ (same_made ne nd) ne (errAt_made nde)⟩
/-- C(fld = e) -/
theorem pe_mkw {fld : Str} {C fI : Addr} {x : Str} {kws : List Keyword} {ta : TA} {p pos : Pos} {k : Nat} (T : PySem.K0X.EC X.K fld C fI) (J : ∀ v, PySem.K0X.InitRuns X.prog X.w X.K fld C fI [] [(fld, v)] v) (hr : Room k X.A) (hm : X.mg x = some (.ref C)) (hkw : PK X kws ta) (hg : Gl X x := by rfl)
    (hall : (backToKw pos (keywordEach kws X.env)).all (·.1.isSome) = true := by rfl) (hks : (backToKw pos (keywordEach kws X.env)).filterMap (·.1) = [fld] := by rfl) (hdb : (x == ("__debug__" : Str)) = false := by decide)
    (hpl : ((backTo pos (starEach [] X.env)).any (·.1) || (backToKw pos (keywordEach kws X.env)).any (·.1.isNone)) = false := by rfl) :
    PE X (.Call (.Name x p) [] kws pos) (tMk fld C ta) := by
  refine ⟨fun pins s σ H Q I h => ?_⟩
  refine wpAny_Call_Name_kw (ld_glob I hg hm ?_ hdb)
  refine PySem.W.callWith_KW0 (h₀ := X.base) I.ok.mod.kin T.kC hall ?_ hpl
  refine thn (hkw.run pos pins s σ H _ I h) fun us s1 hh => ?_
  obtain ⟨vs, H1, I1, r1, v, ev, q1⟩ := hh
  subst ev
  refine ⟨I1.kIn, ?_⟩
  rw [hks]
  cases r1 with
  | cons rv rn =>
    rename_i v' us'
    cases rn
    show wpAny _ _ (call (.ref C) [] [(fld, v')]) _ _ _
    have hlim := I1.nolimit
    refine wpAny_call (PySem.K0X.low_made T (J v') (Nat.zero_le _) I1.kIn hlim (by have := hr.dp; omega) fun h' tk' e d M => ?_)
    obtain ⟨I2, ne, nd, nde⟩ := inv_made (tk := tk') I1 M rv
    exact ⟨.ref e, _, I2, rfl, q1 e _ (same_made ne nd) ne (errAt_made nde)⟩
/-- the object and its dict's object -/
theorem errAt_inst {fld : Str} {C a : Addr} {v : V} (I : Inv X pins σ H s) (h : ErrAt fld C v H a) : ∃ (ox od : Obj) (u : Value), PySem.W.InstAt s.heap a ox C (some od) ∧ RelV v u ∧ PySem.W.lookIn fld od = some (some u) := by
  obtain ⟨d, h1, h2⟩ := h
  obtain ⟨t1, ho⟩ := exo_at I.hok h1
  obtain ⟨mA, hns, hr⟩ := exd_at I.hok h2
  obtain ⟨od, hod, hl⟩ := lookIn_ns hns
  have hl1 : List.lookup fld [(fld, v)] = some v := by simp [List.lookup]
  obtain ⟨u, hu, ru⟩ := RelO.some_of (v := v) (o := mA fld) (by rw [← hl1]; exact hr fld)
  exact ⟨_, od, u, ⟨ho, rfl, rfl, hod⟩, ru, by rw [hl, hu]⟩
/-- e.fld -/
def tTell (K : PySem.W.Frag) (fld : Str) (te : TE) : TE := fun σ H Q => te σ H fun x H1 => ∃ a C v, x = .ref a ∧ ErrAt fld C v H1 a ∧ (∃ fI, PySem.K0X.EC K fld C fI) ∧ Q v H1
theorem pe_tell {fld : Str} {e : Expr} {te : TE} {pos : Pos} (he : PE X e te) (hb : attributeBase e fld X.env (eval e X.env) = eval e X.env := by rfl) : PE X (.Attribute e fld pos) (tTell X.K fld te) := by
  refine ⟨fun pins s σ H Q I h => ?_⟩
  refine attr_of hb (thn (he.run pins s σ H _ I h) fun u s1 hh => ?_)
  obtain ⟨x, H1, I1, rx, a, C, v, ex, hE, ⟨fI, T⟩, q⟩ := hh
  subst ex
  obtain rfl : u = Value.ref a := rx
  obtain ⟨ox, od, u, J, ru, hl⟩ := errAt_inst I1 hE
  exact HandSPX.exc_get I1.kIn J T.ga T.gg T.exC (PySem.W.findObj_own T.hdC T.noN rfl hl) (handed_of ru) ⟨v, H1, I1.tok _, ru, q⟩
end
/-- isinstance asks object.__class__ -/
structure ClsF (K : PySem.W.Frag) : Prop where
  hn : PySem.W.specialIn K (.builtin "object.__class__") "__get__" = some (some (.builtin "getset_descriptor.__get__"))
  ht : PySem.W.takesIn K (.builtin "object.__class__") = some true
theorem kitx_err {K : PySem.W.Frag} {fld : Str} {x D fI : Addr} {ox : Obj} {od : Option Obj} (T : PySem.K0X.EC K fld D fI) (F : ClsF K) : PySem.W.KitX K (.ref x) (.ref D) (fun h => PySem.W.InstAt h x ox D od) where
  ty := fun _ _ _ I => I.type
  it := fun M h X _ => by
    obtain ⟨cdD, hcD, _⟩ := PySem.W.any_some T.hdC
    unfold PySem.W.clsIn at hcD
    split at hcD
    · rename_i c' d' cd' sl' ho
      intro A' Q' E' s' k q
      unfold isType loadHead
      exact wpAny_bind (wpAny_loadPart (k _ _ (X _ _ ho)) (wpAny_pure q))
    · cases hcD
  ne := fun h tp dd its n sl X htp => by
    obtain ⟨cdD, hcD, _⟩ := PySem.W.any_some T.hdC
    refine Bool.eq_false_iff.mpr fun q => ?_
    have e : D = tp := Value.ref.inj (beq_iff_eq.mp q)
    subst e
    unfold PySem.W.clsIn at hcD
    split at hcD
    · rename_i c' d' cd' sl' ho
      have z := (X _ _ ho).symm.trans htp
      cases z
    · cases hcD
  ca := fun X I k => PySem.W.kx_classE X I T.ga T.gg T.exC (PySem.W.findObj_dataE (by obtain ⟨cd, hc, _⟩ := PySem.W.any_some T.hdC; rw [hc]; rfl) T.hcl F.hn F.ht) T.hm k
/-- isinstance(e, c) -/
def rIsErr (K : PySem.W.Frag) : List V → Hp → VK → Prop := fun xs H Q => ∃ (a : Addr) (c : V) (cv : Value) (fld : Str) (C : Addr) (v : V) (b : Bool), xs = [.ref a, c] ∧ ErrAt fld C v H a ∧ (∃ fI, PySem.K0X.EC K fld C fI) ∧ ClsV c cv ∧ PySem.W.kitOne K (.ref C) cv = some b ∧ Q (.bl b) H
theorem call_isErr {X : Cx} (F : ClsF X.K) : CallR X (.builtin "isinstance") (rIsErr X.K) := by
  intro pins s σ H xs us Q I r h
  obtain ⟨a, c, cv, fld, C, v, b, rfl, hE, ⟨fI, T⟩, kc, e, q⟩ := h
  cases r with
  | cons rx rr =>
    cases rr with
    | cons rt rr =>
      cases rr
      cases rx
      have ec := kc.eq rt
      subst ec
      obtain ⟨ox, od, u, J, _, _⟩ := errAt_inst I hE
      exact PySem.W.kia_one (kitx_err T F) I.kIn J e (fun z => nomatch z) fun tk => ⟨.bl b, H, I.kept (t' := tk) fun _ _ z => z, rfl, q⟩
/-! ### repr of what is written of data -/
inductive Sh (K : PySem.W.Frag) (H : Hp) : V → PyData → Prop where
  | plain {v : V} {d : PyData} (h : Dp K H v d) (hd : d.hasDict = false) : Sh K H v d
  | one {a : Addr} {x : Str} {i : Int} (h : H a = some (.dK [(.inr x, .int i)])) : Sh K H (.ref a) (.dict [(.str x, .int i)])
theorem Sh.same {K : PySem.W.Frag} {H H' : Hp} {v : V} {d : PyData} (s : Same H H') (hD : ∀ v d, Dp K H v d → Dp K H' v d) (h : Sh K H v d) : Sh K H' v d := by
  cases h with
  | plain h hd => exact .plain (hD _ _ h) hd
  | one h => exact .one (s _ _ h)
section
variable {X : Cx} {pins : List (Addr × Obj)} {σ : St} {H : Hp} {s : Shared}
theorem Sh.reads {v : V} {d : PyData} {u : Value} (I : Inv X pins σ H s) (h : Sh X.K H v d) (r : RelV v u) : ∃ as, Reads s.heap u d as ∧ (d.hasDict = true → sysModules ∉ as) := by
  cases h with
  | plain h hd =>
    obtain ⟨as, q⟩ := Dp.reads I d v u h r
    exact ⟨as, q, fun z => by rw [hd] at z; cases z⟩
  | @one a x i h =>
    obtain rfl : u = Value.ref a := r
    have z : ObjOk X.prog X.w H s.heap a (.dK [(.inr x, .int i)]) := I.hok a _ h
    obtain ⟨_, hs, vs, hkv, o, es, ep, ho, hx, hd, hk, hp, _⟩ := z
    cases hkv with
    | @cons p q l1 l2 hpq hrest =>
      cases hrest
      obtain ⟨e1, e2⟩ := hpq
      obtain ⟨qk, qv⟩ := q
      dsimp only at e1 e2
      subst e1
      obtain ⟨t2, rfl⟩ : ∃ t, qv = Value.int i t := e2
      generalize hl : es.toList = el at hp
      cases hp with
      | @cons en kv el2 kvs2 h1 h2 h3 =>
        cases h3
        dsimp only at h1 h2
        have h1' : keyIs (.inr x) en.key = true := h1
        rcases keyIs_shape h1' with ⟨j, t, z, _⟩ | ⟨y, t, z, hkey⟩
        · cases z
        · cases z
          have hr := Reads.dict (kvs := [(.str x, .int i)]) (as := []) (bs := []) ho hx.1 hd (by rw [hl]; show ReadsAll _ [en.key] [.str x] []; rw [hkey]; exact .cons (as := []) (bs := []) (.str _ _) .nil) (by rw [hl]; show ReadsAll _ [en.val] [.int i] []; rw [h2]; exact .cons (as := []) (bs := []) (.int _ _) .nil)
          refine ⟨_, hr, fun _ hm => ?_⟩
          have hm2 : sysModules = a := by simpa using hm
          rw [hm2] at hs
          exact absurd hs (by simp)
/-- repr(v) -/
def rRepr (K : PySem.W.Frag) : List V → Hp → VK → Prop := fun xs H Q => ∃ (v : V) (d : PyData), xs = [v] ∧ Sh K H v d ∧ d.showable = true ∧ d.depth ≤ 8 ∧ ((∀ i, d ≠ .int i) → d.shown.length ≤ sizeLine) ∧ Q (.str d.shown) H
theorem call_reprS (hg : X.A.guards = some []) (hu : X.A.units + 64 < cLine) : CallR X (.builtin "repr") (rRepr X.K) := by
  intro pins s σ H xs us Q I r h
  obtain ⟨v, d, rfl, hS, hsh, hdp, hsz, q⟩ := h
  obtain ⟨u, rfl, ru⟩ := vals1 r
  obtain ⟨as, hr, hsm⟩ := hS.reads I ru
  cases hr with
  | none => exact PySem.P.repr_of_none ⟨.str _, H, I.tok _, ⟨_, rfl⟩, q⟩
  | bool b => exact PySem.P.repr_of_bool ⟨.str _, H, I.tok _, ⟨_, rfl⟩, q⟩
  | int i t => exact PySem.P.repr_of_int (of_decide_eq_true hsh) ⟨.str _, H, I.tok _, ⟨_, rfl⟩, q⟩
  | str x t => exact PySem.P.repr_of_str ⟨.str _, H, I.tok _, ⟨_, rfl⟩, q⟩ (hsz fun i z => nomatch z)
  | list a1 a2 a3 a4 => exact repr_of_reads' (Reads.list a1 a2 a3 a4) hsh hsm hg (by omega) (fun _ _ e => e) (fun h' u tk hk => ⟨.str _, H, I.kept hk, ⟨_, rfl⟩, q⟩) (hsz fun i z => nomatch z)
  | tuple a1 a2 a3 a4 => exact repr_of_reads' (Reads.tuple a1 a2 a3 a4) hsh hsm hg (by omega) (fun _ _ e => e) (fun h' u tk hk => ⟨.str _, H, I.kept hk, ⟨_, rfl⟩, q⟩) (hsz fun i z => nomatch z)
  | dict a1 a2 a3 a4 a5 => exact repr_of_reads' (Reads.dict a1 a2 a3 a4 a5) hsh hsm hg (by omega) (fun _ _ e => e) (fun h' u tk hk => ⟨.str _, H, I.kept hk, ⟨_, rfl⟩, q⟩) (hsz fun i z => nomatch z)
end
end L2
set_option maxHeartbeats 4000000
/-! a law's def at the caller itself: there nothing is being shown, so repr of lists and dicts is told -/
namespace L2
open PySem PySem.Spec PyProof.Rows
/-- a def's body, run at the caller -/
theorem run_at {CX : CXT} {P : Program} {w : World} {K : PySem.W.Frag} {mg : Str → Option Value} {base : Heap} {k : Nat} {A : Around} {outer : List Env} {f : Addr} {name qual : Str} {params : Arguments} {body : List Stmt} {scope : Scope} {dV kV doc pm cdv ct oc : Value} {an od : Option Addr}
    {osl : Array (Option Value)} {N ps : List Str} {s : Shared} {H : Hp} {args : Args} {us : List Value} {vs : List V} {Q : VK} {E : XK} (lk : K.lookup f = some ⟨oc, od, .func (PySem.W.fnOf name qual params body scope dV kV doc pm an cdv ct), osl⟩) (hcd : PySem.W.codeIn K cdv qual = true) (S : FnScope N ps scope)
    (hl : vs.length = ps.length) (hr : Room (k + 1) A) (e0 : Env0 P w K mg base A outer s H) (hb : BindsTo s (PySem.W.fnOf name qual params body scope dV kV doc pm an cdv ct) args (ps.zip us)) (r : Vals vs us)
    (hbody : ∃ t, PSs (cxOf CX P w K mg base N qual scope f cdv A outer s H E) body t ∧ t { nx := fun _ H' => Q .non H', rt := Q } (start N vs) H) :
    codeAny (model P w) A (.call (.ref f) args) (CR CX outer P w H s Q E) s := by
  have KX : K.In s.heap := e0.mod.kin.keeps fun b o e => (e0.bs b o e).1
  have lim : s.heap.NoLimit := e0.mod.nolimit.keeps fun b o e => (e0.bs b o e).1
  have hkind : ∀ y ∈ ps.zip us, scope.names.lookup y.1 = some .local ∨ (scope.names.lookup y.1 = some .cell ∧ ((cellsFrom (s.heap.objs.size + 1) scope.names []).lookup y.1).isSome = true) := fun y hy => by
    have hm : y.1 ∈ ps := (List.of_mem_zip (show (y.1, y.2) ∈ ps.zip us from hy)).1
    exact (S.par y.1 hm).imp id fun q => ⟨q, PySem.W.cellsFrom_some _ _ _ (.inl q)⟩
  refine codeAny_call_function hr.depth (KX _ _ lk) rfl S.co S.gen rfl (PySem.W.codeRec_of KX hcd) (hb _ _ _ _ ?_)
  refine wpAny_newFunctionEnv_cells S.kind hkind fun env he s1 x => ?_
  subst he
  refine ⟨lim.keeps x.toInCall.keep, codeAny_func ?_⟩
  obtain ⟨t, ht, hq⟩ := hbody
  have I := inv_start (CX := CX) (E := E) S hr.hd e0 hl r x
  refine wpAny_mono (ht.run [] s1 (start N vs) H _ I hq) (fun fl s' hs => ?_) fun e s' hs => hs
  cases fl with
  | ret u =>
    obtain ⟨v, σ', H', J, rv, q⟩ := hs
    exact ⟨v, H', J.os, J.bare, J.base, J.hok, rv, q⟩
  | next =>
    obtain ⟨σ', H', J, q⟩ := hs
    exact ⟨V.non, H', J.os, J.bare, J.base, J.hok, rfl, q⟩
  | brk =>
    obtain ⟨_, _, _, q⟩ := hs
    exact False.elim q
  | cont =>
    obtain ⟨_, _, _, q⟩ := hs
    exact False.elim q

/-- what is asked of a law's def: at the caller, wherever the script stands, it gives True -/
def GoodAt (P : Program) (w : World) (K : PySem.W.Frag) (mg : Str → Option Value) (fa : Addr) (n : Nat) : Prop :=
  ∀ (base : Heap) (s : Shared) (H : Hp) (a : Addr) (ns : List Int), ns.length ≤ n → Env0 P w K mg base callerA [] s H → Only H → SqL K H a (ns.map V.int) →
    codeAny (model P w) callerA (.call (.ref fa) ⟨[.ref a], []⟩) (CR CX0 [] P w H s (fun v _ => v = .bl true) E0) s

theorem good_call {P : Program} {w : World} {K : PySem.W.Frag} {mg mb : Str → Option Value} {n : Nat} {fa a : Addr} {s₁ : Shared} {vs : List Value} {ns : List Int}
    (KX : K.In s₁.heap) (hns : s₁.heap.Ns mainGlobals mg) (hb : s₁.heap.Ns builtinsNs mb) (hbb : ∀ x : Str, x ≠ "__name__" → mb x = bootBuiltins x) (hlim : s₁.heap.NoLimit) (hg : s₁.gens = #[])
    (ha : s₁.heap.get? a = some { cls := .type "list", data := .seq vs.toArray }) (hi : IntsAre vs ns) (hl : ns.length ≤ n) (hn : n ≤ sizeLine) (F : GoodAt P w K mg fa n) :
    codeAny (model P w) callerA (.call (.ref fa) ⟨[.ref a], []⟩) (fun r s' => r = .ok (.ret (.bool true)) ∧ OldK s₁.heap s'.heap ∧ s'.os = s₁.os ∧ AllBare s'.gens) s₁ := by
  have rv := vals_ints hi
  have lenV := hi.length
  have hls : ns.length ≤ sizeLine := Nat.le_trans hl hn
  have main : ∀ H : Hp, Only H → SqL K H a (ns.map V.int) → HOk P w H s₁.heap → (∀ b, H b ≠ none → b = a) → (H a ≠ none → K.lookup a = none) →
      codeAny (model P w) callerA (.call (.ref fa) ⟨[.ref a], []⟩) (fun r s' => r = .ok (.ret (.bool true)) ∧ OldK s₁.heap s'.heap ∧ s'.os = s₁.os ∧ AllBare s'.gens) s₁ := by
    intro H hO hS hok hA hK
    have isA : ∀ {b : Addr} {u : HO}, H b = some u → b = a := fun {b u} q => hA b (by rw [q]; exact fun z => nomatch z)
    have free : ∀ {b : Addr}, b ≠ a → H b = none := fun {b} hb => by
      cases q : H b with
      | none => rfl
      | some u => exact absurd (isA q) hb
    have nsK : ∀ {b : Addr} {m : Str → Option Value}, s₁.heap.Ns b m → (hidT s₁.heap H).Ns b m := fun {b m} ⟨o, es, ep, e, d, r⟩ => ⟨o, es, ep, hidT_get e (free fun z => by
      rw [z, ha] at e
      cases e
      cases d), d, r⟩
    have hKb : K.In (hidT s₁.heap H) := fun b o e => hidT_get (KX b o e) (by
      cases q : H b with
      | none => rfl
      | some u =>
        have z := isA q
        subst z
        have z2 := hK (by rw [q]; exact fun z => nomatch z)
        rw [e] at z2
        cases z2)
    obtain ⟨mc, l1, l2⟩ := hlim
    have e0 : Env0 P w K mg (hidT s₁.heap H) callerA [] s₁ H :=
      ⟨rfl, ⟨hKb, nsK hns, ⟨mb, nsK hb, hbb⟩, ⟨mc, nsK l1, l2⟩⟩, fun b o e => of_hidT e, Nat.le_of_eq (hidT_size _ _), trivial, fun b hb => absurd hb List.not_mem_nil, hok, .of_eq hg⟩
    refine codeAny_mono (F _ s₁ H a ns hl e0 hO hS) fun r s' h => ?_
    cases r with
    | error e => exact False.elim h
    | ok fl =>
      cases fl with
      | next => exact False.elim h
      | brk => exact False.elim h
      | cont => exact False.elim h
      | ret u =>
        obtain ⟨v, H', os, bare, un, hok', r', q⟩ := h
        have q' : v = .bl true := q
        subst q'
        obtain rfl : u = Value.bool true := r'
        refine ⟨rfl, OldK.of_keep fun b o e => ?_, os, bare⟩
        cases q : H b with
        | none => exact un.keep b o e q List.not_mem_nil List.not_mem_nil
        | some u =>
          rcases hO b with z | ⟨ob, xs, z⟩
          · rw [q] at z
            cases z
          · obtain ⟨e1, _⟩ := hok b _ z
            obtain ⟨e2, _⟩ := hok' b _ (un.frzs b ob _ z)
            rw [e] at e1
            cases e1
            exact e2
  cases hk : K.lookup a with
  | some o =>
    have e := KX a o hk
    rw [ha] at e
    cases e
    exact main (fun _ => none) (fun _ => .inl rfl) (.inr ⟨_, vs.toArray, _, hk, rfl, rfl, rfl, by rw [List.size_toArray, lenV]; exact hls, by simpa using rv⟩) (fun b u z => nomatch z) (fun b z => absurd rfl z) fun z => absurd rfl z
  | none =>
    let o : Obj := { cls := .type "list", data := .seq vs.toArray }
    have at_a : ∀ b, (if b = a then some (HO.frz o (.lst (ns.map V.int))) else none) = none ∨ b = a := fun b => by
      by_cases hb : b = a
      · exact .inr hb
      · exact .inl (if_neg hb)
    refine main (fun b => if b = a then some (.frz o (.lst (ns.map V.int))) else none) (fun b => ?_) (.inl (.inr ⟨o, if_pos rfl⟩)) (fun b u z => ?_) (fun b z => ?_) fun _ => hk
    · exact (at_a b).imp id fun hb => ⟨_, _, if_pos hb⟩
    · rcases at_a b with q | hb
      · rw [show (fun b => if b = a then some (HO.frz o (.lst (ns.map V.int))) else none) b = none from q] at z
        cases z
      · rw [show (fun b => if b = a then some (HO.frz o (.lst (ns.map V.int))) else none) b = some (.frz o (.lst (ns.map V.int))) from if_pos hb] at z
        cases z
        subst hb
        exact ⟨ha, by rw [List.length_map]; exact hls, vs, _, rv, ha⟩
    · exact (at_a b).resolve_left z

/-- the goal that k_head leaves, from GoodAt -/
theorem walk_at {l : PySem.W.OpenLaw} {n : Nat} {q : Program} {loose : List Str} {XP : (Str → Option Value) → Heap → Prop} {YP : World → Heap → Prop} {d : DefRec} {K : Params → PySem.W.Frag}
    (hn : l.most = some n) (hn2 : n ≤ sizeLine) (hdf : d.params.defaults = []) (hY : ∀ (w : World) (h : Heap), YP w h → (K w.params).In h)
    (F : ∀ (w : World) (mg : Str → Option Value) (fa : Addr) (h : Heap), (K w.params).In h → h.Ns mainGlobals mg → mg d.name = some (.ref fa) → GoodAt l.prog w (K w.params) mg fa n) :
    PySem.W.WalkO q loose XP YP l.row.toRowW d [] (fun f vs => PySem.call f vs) := by
  refine Att.attach_call hn hdf fun w s₀ s₁ mg mb fa o pm cd doc a vs ns G Y ho hd hcd hmg hobj hints hlen hg => ?_
  have KX := hY w _ Y
  exact good_call KX G.T.g G.T.b G.T.builtins G.T.nolimit hg hobj hints hlen hn2 (F w mg fa _ KX G.T.g hmg)
end L2
set_option maxHeartbeats 4000000
namespace K0
open PySem L2
theorem b01 (c : Bool) : (-2 ^ 64 < (if c = true then 1 else 0 : Int)) ∧ (if c = true then 1 else 0 : Int) < 2 ^ 64 := by cases c <;> decide
theorem fmod_nn (a : Int) {b : Int} (h : 0 < b) : 0 ≤ a.fmod b := by
  rw [Int.fmod_eq_emod_of_nonneg a (by omega)]
  exact Int.emod_nonneg a (by omega)
theorem fmod_lt (a : Int) {b : Int} (h : 0 < b) : a.fmod b < b := by
  rw [Int.fmod_eq_emod_of_nonneg a (by omega)]
  exact Int.emod_lt_of_pos a h
theorem paired_append {α β : Type} {F : α → β → Prop} {l2 : List α} {m2 : List β} (k : Paired F l2 m2) : ∀ {l1 : List α} {m1 : List β}, Paired F l1 m1 → Paired F (l1 ++ l2) (m1 ++ m2)
  | _, _, .nil => k
  | _, _, .cons r t => .cons r (paired_append k t)
theorem same_upd {H : Hp} {a : Addr} {o : HO} (n : H a = none) : Same H (upd H a o) := fun b u e => by
  rw [upd_ne (ne_of_none e n)]
  exact e
theorem pa_imp {X : Cx} {es : List Expr} {t t' : TA} (h : PA X es t) (k : ∀ σ H Q, t' σ H Q → t σ H Q) : PA X es t' := ⟨fun pos pins s σ H Q I q => h.run pos pins s σ H Q I (k σ H Q q)⟩
theorem pe_imp {X : Cx} {e : Expr} {t t' : TE} (h : PE X e t) (k : ∀ σ H Q, t' σ H Q → t σ H Q) : PE X e t' := ⟨fun pins s σ H Q I q => h.run pins s σ H Q I (k σ H Q q)⟩
theorem seqT_same {K : PySem.W.Frag} {H H' : Hp} {a : Addr} {xs : List V} (e : Same H H') (h : SqT K H a xs) : SqT K H' a xs := by
  rcases h with (h | ⟨o, h⟩) | h
  · exact .inl (.inl (e _ _ h))
  · exact .inl (.inr ⟨o, e _ _ h⟩)
  · exact .inr h
mutual
theorem dp_same {K : PySem.W.Frag} {H H' : Hp} (s : Same H H') : ∀ (d : PyData) (v : V), Dp K H v d → Dp K H' v d
  | .none, _, h => by
    cases h
    exact .non
  | .bool b, _, h => by
    cases h
    exact .bl b
  | .int i, _, h => by
    cases h
    exact .int i
  | .str x, _, h => by
    cases h
    exact .str x
  | .list ds, _, h => by
    cases h with
    | lst h1 h2 => exact .lst (s.seq h1) (dpAll_same s ds _ h2)
  | .tuple ds, _, h => by
    cases h with
    | tup h1 h2 => exact .tup (seqT_same s h1) (dpAll_same s ds _ h2)
  | .dict _, _, h => by cases h
theorem dpAll_same {K : PySem.W.Frag} {H H' : Hp} (s : Same H H') : ∀ (ds : List PyData) (vs : List V), DpAll K H vs ds → DpAll K H' vs ds
  | [], _, h => by
    cases h
    exact .nil
  | d :: ds, _, h => by
    cases h with
    | cons h1 h2 => exact .cons (dp_same s d _ h1) (dpAll_same s ds _ h2)
end
theorem sh_same {K : PySem.W.Frag} {H H' : Hp} {v : V} {d : PyData} (s : Same H H') (h : Sh K H v d) : Sh K H' v d := h.same s fun v d q => dp_same s d v q
/-- a thing that repr tells: as the text r -/
def Tells (K : PySem.W.Frag) (H : Hp) (v : V) (r : Str) : Prop := ∃ d : PyData, Sh K H v d ∧ d.showable = true ∧ d.depth ≤ 8 ∧ ((∀ i, d ≠ .int i) → d.shown.length ≤ sizeLine) ∧ d.shown = r ∧ PyData.strOk r = true
theorem Tells.same {K : PySem.W.Frag} {H H' : Hp} {v : V} {r : Str} (h : Tells K H v r) (s : Same H H') : Tells K H' v r := by
  obtain ⟨d, h1, h2⟩ := h
  exact ⟨d, sh_same s h1, h2⟩
theorem Tells.ok {K : PySem.W.Frag} {H : Hp} {v : V} {r : Str} (h : Tells K H v r) : PyData.strOk r = true := by
  obtain ⟨d, _, _, _, _, _, h⟩ := h
  exact h
theorem tells_repr {K : PySem.W.Frag} {H : Hp} {v : V} {r : Str} {Q : VK} (h : Tells K H v r) (q : Q (.str r) H) : rRepr K [v] H Q := by
  obtain ⟨d, h1, h2, h3, h4, rfl, _⟩ := h
  exact ⟨v, d, rfl, h1, h2, h3, h4, q⟩
theorem ok_ofString (x : String) : PyData.strOk (Str.ofString x) = true := by
  rw [Str.ofString_eq_toList]
  unfold PyData.strOk
  rw [List.all_toArray, List.all_eq_true]
  intro n hn
  obtain ⟨ch, _, rfl⟩ := List.mem_map.mp hn
  have h : ch.toNat < 0xd800 ∨ (0xdfff < ch.toNat ∧ ch.toNat < 0x110000) := ch.valid
  exact decide_eq_true (by omega)
theorem tells_int {K : PySem.W.Frag} {H : Hp} {i : Int} (h : i.natAbs < 2 ^ 100) : ∃ r, Tells K H (.int i) r :=
  ⟨_, .int i, .plain (.int i) rfl, decide_eq_true (Nat.lt_of_lt_of_le (PySem.Flt.log2_lt_of (by decide) h) (by decide)), by show 0 ≤ 8; decide, fun h => absurd rfl (h i), rfl, ok_ofString _⟩
theorem tells_data {K : PySem.W.Frag} {H : Hp} {v : V} {d : PyData} (h : Sh K H v d) (c : (d.showable && decide (d.depth ≤ 8) && decide (d.shown.length ≤ sizeLine) && PyData.strOk d.shown) = true) : ∃ r, Tells K H v r := by
  simp only [Bool.and_eq_true, decide_eq_true_eq] at c
  exact ⟨_, d, h, c.1.1.1, c.1.1.2, fun _ => c.1.2, rfl, c.2⟩
theorem dpAll_rep {K : PySem.W.Frag} {H : Hp} {v : V} {d : PyData} (h : Dp K H v d) : ∀ n : Nat, DpAll K H (List.replicate n v) (List.replicate n d)
  | 0 => .nil
  | n + 1 => .cons h (dpAll_rep h n)
theorem dpAll_bl {K : PySem.W.Frag} {H : Hp} : ∀ bs : List Bool, DpAll K H (bs.map V.bl) (bs.map PyData.bool)
  | [] => .nil
  | b :: bs => .cons (.bl b) (dpAll_bl bs)
theorem canAll_bools : ∀ bs : List Bool, PyData.canLayAll0 (bs.map .bool) = true
  | [] => by simp [PyData.canLayAll0]
  | b :: bs => by simp [PyData.canLayAll0, PyData.canLay0, canAll_bools bs]
theorem depth_bools : ∀ bs : List Bool, PyData.depthAll (bs.map .bool) = 0
  | [] => by simp [PyData.depthAll]
  | b :: bs => by simp [PyData.depthAll, PyData.depth, depth_bools bs]
theorem canAll_strs {x : Str} (h : PyData.strOk x = true) : ∀ n : Nat, PyData.canLayAll0 (List.replicate n (.str x)) = true
  | 0 => by simp [PyData.canLayAll0]
  | n + 1 => by simp [List.replicate_succ, PyData.canLayAll0, PyData.canLay0, h, canAll_strs h n]
theorem depth_strs {x : Str} : ∀ n : Nat, PyData.depthAll (List.replicate n (.str x)) = 0
  | 0 => by simp [PyData.depthAll]
  | n + 1 => by simp [List.replicate_succ, PyData.depthAll, PyData.depth, depth_strs n]
theorem shaped_bools (bs : List Bool) : SeqAt.shaped (.list (bs.map .bool)) = true := by
  simp [SeqAt.shaped, PyData.canLay0, canAll_bools, PyData.depth, depth_bools]
theorem shaped_strs {x : Str} (h : PyData.strOk x = true) (n : Nat) : SeqAt.shaped (.list (List.replicate n (.str x))) = true := by
  simp [SeqAt.shaped, PyData.canLay0, canAll_strs h, PyData.depth, depth_strs]
theorem eqv_shaped {d : PyData} (h : SeqAt.shaped d = true) : PyData.eqv d d = true := SeqAt.eqv_refl d (SeqAt.canLay_of_shaped h)
theorem same_over {H H' : Hp} {d : Addr} {o : HO} (s : Same H H') (n : H d = none) : Same H (upd H' d o) := fun b u e => by
  rw [upd_ne (ne_of_none e n)]
  exact s b u e
/-- a comprehension over a list that stands still: the i-th item is f i -/
theorem lc_fun {K : PySem.W.Frag} {a : Addr} {xs : List V} {te : TE} {j : Nat} {σ : St} {H1 : Hp} {D : Addr} {Qd : Hp → Prop} (f : Nat → V) (nD : H1 D = none) (ha : SqL K H1 a xs) (hz : xs.length ≤ 1000) (hw : ∀ x, wipe ((wipe σ [j]).set j (some x)) [j] = wipe σ [j])
    (he : ∀ i x H' Q, xs[i]? = some x → Same H1 H' → Q (f i) H' → te ((wipe σ [j]).set j (some x)) H' Q) (hd : ∀ H', Same H1 H' → H' D = some (.lst ((List.range xs.length).map f)) → Qd H') :
    ∃ W : Nat → Nat → Hp → Prop, (∃ m, W 0 m (upd H1 D (.lst []))) ∧ ∀ i m H, W i m H →
      ((Itl K a).stop i H ∧ Qd H) ∨ ((Itl K a).go i H ∧ ∃ Nx : Hp → Prop, (∀ H', Nx H' → ∃ m', m' < m ∧ W (i + 1) m' H') ∧ ∀ x H', (Itl K a).yld i H x H' → (gName j) x (wipe σ [j]) H' fun σ2 H2 => wipe σ2 [j] = wipe σ [j] ∧ tYes σ2 H2 fun b H3 =>
        if b = true then te σ2 H3 fun y H4 => ∃ acc, H4 D = some (.lst acc) ∧ acc.length < sizeLine ∧ Nx (upd H4 D (.lst (acc ++ [y]))) else Nx H3) := by
  refine lc_list (K := K) (a := a) (xs := xs) (fun i H' => i ≤ xs.length ∧ Same H1 H' ∧ H' D = some (.lst ((List.range i).map f))) ⟨Nat.zero_le _, same_upd nD, upd_same⟩ (fun i H' _ ⟨_, s, _⟩ => s.seq ha) ?_ (fun H' ⟨_, s, h⟩ => hd H' s h)
  intro i x H' hi ⟨hle, s, h⟩
  have hlt := (List.getElem?_eq_some_iff.mp hi).1
  refine ⟨hw x, ?_⟩
  unfold tYes
  dsimp only
  rw [if_pos rfl]
  refine he i x H' _ hi s ⟨_, h, ?_, hlt, same_over s nD, ?_⟩
  · rw [List.length_map, List.length_range, sizeLine_eq]
    omega
  · rw [upd_same, List.range_succ, List.map_append]
    rfl
/-- .. over a range -/
theorem lc_funR {n : Nat} {te : TE} {j : Nat} {σ : St} {H1 : Hp} {D : Addr} {Qd : Hp → Prop} (f : Nat → V) (nD : H1 D = none) (hz : n ≤ 1000) (hw : ∀ x, wipe ((wipe σ [j]).set j (some x)) [j] = wipe σ [j])
    (he : ∀ i H' Q, i < n → Same H1 H' → Q (f i) H' → te ((wipe σ [j]).set j (some (.int (0 + (i : Int))))) H' Q) (hd : ∀ H', Same H1 H' → H' D = some (.lst ((List.range n).map f)) → Qd H') :
    ∃ W : Nat → Nat → Hp → Prop, (∃ m, W 0 m (upd H1 D (.lst []))) ∧ ∀ i m H, W i m H →
      ((Itr 0 n).stop i H ∧ Qd H) ∨ ((Itr 0 n).go i H ∧ ∃ Nx : Hp → Prop, (∀ H', Nx H' → ∃ m', m' < m ∧ W (i + 1) m' H') ∧ ∀ x H', (Itr 0 n).yld i H x H' → (gName j) x (wipe σ [j]) H' fun σ2 H2 => wipe σ2 [j] = wipe σ [j] ∧ tYes σ2 H2 fun b H3 =>
        if b = true then te σ2 H3 fun y H4 => ∃ acc, H4 D = some (.lst acc) ∧ acc.length < sizeLine ∧ Nx (upd H4 D (.lst (acc ++ [y]))) else Nx H3) := by
  refine lc_range (lo := 0) (n := n) (fun i H' => i ≤ n ∧ Same H1 H' ∧ H' D = some (.lst ((List.range i).map f))) ⟨Nat.zero_le _, same_upd nD, upd_same⟩ ?_ (fun H' ⟨_, s, h⟩ => hd H' s h)
  intro i H' hlt ⟨hle, s, h⟩
  refine ⟨hw _, ?_⟩
  unfold tYes
  dsimp only
  rw [if_pos rfl]
  refine he i H' _ hlt s ⟨_, h, ?_, hlt, same_over s nD, ?_⟩
  · rw [List.length_map, List.length_range, sizeLine_eq]
    omega
  · rw [upd_same, List.range_succ, List.map_append]
    rfl
theorem map_range_const {α : Type} (x : α) (n : Nat) : (List.range n).map (fun _ => x) = List.replicate n x := by
  induction n with
  | zero => rfl
  | succ n ih => rw [List.range_succ, List.map_append, ih, List.replicate_succ']; rfl
end K0
set_option maxHeartbeats 4000000
/-! data, with empty dicts in it, and what the program asks of it -/
namespace K1
open PySem L2
mutual
/-- a value that is data: lists are tracked or written, dicts empty -/
inductive DQ (K : PySem.W.Frag) (H : Hp) : V → PyData → Prop
  | non : DQ K H .non .none
  | bl (b : Bool) : DQ K H (.bl b) (.bool b)
  | int (i : Int) : DQ K H (.int i) (.int i)
  | str (x : Str) (h : x.length ≤ 1000) : DQ K H (.str x) (.str x)
  | lst {a : Addr} {xs : List V} {ds : List PyData} : SqL K H a xs → DQs K H xs ds → DQ K H (.ref a) (.list ds)
  | tup {a : Addr} {xs : List V} {ds : List PyData} : SqT K H a xs → DQs K H xs ds → DQ K H (.ref a) (.tuple ds)
  | dct {a : Addr} : H a = some (.dK []) → DQ K H (.ref a) (.dict [])
inductive DQs (K : PySem.W.Frag) (H : Hp) : List V → List PyData → Prop
  | nil : DQs K H [] []
  | cons {v : V} {vs : List V} {d : PyData} {ds : List PyData} : DQ K H v d → DQs K H vs ds → DQs K H (v :: vs) (d :: ds)
end
mutual
theorem DQ.same {K : PySem.W.Frag} {H H' : Hp} (s : Same H H') : ∀ (d : PyData) (v : V), DQ K H v d → DQ K H' v d
  | .none, _, h => by
    cases h
    exact .non
  | .bool b, _, h => by
    cases h
    exact .bl b
  | .int i, _, h => by
    cases h
    exact .int i
  | .str x, _, h => by
    cases h with
    | str _ h => exact .str x h
  | .list ds, _, h => by
    cases h with
    | lst h1 h2 => exact .lst (s.seq h1) (DQs.same s ds _ h2)
  | .tuple ds, _, h => by
    cases h with
    | tup h1 h2 => exact .tup (K0.seqT_same s h1) (DQs.same s ds _ h2)
  | .dict [], _, h => by
    cases h with
    | dct h => exact .dct (s _ _ h)
  | .dict (_ :: _), _, h => by cases h
theorem DQs.same {K : PySem.W.Frag} {H H' : Hp} (s : Same H H') : ∀ (ds : List PyData) (vs : List V), DQs K H vs ds → DQs K H' vs ds
  | [], _, h => by
    cases h
    exact .nil
  | d :: ds, _, h => by
    cases h with
    | cons h1 h2 => exact .cons (DQ.same s d _ h1) (DQs.same s ds _ h2)
end
theorem DQ.to {K : PySem.W.Frag} {H H' : Hp} {d : PyData} {v : V} (h : DQ K H v d) (s : Same H H') : DQ K H' v d := DQ.same s d v h
theorem DQs.len {K : PySem.W.Frag} {H : Hp} : ∀ {vs : List V} {ds : List PyData}, DQs K H vs ds → vs.length = ds.length
  | _, _, .nil => rfl
  | _, _, .cons _ t => by rw [List.length_cons, List.length_cons, t.len]
theorem DQs.get {K : PySem.W.Frag} {H : Hp} : ∀ {vs : List V} {ds : List PyData} {i : Nat} {d : PyData}, DQs K H vs ds → ds[i]? = some d → ∃ v, vs[i]? = some v ∧ DQ K H v d
  | _, _, i, d, .nil, h => by simp at h
  | _, _, 0, d, .cons r t, h => by
    simp at h
    subst h
    exact ⟨_, rfl, r⟩
  | _, _, i + 1, d, .cons r t, h => by
    obtain ⟨v, h1, h2⟩ := t.get (i := i) (d := d) (by simpa using h)
    exact ⟨v, by simpa using h1, h2⟩
/-- the name of its type -/
def tyD : PyData → String
  | .none => "NoneType"
  | .bool _ => "bool"
  | .int _ => "int"
  | .str _ => "str"
  | .list _ => "list"
  | .tuple _ => "tuple"
  | .dict _ => "dict"
def isInt : PyData → Bool
  | .int _ => true
  | .bool _ => true
  | _ => false
def isBool : PyData → Bool
  | .bool _ => true
  | _ => false
def isStr : PyData → Bool
  | .str _ => true
  | _ => false
def isTup : PyData → Bool
  | .tuple _ => true
  | _ => false
theorem kit_int (d : PyData) : kitB (tyD d) "int" = some (isInt d) := by cases d <;> (simp only [tyD, isInt]; decide +kernel)
theorem kit_bool (d : PyData) : kitB (tyD d) "bool" = some (isBool d) := by cases d <;> (simp only [tyD, isBool]; decide +kernel)
theorem kit_str (d : PyData) : kitB (tyD d) "str" = some (isStr d) := by cases d <;> (simp only [tyD, isStr]; decide +kernel)
theorem kit_tup (d : PyData) : kitB (tyD d) "tuple" = some (isTup d) := by cases d <;> (simp only [tyD, isTup]; decide +kernel)
theorem tyX_of {K : PySem.W.Frag} {H : Hp} {v : V} {d : PyData} (h : DQ K H v d) : TyX K H v (.type (tyD d)) := by
  cases h with
  | non => exact .base .non
  | bl b => exact .base (.bl b)
  | int i => exact .base (.int i)
  | str x _ => exact .base (.str x)
  | lst h _ =>
    rcases h with (h | ⟨o, h⟩) | ⟨o, its, n, h1, h2, _⟩
    · exact .base (.lst h)
    · exact .base (.frz h)
    · exact .kList h1 h2
  | tup h _ =>
    rcases h with (h | ⟨o, h⟩) | ⟨o, its, n, h1, h2, _⟩
    · exact .base (.tup h)
    · exact .fTuple h
    · exact .kTuple h1 h2
  | dct h => exact .base (.dK h)
theorem isi_ask {K : PySem.W.Frag} {H : Hp} {v : V} {d : PyData} {n : String} {b : Bool} {Q : VK} (h : DQ K H v d) (e : kitB (tyD d) n = some b) (q : Q (.bl b) H) : rIsi K [v, .ty n] H Q :=
  ⟨v, .ty n, .type (tyD d), .type n, b, rfl, .ty n, tyX_of h, kit_ty e, q⟩
/-! ### what the document calls numbers, names, stamps, bodies and deeds, of data -/
def numD : PyData → Bool
  | .int _ => true
  | _ => false
def fromD (lo hi : Int) : PyData → Bool
  | .int i => decide (lo ≤ i) && decide (i ≤ hi)
  | _ => false
def tupD (n : Nat) : PyData → Bool
  | .tuple ds => decide (ds.length = n)
  | _ => false
def stampD : PyData → Bool
  | .tuple [a, b] => fromD 1 999 a && fromD 0 3 b
  | _ => false
def rootD : PyData → Bool
  | .tuple [a, b] => fromD 0 0 a && fromD 0 0 b
  | _ => false
def thingD (d : PyData) : Bool := stampD d || rootD d
def letter (c : Nat) : Bool := decide (97 ≤ c) && decide (c ≤ 122)
def nameD : PyData → Bool
  | .str x => decide (1 ≤ x.length) && decide (x.length ≤ 4) && x.cps.toList.all letter
  | _ => false
def binderD (d : PyData) : Bool := match d with
  | .none => true
  | d => thingD d
def noneD : PyData → Bool
  | .none => true
  | _ => false
def holdsD : PyData → Bool
  | .str x => x == "block" || x == "let" || x == "sum" || x == "product"
  | _ => false
def contentD (k c : PyData) : Bool := match k with
  | .str x => if x = "let" then nameD c else if x = "use" then binderD c else if x = "number" then fromD 0 99 c else holdsD k && noneD c
  | _ => false
def writeD (w c : PyData) : Bool := match w with
  | .str x => if x = "wish" then nameD c else if x = "point" then binderD c else decide (x = "set") && fromD 0 99 c
  | _ => false
def seenD (t : Int) : PyData → Bool
  | .tuple ds => decide (ds.length = 4) && ds.all (fromD 0 (t - 1))
  | _ => false
def makeR : List PyData → Bool
  | [k, u, y, c] => thingD u && (fromD 0 999 y && contentD k c)
  | _ => false
def moveR : List PyData → Bool
  | [t, u, y] => thingD t && (thingD u && fromD 0 999 y)
  | _ => false
def dropR : List PyData → Bool
  | [t] => thingD t
  | _ => false
def markR : List PyData → Bool
  | [t] => stampD t
  | _ => false
def writeR (w : Str) : List PyData → Bool
  | [t, c] => thingD t && writeD (.str w) c
  | _ => false
def bodyR (w : Str) (r : List PyData) : Bool :=
  if w = "make" then makeR r else if w = "move" then moveR r else if w = "drop" then dropR r else if w = "undo" ∨ w = "redo" then markR r else writeR w r
def bodyD : PyData → Bool
  | .tuple (.str w :: r) => bodyR w r
  | _ => false
def timeD : PyData → Int
  | .tuple (.int t :: _) => t
  | _ => 0
def deedD : PyData → Bool
  | .tuple [s, k, b] => stampD s && (seenD (timeD s) k && bodyD b)
  | _ => false
/-! ### promises -/
/-- a question of one value of data -/
def spD (K : PySem.W.Frag) (f : PyData → Bool) : Sp := fun vs H Q _ => ∃ v d, vs = [v] ∧ DQ K H v d ∧ ∀ H', Same H H' → Q (.bl (f d)) H'
def spFrom (K : PySem.W.Frag) : Sp := fun vs H Q _ => ∃ v d lo hi, vs = [v, .int lo, .int hi] ∧ DQ K H v d ∧ ∀ H', Same H H' → Q (.bl (fromD lo hi d)) H'
def spTup (K : PySem.W.Frag) : Sp := fun vs H Q _ => ∃ v d, ∃ n : Nat, vs = [v, .int n] ∧ DQ K H v d ∧ ∀ H', Same H H' → Q (.bl (tupD n d)) H'
end K1
set_option maxHeartbeats 4000000
namespace K1
open PySem L2
def top (i : Nat) : Stmt := PySem.Challenge.pw_sharedscopes_k01_deeds_and_names.main.body.getD i (.Pass ⟨0, 0, 0, 0⟩)
abbrev s_is_number : Stmt := top 1
abbrev s_is_from : Stmt := top 2
abbrev s_is_tuple_of : Stmt := top 3
abbrev s_is_name : Stmt := top 26
abbrev s_is_stamp : Stmt := top 27
abbrev s_is_thing : Stmt := top 28
abbrev s_is_body : Stmt := top 29
abbrev s_is_deed : Stmt := top 30
/-- the built-ins' names are not the module's -/
structure Bi (mg : Str → Option Value) : Prop where
  isi : mg "isinstance" = none
  int : mg "int" = none
  bool : mg "bool" = none
  str : mg "str" = none
  tuple : mg "tuple" = none
  len : mg "len" = none
  all : mg "all" = none
/-- a def of the text, called by its name -/
structure Dn (K : PySem.W.Frag) (mg : Str → Option Value) (x : Str) (ps : List Str) (st : Stmt) (g : Addr) (fd : FuncData) : Prop where
  fn : Fun K x x st g fd
  bn : Binds K fd ps []
  mg : mg x = some (.ref g)
theorem DQ.item {K : PySem.W.Frag} {H : Hp} {v : V} {ds : List PyData} {i : Nat} {d : PyData} (h : DQ K H v (.tuple ds)) (hi : ds[i]? = some d) : ∃ a xs u, v = .ref a ∧ SqT K H a xs ∧ atI xs (i : Int) = some u ∧ DQ K H u d := by
  cases h with
  | tup h1 h2 =>
    obtain ⟨u, e, q⟩ := h2.get hi
    exact ⟨_, _, u, rfl, h1, atI_nat e, q⟩
/-- isinstance(v, a built-in type), of data -/
def rIsiD (K : PySem.W.Frag) : List V → Hp → VK → Prop := fun xs H Q => ∃ v d n b, xs = [v, .ty n] ∧ DQ K H v d ∧ kitB (tyD d) n = some b ∧ Q (.bl b) H
theorem call_isiD {X : Cx} : CallR X (.builtin "isinstance") (rIsiD X.K) := by
  intro pins s σ H xs us Q I r ⟨v, d, n, b, e, hd, hk, q⟩
  subst e
  exact call_isi pins s σ H _ us Q I r (isi_ask hd hk q)
section
variable {P : Program} {w : World} {K : PySem.W.Frag} {mg : Str → Option Value} {base : Heap}
theorem sc_number : FnScope ["value"] ["value"] (defScope s_is_number) := ⟨rfl, rfl, rfl, by decide +kernel, rfl, by decide +kernel, by decide +kernel⟩
theorem ok_number {f : Addr} {fd : FuncData} (F : Fun K "is_number" "is_number" s_is_number f fd) (B : Bi mg) : FnOk P w K mg base CX0 1 f fd ["value"] (spD K numD) := by
  refine F.ok sc_number (fun vs H Q E h => ?_) (fun cdv A outer s H vs Q E hr h => ?_)
  · obtain ⟨v, d, rfl, _⟩ := h
    rfl
  · obtain ⟨v, d, rfl, hd, k⟩ := h
    refine ⟨_, pss_one (ps_ret (pe_and (pe_callB call_isiD (by rfl) B.isi (by decide +kernel) (pa_cons (pv 0) (pa_cons (pe_bltn (v := .ty "int") (by rfl) B.int (by decide +kernel) rfl) pa_nil)))
      (pe_one (pe_not (pe_callB call_isiD (by rfl) B.isi (by decide +kernel) (pa_cons (pv 0) (pa_cons (pe_bltn (v := .ty "bool") (by rfl) B.bool (by decide +kernel) rfl) pa_nil))))))), ?_⟩
    refine ⟨_, rfl, v, d, _, _, rfl, hd, kit_int d, _, rfl, ?_⟩
    have k' := k H (Same.refl H)
    cases hd with
    | int i => exact iteT ⟨_, rfl, _, _, _, _, rfl, .int i, kit_bool _, _, rfl, k'⟩
    | bl b => exact iteT ⟨_, rfl, _, _, _, _, rfl, .bl b, kit_bool _, _, rfl, k'⟩
    | _ => exact iteF k'
theorem sc_from : FnScope ["value", "least", "most"] ["value", "least", "most"] (defScope s_is_from) := ⟨rfl, rfl, rfl, by decide +kernel, rfl, by decide +kernel, by decide +kernel⟩
theorem ok_from {f g : Addr} {fd fg : FuncData} (F : Fun K "is_from" "is_from" s_is_from f fd) (B : Bi mg) (D : Dn K mg "is_number" ["value"] s_is_number g fg) : FnOk P w K mg base CX0 2 f fd ["value", "least", "most"] (spFrom K) := by
  have G : FnOk P w K mg base CX0 1 g fg _ (spD K numD) := ok_number D.fn B
  refine F.ok sc_from (fun vs H Q E h => ?_) (fun cdv A outer s H vs Q E hr h => ?_)
  · obtain ⟨v, d, lo, hi, rfl, _⟩ := h
    rfl
  · obtain ⟨v, d, lo, hi, rfl, hd, k⟩ := h
    refine ⟨_, pss_one (ps_ret (pe_and (pe_call G hr rfl D.mg D.fn.kp D.bn .nil pass0 (pa_cons (pv 0) pa_nil)) (pe_one (pe_chain op_le op_le (pv 1) (pv 0) (pv 2))))), ?_⟩
    refine ⟨_, rfl, v, d, rfl, hd, fun H1 S1 => ⟨_, rfl, ?_⟩⟩
    have k' := k H1 S1
    cases hd with
    | int i =>
      refine iteT ⟨_, rfl, _, rfl, _, _, rfl, rfl, _, rfl, ?_⟩
      have e : fromD lo hi (.int i) = (decide (lo ≤ i) && decide (i ≤ hi)) := rfl
      rw [e] at k'
      refine ite2 (fun h => ?_) (fun h => ?_)
      · rw [h, Bool.true_and] at k'
        exact ⟨_, rfl, _, _, rfl, rfl, k'⟩
      · rw [Bool.eq_false_iff.mpr h, Bool.false_and] at k'
        exact k'
    | _ => exact iteF k'
theorem sc_tupleof : FnScope ["value", "many"] ["value", "many"] (defScope s_is_tuple_of) := ⟨rfl, rfl, rfl, by decide +kernel, rfl, by decide +kernel, by decide +kernel⟩
theorem dec_len {a b : Nat} : decide (V.int (a : Int) = V.int (b : Int)) = decide (a = b) := by
  by_cases h : a = b
  · subst h
    rw [decide_eq_true rfl, decide_eq_true rfl]
  · rw [decide_eq_false h, decide_eq_false fun z => h ?_]
    injection z with z
    omega
theorem ok_tupleof {f : Addr} {fd : FuncData} (F : Fun K "is_tuple_of" "is_tuple_of" s_is_tuple_of f fd) (B : Bi mg) : FnOk P w K mg base CX0 1 f fd ["value", "many"] (spTup K) := by
  refine F.ok sc_tupleof (fun vs H Q E h => ?_) (fun cdv A outer s H vs Q E hr h => ?_)
  · obtain ⟨v, d, n, rfl, _⟩ := h
    rfl
  · obtain ⟨v, d, n, rfl, hd, k⟩ := h
    refine ⟨_, pss_one (ps_ret (pe_and (pe_callB call_isiD (by rfl) B.isi (by decide +kernel) (pa_cons (pv 0) (pa_cons (pe_bltn (v := .ty "tuple") (by rfl) B.tuple (by decide +kernel) rfl) pa_nil)))
      (pe_one (pe_cmpR op_eq (pe_callB call_len_seq (by rfl) B.len PySem.boot_len (pa_cons (pv 0) pa_nil)) (pv 1) (nomark _))))), ?_⟩
    refine ⟨_, rfl, v, d, _, _, rfl, hd, kit_tup d, _, rfl, ?_⟩
    have k' := k H (Same.refl H)
    cases hd with
    | @tup a xs ds h1 h2 =>
      refine iteT ⟨_, rfl, a, xs, rfl, .inr h1, _, rfl, rfl, ?_⟩
      rw [h2.len, dec_len]
      exact k'
    | _ => exact iteF k'
end
end K1
set_option maxHeartbeats 4000000
namespace K1
open PySem L2
abbrev s_can_make : Stmt := top 39
abbrev s_can_hold : Stmt := top 40
abbrev s_can_write : Stmt := top 41
abbrev s_is_key : Stmt := top 42
abbrev s_is_value : Stmt := top 43
abbrev s_is_binder : Stmt := top 44
abbrev s_is_seen : Stmt := top 45
abbrev s_does_hold : Stmt := top 34
/-- the module's constants -/
structure Cn (K : PySem.W.Frag) (mg : Str → Option Value) : Prop where
  mt : ∃ t, mg "MOST_TIME" = some (.int 999 t)
  hol : ∃ a, mg "_HOLDERS" = some (.ref a) ∧ ∀ H, SqT K H a [.str "block", .str "let", .str "sum", .str "product"]
  mar : ∃ a, mg "_MARKS" = some (.ref a) ∧ ∀ H, SqT K H a [.str "undo", .str "redo"]
  let_ : ∃ t, mg "_LETTERS" = some (.str "abcdefghijklmnopqrstuvwxyz" t)
theorem letters : ("abcdefghijklmnopqrstuvwxyz" : Str).cps.toList = [97, 98, 99, 100, 101, 102, 103, 104, 105, 106, 107, 108, 109, 110, 111, 112, 113, 114, 115, 116, 117, 118, 119, 120, 121, 122] := by decide +kernel
theorem mem_letters (c : Nat) : decide (c ∈ ("abcdefghijklmnopqrstuvwxyz" : Str).cps.toList) = letter c := by
  rw [letters, Bool.eq_iff_iff]
  unfold letter
  simp only [decide_eq_true_eq, List.mem_cons, List.not_mem_nil, or_false, Bool.and_eq_true]
  omega
/-- a comprehension over a text's signs -/
theorem lc_funS {z : Str} {te : TE} {j : Nat} {σ : St} {H1 : Hp} {D : Addr} {Qd : Hp → Prop} (f : Nat → V) (nD : H1 D = none) (hz : z.cps.size ≤ 1000) (hw : ∀ x, wipe ((wipe σ [j]).set j (some x)) [j] = wipe σ [j])
    (he : ∀ i c H' Q, z.cps[i]? = some c → Same H1 H' → Q (f i) H' → te ((wipe σ [j]).set j (some (.str ⟨#[c]⟩))) H' Q) (hd : ∀ H', Same H1 H' → H' D = some (.lst ((List.range z.cps.size).map f)) → Qd H') :
    ∃ W : Nat → Nat → Hp → Prop, (∃ m, W 0 m (upd H1 D (.lst []))) ∧ ∀ i m H, W i m H →
      ((Its z).stop i H ∧ Qd H) ∨ ((Its z).go i H ∧ ∃ Nx : Hp → Prop, (∀ H', Nx H' → ∃ m', m' < m ∧ W (i + 1) m' H') ∧ ∀ x H', (Its z).yld i H x H' → (gName j) x (wipe σ [j]) H' fun σ2 H2 => wipe σ2 [j] = wipe σ [j] ∧ tYes σ2 H2 fun b H3 =>
        if b = true then te σ2 H3 fun y H4 => ∃ acc, H4 D = some (.lst acc) ∧ acc.length < sizeLine ∧ Nx (upd H4 D (.lst (acc ++ [y]))) else Nx H3) := by
  refine lc_it (walk_str (z := z)) (fun i H' => i ≤ z.cps.size ∧ Same H1 H' ∧ H' D = some (.lst ((List.range i).map f))) ⟨Nat.zero_le _, K0.same_upd nD, upd_same⟩ (fun _ _ _ _ => trivial) ?_ (fun H' ⟨_, s, h⟩ => hd H' s h)
  rintro i x H2 H' hlt ⟨hle, s, h⟩ ⟨rfl, c, hc, rfl⟩
  refine ⟨hw _, ?_⟩
  unfold tYes
  dsimp only
  rw [if_pos rfl]
  refine he i c _ _ hc s ⟨_, h, ?_, hlt, K0.same_over s nD, ?_⟩
  · rw [List.length_map, List.length_range, sizeLine_eq]
    omega
  · rw [upd_same, List.range_succ, List.map_append]
    rfl
def ask {α : Type} (p : α → Bool) : Option α → Bool
  | some x => p x
  | none => true
theorem all_range {α : Type} (p : α → Bool) : ∀ (l : List α), ((List.range l.length).map fun i => ask p l[i]?).all id = l.all p := by
  intro l
  rw [Bool.eq_iff_iff]
  simp only [List.all_map, List.all_eq_true, List.mem_range, Function.comp, id]
  constructor
  · intro h x hx
    obtain ⟨i, hi, e⟩ := List.mem_iff_getElem.mp hx
    have z := h i hi
    rw [List.getElem?_eq_getElem hi] at z
    rw [e] at z
    exact z
  · intro h i hi
    rw [List.getElem?_eq_getElem hi]
    exact h _ (List.getElem_mem hi)
section
variable {P : Program} {w : World} {K : PySem.W.Frag} {mg : Str → Option Value} {base : Heap}
theorem sc_name : FnScope ["value", "sign"] ["value"] (defScope s_is_name) := ⟨rfl, rfl, rfl, by decide +kernel, rfl, by decide +kernel, by decide +kernel⟩
theorem ok_name {f : Addr} {fd : FuncData} (F : Fun K "is_name" "is_name" s_is_name f fd) (B : Bi mg) (C : Cn K mg) : FnOk P w K mg base CX0 1 f fd ["value"] (spD K nameD) := by
  refine F.ok sc_name (fun vs H Q E h => ?_) (fun cdv A outer s H vs Q E hr h => ?_)
  · obtain ⟨v, d, rfl, _⟩ := h
    rfl
  · obtain ⟨v, d, rfl, hd, k⟩ := h
    obtain ⟨tL, hL⟩ := C.let_
    refine ⟨_, pss_cons (ps_if (PW.pt (pw_or (pt_not (pt_val (pe_callB call_isiD (by rfl) B.isi (by decide +kernel) (pa_cons (pv 0) (pa_cons (pe_bltn (v := .ty "str") (by rfl) B.str (by decide +kernel) rfl) pa_nil)))))
        (pw_or1 (pt_not (pt_chain op_le op_le pe_int (pe_callB call_len_str (by rfl) B.len PySem.boot_len (pa_cons (pv 0) pa_nil)) pe_int))))) (pss_one (ps_ret pe_bl)) pss_nil)
      (pss_one (ps_ret (pe_callB (cr_all rfl) (by rfl) B.all (by decide +kernel) (pa_cons (pe_lc (own := [("sign", 1)]) (g := gName 1) (tt := tYes) rfl sc_name.nd (pi_str (pv 0)) (blkOk_by (own := [("sign", 1)]) (N := ["value", "sign"]) (sc := defScope s_is_name) (by decide +kernel))
        (fun _ _ _ _ _ => pg_name (i := 1) sc_name.nd rfl (Or.inl rfl)) (fun _ _ _ _ _ => pts_nil) (fun _ _ _ _ _ => pe_cmpR op_in_sign (pv 1) (pe_glob (v := .str "abcdefghijklmnopqrstuvwxyz") rfl hL ⟨_, rfl⟩) rfl)) pa_nil)))), ?_⟩
    refine ⟨_, rfl, v, d, _, _, rfl, hd, kit_str d, _, rfl, ?_⟩
    have k' := k H (Same.refl H)
    cases hd with
    | str x hx =>
      refine iteF ⟨_, rfl, x, rfl, ?_, _, _, rfl, rfl, _, rfl, ?_⟩
      · rw [sizeLine_eq]
        omega
      · have e : nameD (.str x) = (decide (1 ≤ x.length) && decide (x.length ≤ 4) && x.cps.toList.all letter) := rfl
        rw [e] at k'
        refine ite2 (fun h1 => ?_) (fun h1 => ?_)
        · refine ⟨_, _, rfl, rfl, _, rfl, ?_⟩
          have h1' : 1 ≤ x.length := by
            have := of_decide_eq_true h1
            omega
          by_cases h2 : x.length ≤ 4
          · refine iteNS (by omega) ?_
            refine ⟨_, rfl, x, rfl, fun Dd nD => ?_⟩
            have hs : x.cps.size = x.cps.toList.length := (Array.length_toList).symm
            refine lc_funS (z := x) (j := 1) (fun i => .bl (ask letter x.cps.toList[i]?)) nD (by show x.length ≤ 1000; exact hx) (fun _ => rfl) (fun i c H' Q' hc s' q => ?_) (fun H' s' hD => ?_)
            · refine ⟨_, rfl, c, _, rfl, rfl, ?_⟩
              rw [mem_letters]
              rw [← Array.getElem?_toList] at hc
              rw [hc] at q
              exact q
            · refine ⟨Dd, (List.range x.cps.size).map fun i => ask letter x.cps.toList[i]?, rfl, SqL.of (hD.trans (by rw [List.map_map]; rfl)), ?_⟩
              have z := k H' s'
              rw [e, decide_eq_true h1', decide_eq_true h2, Bool.true_and, Bool.true_and, ← all_range, ← hs] at z
              exact z
          · rw [decide_eq_true h1', decide_eq_false h2] at k'
            rw [decide_eq_false (by omega)]
            exact iteT k'
        · have h1' : ¬ 1 ≤ x.length := fun h => h1 (decide_eq_true (by omega))
          rw [decide_eq_false h1'] at k'
          exact ⟨_, rfl, iteT k'⟩
    | _ => exact iteT (iteT k')
end
end K1
set_option maxHeartbeats 4000000
namespace K1
open PySem L2
def tabL : List (Nat × Str × List Str) := [(1, (("is_number" : Str), [("value" : Str)])),
  (2, (("is_from" : Str), [("value" : Str), ("least" : Str), ("most" : Str)])),
  (3, (("is_tuple_of" : Str), [("value" : Str), ("many" : Str)])),
  (26, (("is_name" : Str), [("value" : Str)])),
  (27, (("is_stamp" : Str), [("value" : Str)])),
  (28, (("is_thing" : Str), [("value" : Str)])),
  (29, (("is_body" : Str), [("value" : Str)])),
  (30, (("is_deed" : Str), [("value" : Str)])),
  (31, (("is_mark" : Str), [("deed" : Str)])),
  (32, (("named_by" : Str), [("deed" : Str)])),
  (33, (("time_seen" : Str), [("deed" : Str), ("hand" : Str)])),
  (34, (("does_hold" : Str), [("kind" : Str)])),
  (35, (("check_deed" : Str), [("deed" : Str)])),
  (36, (("check_hand" : Str), [("hand" : Str)])),
  (37, (("does_mark" : Str), [("body" : Str)])),
  (38, (("names_in" : Str), [("body" : Str)])),
  (39, (("_can_make" : Str), [("body" : Str)])),
  (40, (("_can_hold" : Str), [("kind" : Str), ("content" : Str)])),
  (41, (("_can_write" : Str), [("word" : Str), ("content" : Str)])),
  (42, (("_is_key" : Str), [("value" : Str)])),
  (43, (("_is_value" : Str), [("value" : Str)])),
  (44, (("_is_binder" : Str), [("value" : Str)])),
  (45, (("_is_seen" : Str), [("value" : Str), ("time" : Str)])),
  (46, (("_named_things" : Str), [("body" : Str)])),
  (48, (("_law_pool" : Str), [("_law_script" : Str), ("_law_k" : Str)])),
  (49, (("_law_take" : Str), [("_law_source" : Str), ("_law_top" : Str)])),
  (50, (("_law_one" : Str), [("_law_source" : Str), ("_law_things" : Str)])),
  (51, (("_law_rounds" : Str), [("_law_script" : Str)])),
  (52, (("_law_stamps" : Str), [("_law_some" : Str)])),
  (53, (("_law_world" : Str), [("_law_many" : Str)])),
  (54, (("_law_seen_deeds" : Str), [("_law_world_here" : Str), ("_law_hand" : Str)])),
  (55, (("_law_learn" : Str), [("_law_source" : Str), ("_law_world_here" : Str), ("_law_hand" : Str)])),
  (56, (("_law_content" : Str), [("_law_source" : Str), ("_law_kind" : Str), ("_law_some" : Str)])),
  (57, (("_law_holders" : Str), [("_law_some" : Str)])),
  (58, (("_law_made_body" : Str), [("_law_source" : Str), ("_law_some" : Str)])),
  (59, (("_law_body" : Str), [("_law_source" : Str), ("_law_some" : Str)])),
  (60, (("_law_do" : Str), [("_law_source" : Str), ("_law_world_here" : Str), ("_law_hand" : Str), ("_law_body_here" : Str)])),
  (61, (("_law_step" : Str), [("_law_source" : Str), ("_law_world_here" : Str)])),
  (62, (("_law_drawn" : Str), [("_law_source" : Str), ("_law_most" : Str), ("_law_many" : Str)])),
  (63, (("_law_caught" : Str), [("_law_call" : Str)])),
  (64, (("_law_whole" : Str), [("_law_value" : Str), ("_law_low" : Str), ("_law_high" : Str)])),
  (65, (("_law_a_stamp" : Str), [("_law_value" : Str)])),
  (66, (("_law_a_place" : Str), [("_law_value" : Str)])),
  (67, (("_law_a_name" : Str), [("_law_value" : Str)])),
  (68, (("_law_a_content" : Str), [("_law_kind" : Str), ("_law_value" : Str)])),
  (69, (("_law_a_body" : Str), [("_law_value" : Str)])),
  (70, (("_law_a_deed" : Str), [("_law_value" : Str)])),
  (71, (("_law_names" : Str), [("_law_deed" : Str)])),
  (72, (("_law_odd" : Str), [("_law_source" : Str)])),
  (73, (("_law_bent" : Str), [("_law_source" : Str), ("_law_thing" : Str)])),
  (74, (("_law_value_right" : Str), [("_law_value" : Str)])),
  (75, (("_law_deed_right" : Str), [("_law_source" : Str), ("_law_deed" : Str)])),
  (76, (("law" : Str), [("_law_script" : Str)]))]

/-- all that the top has written -/
structure All (K : PySem.W.Frag) (mg : Str → Option Value) : Prop where
  dn : ∀ i x ps, tabL.lookup i = some (x, ps) → ∃ g fd, Dn K mg x ps (top i) g fd
  bi : Bi mg
  cn : Cn K mg
/-- a def that keeps a promise, called by its name -/
def Cl (P : Program) (w : World) (K : PySem.W.Frag) (mg : Str → Option Value) (base : Heap) (k : Nat) (x : Str) (ps : List Str) (sp : Sp) : Prop :=
  ∃ g fd, FnOk P w K mg base CX0 k g fd ps sp ∧ mg x = some (.ref g) ∧ PySem.W.keepIn K (.ref g) = true ∧ Binds K fd ps []
theorem Dn.cl {P : Program} {w : World} {K : PySem.W.Frag} {mg : Str → Option Value} {base : Heap} {k : Nat} {x : Str} {ps : List Str} {st : Stmt} {g : Addr} {fd : FuncData} {sp : Sp} (D : Dn K mg x ps st g fd) (F : FnOk P w K mg base CX0 k g fd ps sp) : Cl P w K mg base k x ps sp :=
  ⟨g, fd, F, D.mg, D.fn.kp, D.bn⟩
theorem pe_cl {X : Cx} {k m : Nat} {x : Str} {ps : List Str} {sp : Sp} {e : Expr} {es : List Expr} {t : TA} {p pos : Pos} (C : Cl X.prog X.w X.K X.mg X.base k x ps sp) (hr : Room m X.A) (hk : k ≤ m) (ha : PA X (e :: es) t) (hg : Gl X x := by rfl) (hdb : (x == ("__debug__" : Str)) = false := by decide)
    (he : starEach (e :: es) X.env = (false, eval e X.env) :: starEach es X.env := by rfl) (hpl : (backTo pos (starEach es X.env)).any (·.1) = false := by rfl) : PE X (.Call (.Name x p) (e :: es) [] pos) (tCall sp [] E0 t) := by
  obtain ⟨g, fd, F, hm, hk', hb⟩ := C
  exact pe_call F (hr.mono hk) hg hm hk' hb .nil pass0 ha hdb he hpl
section
variable {P : Program} {w : World} {K : PySem.W.Frag} {mg : Str → Option Value} {base : Heap}
theorem cl_number (T : All K mg) : Cl P w K mg base 1 "is_number" ["value"] (spD K numD) := by
  obtain ⟨g, fd, D⟩ := T.dn 1 _ _ rfl
  exact D.cl (ok_number D.fn T.bi)
theorem cl_from (T : All K mg) : Cl P w K mg base 2 "is_from" ["value", "least", "most"] (spFrom K) := by
  obtain ⟨g, fd, D⟩ := T.dn 2 _ _ rfl
  obtain ⟨g1, fd1, D1⟩ := T.dn 1 _ _ rfl
  exact D.cl (ok_from D.fn T.bi D1)
theorem cl_tupleof (T : All K mg) : Cl P w K mg base 1 "is_tuple_of" ["value", "many"] (spTup K) := by
  obtain ⟨g, fd, D⟩ := T.dn 3 _ _ rfl
  exact D.cl (ok_tupleof D.fn T.bi)
theorem cl_name (T : All K mg) : Cl P w K mg base 1 "is_name" ["value"] (spD K nameD) := by
  obtain ⟨g, fd, D⟩ := T.dn 26 _ _ rfl
  exact D.cl (ok_name D.fn T.bi T.cn)
/-- the words of a question by is_from of one value, with written bounds -/
theorem sc_key : FnScope ["value"] ["value"] (defScope s_is_key) := ⟨rfl, rfl, rfl, by decide +kernel, rfl, by decide +kernel, by decide +kernel⟩
theorem cl_key (T : All K mg) : Cl P w K mg base 3 "_is_key" ["value"] (spD K (fromD 0 999)) := by
  obtain ⟨g, fd, D⟩ := T.dn 42 _ _ rfl
  refine D.cl (D.fn.ok sc_key (fun vs H Q E h => ?_) (fun cdv A outer s H vs Q E hr h => ?_))
  · obtain ⟨v, d, rfl, _⟩ := h
    rfl
  · obtain ⟨v, d, rfl, hd, k⟩ := h
    exact ⟨_, pss_one (ps_ret (pe_cl (cl_from T) hr (by decide) (pa_cons (pv 0) (pa_cons pe_int (pa_cons pe_int pa_nil))))), _, rfl, v, d, _, _, rfl, hd, k⟩
theorem sc_value : FnScope ["value"] ["value"] (defScope s_is_value) := ⟨rfl, rfl, rfl, by decide +kernel, rfl, by decide +kernel, by decide +kernel⟩
theorem cl_value (T : All K mg) : Cl P w K mg base 3 "_is_value" ["value"] (spD K (fromD 0 99)) := by
  obtain ⟨g, fd, D⟩ := T.dn 43 _ _ rfl
  refine D.cl (D.fn.ok sc_value (fun vs H Q E h => ?_) (fun cdv A outer s H vs Q E hr h => ?_))
  · obtain ⟨v, d, rfl, _⟩ := h
    rfl
  · obtain ⟨v, d, rfl, hd, k⟩ := h
    exact ⟨_, pss_one (ps_ret (pe_cl (cl_from T) hr (by decide) (pa_cons (pv 0) (pa_cons pe_int (pa_cons pe_int pa_nil))))), _, rfl, v, d, _, _, rfl, hd, k⟩
theorem tup2 {d : PyData} (h : tupD 2 d = true) : ∃ a b, d = .tuple [a, b] := by
  cases d with
  | tuple ds =>
    have hl := of_decide_eq_true h
    match ds, hl with
    | [a, b], _ => exact ⟨a, b, rfl⟩
  | _ => cases h
theorem stamp_of {a b : PyData} : stampD (.tuple [a, b]) = (fromD 1 999 a && fromD 0 3 b) := rfl
theorem not_stamp {d : PyData} (h : tupD 2 d = false) : stampD d = false ∧ rootD d = false := by
  cases d with
  | tuple ds =>
    match ds with
    | [a, b] => cases h
    | [] => exact ⟨rfl, rfl⟩
    | [_] => exact ⟨rfl, rfl⟩
    | _ :: _ :: _ :: _ => exact ⟨rfl, rfl⟩
  | _ => exact ⟨rfl, rfl⟩
theorem sc_stamp : FnScope ["value"] ["value"] (defScope s_is_stamp) := ⟨rfl, rfl, rfl, by decide +kernel, rfl, by decide +kernel, by decide +kernel⟩
theorem cl_stamp (T : All K mg) : Cl P w K mg base 3 "is_stamp" ["value"] (spD K stampD) := by
  obtain ⟨g, fd, D⟩ := T.dn 27 _ _ rfl
  refine D.cl (D.fn.ok sc_stamp (fun vs H Q E h => ?_) (fun cdv A outer s H vs Q E hr h => ?_))
  · obtain ⟨v, d, rfl, _⟩ := h
    rfl
  · obtain ⟨v, d, rfl, hd, k⟩ := h
    obtain ⟨tM, hM⟩ := T.cn.mt
    refine ⟨_, pss_one (ps_ret (pe_and (pe_cl (cl_tupleof T) hr (by decide) (pa_cons (pv 0) (pa_cons pe_int pa_nil))) (pe_and (pe_cl (cl_from T) hr (by decide) (pa_cons (pe_ix ix_tup (pv 0) pe_int (fun _ _ => rfl)) (pa_cons pe_int (pa_cons (pe_glob (v := .int 999) rfl hM ⟨_, rfl⟩) pa_nil))))
      (pe_one (pe_cl (cl_from T) hr (by decide) (pa_cons (pe_ix ix_tup (pv 0) pe_int (fun _ _ => rfl)) (pa_cons pe_int (pa_cons pe_int pa_nil)))))))), ?_⟩
    refine ⟨_, rfl, v, d, 2, rfl, hd, fun H1 S1 => ⟨_, rfl, ?_⟩⟩
    cases e : tupD 2 d with
    | false =>
      have k' := k H1 S1
      rw [(not_stamp e).1] at k'
      exact iteF k'
    | true =>
      obtain ⟨a, b, rfl⟩ := tup2 e
      have hd1 := hd.to S1
      obtain ⟨p, xs, u0, rfl, ht, i0, q0⟩ := hd1.item (i := 0) rfl
      refine iteT ⟨_, rfl, p, xs, _, u0, rfl, rfl, ht, i0, u0, a, _, _, rfl, q0, fun H2 S2 => ⟨_, rfl, ?_⟩⟩
      have k' := k _ (S1.trans S2)
      rw [stamp_of] at k'
      cases e1 : fromD 1 999 a with
      | false =>
        rw [e1, Bool.false_and] at k'
        exact iteF k'
      | true =>

        obtain ⟨p', xs', u1, e', ht', i1, q1⟩ := (hd1.to S2).item (i := 1) rfl
        cases e'
        refine iteT ⟨_, rfl, p, xs', _, u1, rfl, rfl, ht', i1, u1, b, _, _, rfl, q1, fun H3 S3 => ?_⟩
        have k' := k _ ((S1.trans S2).trans S3)
        rw [stamp_of, e1, Bool.true_and] at k'
        exact k'
end
end K1
set_option maxHeartbeats 4000000
namespace K1
open PySem L2
section
variable {P : Program} {w : World} {K : PySem.W.Frag} {mg : Str → Option Value} {base : Heap}
theorem root_of {a b : PyData} : rootD (.tuple [a, b]) = (fromD 0 0 a && fromD 0 0 b) := rfl
theorem sc_thing : FnScope ["value"] ["value"] (defScope (top 28)) := ⟨rfl, rfl, rfl, by decide +kernel, rfl, by decide +kernel, by decide +kernel⟩
theorem cl_thing (T : All K mg) : Cl P w K mg base 4 "is_thing" ["value"] (spD K thingD) := by
  obtain ⟨g, fd, D⟩ := T.dn 28 _ _ rfl
  refine D.cl (D.fn.ok sc_thing (fun vs H Q E h => ?_) (fun cdv A outer s H vs Q E hr h => ?_))
  · obtain ⟨v, d, rfl, _⟩ := h
    rfl
  · obtain ⟨v, d, rfl, hd, k⟩ := h
    refine ⟨_, pss_one (ps_ret (pe_or (pe_cl (cl_stamp T) hr (by decide) (pa_cons (pv 0) pa_nil)) (pe_one (pe_and (pe_cl (cl_tupleof T) hr (by decide) (pa_cons (pv 0) (pa_cons pe_int pa_nil)))
      (pe_and (pe_cl (cl_from T) hr (by decide) (pa_cons (pe_ix ix_tup (pv 0) pe_int (fun _ _ => rfl)) (pa_cons pe_int (pa_cons pe_int pa_nil))))
        (pe_one (pe_cl (cl_from T) hr (by decide) (pa_cons (pe_ix ix_tup (pv 0) pe_int (fun _ _ => rfl)) (pa_cons pe_int (pa_cons pe_int pa_nil)))))))))), ?_⟩
    refine ⟨_, rfl, v, d, rfl, hd, fun H0 S0 => ⟨_, rfl, ?_⟩⟩
    cases es : stampD d with
    | true =>
      have k' := k H0 S0
      unfold thingD at k'
      rw [es] at k'
      exact iteT k'
    | false =>
      refine iteF ⟨_, rfl, v, d, 2, rfl, hd.to S0, fun H1 S1 => ⟨_, rfl, ?_⟩⟩
      cases e : tupD 2 d with
      | false =>
        have k' := k H1 (S0.trans S1)
        unfold thingD at k'
        rw [(not_stamp e).1, (not_stamp e).2] at k'
        exact iteF k'
      | true =>
        obtain ⟨a, b, rfl⟩ := tup2 e
        have hd1 := (hd.to S0).to S1
        obtain ⟨p, xs, u0, rfl, ht, i0, q0⟩ := hd1.item (i := 0) rfl
        refine iteT ⟨_, rfl, p, xs, _, u0, rfl, rfl, ht, i0, u0, a, _, _, rfl, q0, fun H2 S2 => ⟨_, rfl, ?_⟩⟩
        have k' := k _ ((S0.trans S1).trans S2)
        unfold thingD at k'
        rw [es, Bool.false_or, root_of] at k'
        cases e1 : fromD 0 0 a with
        | false =>
          rw [e1, Bool.false_and] at k'
          exact iteF k'
        | true =>
          obtain ⟨p', xs', u1, e', ht', i1, q1⟩ := (hd1.to S2).item (i := 1) rfl
          cases e'
          refine iteT ⟨_, rfl, p, xs', _, u1, rfl, rfl, ht', i1, u1, b, _, _, rfl, q1, fun H3 S3 => ?_⟩
          have k' := k _ (((S0.trans S1).trans S2).trans S3)
          unfold thingD at k'
          rw [es, Bool.false_or, root_of, e1, Bool.true_and] at k'
          exact k'
theorem DQ.dec_none {H : Hp} {v : V} {d : PyData} (h : DQ K H v d) : decide (v = V.non) = noneD d := by
  cases h with
  | non => rfl
  | _ => exact decide_eq_false fun z => nomatch z
theorem sc_binder : FnScope ["value"] ["value"] (defScope (top 44)) := ⟨rfl, rfl, rfl, by decide +kernel, rfl, by decide +kernel, by decide +kernel⟩
theorem binder_none {d : PyData} (h : noneD d = true) : binderD d = true := by
  cases d with
  | none => rfl
  | _ => cases h
theorem binder_some {d : PyData} (h : noneD d = false) : binderD d = thingD d := by
  cases d with
  | none => cases h
  | _ => rfl
theorem cl_binder (T : All K mg) : Cl P w K mg base 5 "_is_binder" ["value"] (spD K binderD) := by
  obtain ⟨g, fd, D⟩ := T.dn 44 _ _ rfl
  refine D.cl (D.fn.ok sc_binder (fun vs H Q E h => ?_) (fun cdv A outer s H vs Q E hr h => ?_))
  · obtain ⟨v, d, rfl, _⟩ := h
    rfl
  · obtain ⟨v, d, rfl, hd, k⟩ := h
    refine ⟨_, pss_one (ps_ret (pe_or (pe_cmpR op_isN (pv 0) pe_non (nomark _)) (pe_one (pe_cl (cl_thing T) hr (by decide) (pa_cons (pv 0) pa_nil))))), ?_⟩
    refine ⟨_, rfl, rfl, _, rfl, ?_⟩
    rw [hd.dec_none]
    cases e : noneD d with
    | true =>
      have k' := k H (Same.refl H)
      rw [binder_none e] at k'
      exact iteT k'
    | false =>
      rw [binder_some e] at k
      exact iteF ⟨_, rfl, v, d, rfl, hd, k⟩
theorem in_holders (x : Str) : inV (.str x) [.str "block", .str "let", .str "sum", .str "product"] = (x == "block" || x == "let" || x == "sum" || x == "product") := by
  have c : ∀ y : Str, eqV (.str y) (.str x) = (x == y) := fun y => by
    show (y == x) = (x == y)
    rw [Bool.eq_iff_iff, beq_iff_eq, beq_iff_eq]
    exact ⟨Eq.symm, Eq.symm⟩
  unfold inV
  rw [List.any_cons, List.any_cons, List.any_cons, List.any_cons, List.any_nil, c, c, c, c, Bool.or_false, Bool.or_assoc, Bool.or_assoc]
theorem sc_hold : FnScope ["kind"] ["kind"] (defScope (top 34)) := ⟨rfl, rfl, rfl, by decide +kernel, rfl, by decide +kernel, by decide +kernel⟩
theorem cl_hold (T : All K mg) : Cl P w K mg base 1 "does_hold" ["kind"] (spD K holdsD) := by
  obtain ⟨g, fd, D⟩ := T.dn 34 _ _ rfl
  refine D.cl (D.fn.ok sc_hold (fun vs H Q E h => ?_) (fun cdv A outer s H vs Q E hr h => ?_))
  · obtain ⟨v, d, rfl, _⟩ := h
    rfl
  · obtain ⟨v, d, rfl, hd, k⟩ := h
    obtain ⟨aH, mH, tH⟩ := T.cn.hol
    refine ⟨_, pss_one (ps_ret (pe_and (pe_callB call_isiD (by rfl) T.bi.isi (by decide +kernel) (pa_cons (pv 0) (pa_cons (pe_bltn (v := .ty "str") (by rfl) T.bi.str (by decide +kernel) rfl) pa_nil)))
      (pe_one (pe_cmpR op_in_seq (pv 0) (pe_glob (v := .ref aH) rfl mH rfl) rfl)))), ?_⟩
    refine ⟨_, rfl, v, d, _, _, rfl, hd, kit_str d, _, rfl, ?_⟩
    have k' := k H (Same.refl H)
    cases hd with
    | str x hx =>
      refine iteT ⟨_, rfl, aH, _, rfl, .inr (tH H), rfl, rfl, ?_⟩
      show Q (.bl (inV (.str x) _)) H
      rw [in_holders]
      exact k'
    | _ => exact iteF k'
theorem dec_str {x y : Str} : decide (V.str x = V.str y) = decide (x = y) := by
  by_cases h : x = y
  · rw [h, decide_eq_true rfl, decide_eq_true rfl]
  · rw [decide_eq_false h, decide_eq_false fun z => h (V.str.inj z)]
def spD2 (K : PySem.W.Frag) (f : PyData → PyData → Bool) : Sp := fun vs H Q _ => ∃ v u d e, vs = [v, u] ∧ DQ K H v d ∧ DQ K H u e ∧ ∀ H', Same H H' → Q (.bl (f d e)) H'
theorem sc_canhold : FnScope ["kind", "content"] ["kind", "content"] (defScope (top 40)) := ⟨rfl, rfl, rfl, by decide +kernel, rfl, by decide +kernel, by decide +kernel⟩
theorem cl_canhold (T : All K mg) : Cl P w K mg base 6 "_can_hold" ["kind", "content"] (spD2 K contentD) := by
  obtain ⟨g, fd, D⟩ := T.dn 40 _ _ rfl
  refine D.cl (D.fn.ok sc_canhold (fun vs H Q E h => ?_) (fun cdv A outer s H vs Q E hr h => ?_))
  · obtain ⟨v, u, d, e, rfl, _⟩ := h
    rfl
  · obtain ⟨v, u, d, e, rfl, hd, he, k⟩ := h
    obtain ⟨aH, mH, tH⟩ := T.cn.hol
    refine ⟨_, pss_cons (ps_if (pt_not (pt_val (pe_callB call_isiD (by rfl) T.bi.isi (by decide +kernel) (pa_cons (pv 0) (pa_cons (pe_bltn (v := .ty "str") (by rfl) T.bi.str (by decide +kernel) rfl) pa_nil))))) (pss_one (ps_ret pe_bl)) pss_nil)
      (pss_cons (ps_if (pt_cmpR op_eq (pv 0) pe_str (nomark _)) (pss_one (ps_ret (pe_cl (cl_name T) hr (by decide) (pa_cons (pv 1) pa_nil)))) pss_nil)
      (pss_cons (ps_if (pt_cmpR op_eq (pv 0) pe_str (nomark _)) (pss_one (ps_ret (pe_cl (cl_binder T) hr (by decide) (pa_cons (pv 1) pa_nil)))) pss_nil)
      (pss_cons (ps_if (pt_cmpR op_eq (pv 0) pe_str (nomark _)) (pss_one (ps_ret (pe_cl (cl_value T) hr (by decide) (pa_cons (pv 1) pa_nil)))) pss_nil)
      (pss_one (ps_ret (pe_and (pe_cmpR op_in_seq (pv 0) (pe_glob (v := .ref aH) rfl mH rfl) rfl) (pe_one (pe_cmpR op_isN (pv 1) pe_non (nomark _))))))))), ?_⟩
    refine ⟨_, rfl, v, d, _, _, rfl, hd, kit_str d, _, rfl, ?_⟩
    cases hd with
    | str x hx =>
      have ec : contentD (.str x) e = if x = "let" then nameD e else if x = "use" then binderD e else if x = "number" then fromD 0 99 e else holdsD (.str x) && noneD e := rfl
      rw [ec] at k
      refine iteF ⟨_, rfl, rfl, _, rfl, ?_⟩
      rw [dec_str]
      by_cases c1 : x = "let"
      · rw [if_pos c1] at k
        rw [decide_eq_true c1]
        exact iteT ⟨_, rfl, u, e, rfl, he, k⟩
      · rw [if_neg c1] at k
        rw [decide_eq_false c1]
        refine iteF ⟨_, rfl, rfl, _, rfl, ?_⟩
        rw [dec_str]
        by_cases c2 : x = "use"
        · rw [if_pos c2] at k
          rw [decide_eq_true c2]
          exact iteT ⟨_, rfl, u, e, rfl, he, k⟩
        · rw [if_neg c2] at k
          rw [decide_eq_false c2]
          refine iteF ⟨_, rfl, rfl, _, rfl, ?_⟩
          rw [dec_str]
          by_cases c3 : x = "number"
          · rw [if_pos c3] at k
            rw [decide_eq_true c3]
            exact iteT ⟨_, rfl, u, e, rfl, he, k⟩
          · rw [if_neg c3] at k
            rw [decide_eq_false c3]
            refine iteF ⟨_, rfl, aH, _, rfl, .inr (tH H), rfl, rfl, _, rfl, ?_⟩
            have k' := k H (Same.refl H)
            show if inV (.str x) _ = true then _ else _
            rw [in_holders]
            have eh : holdsD (.str x) = (x == "block" || x == "let" || x == "sum" || x == "product") := rfl
            rw [← eh]
            cases hb : holdsD (.str x) with
            | true =>
              rw [hb, Bool.true_and] at k'
              refine iteT ⟨_, rfl, rfl, ?_⟩
              rw [he.dec_none]
              exact k'
            | false =>
              rw [hb, Bool.false_and] at k'
              exact iteF k'
    | _ => exact iteT (k H (Same.refl H))
end
end K1
set_option maxHeartbeats 4000000
namespace K1
open PySem L2
section
variable {P : Program} {w : World} {K : PySem.W.Frag} {mg : Str → Option Value} {base : Heap}
def spW (K : PySem.W.Frag) : Sp := fun vs H Q _ => ∃ x u e, vs = [.str x, u] ∧ DQ K H u e ∧ ∀ H', Same H H' → Q (.bl (writeD (.str x) e)) H'
theorem sc_canwrite : FnScope ["word", "content"] ["word", "content"] (defScope (top 41)) := ⟨rfl, rfl, rfl, by decide +kernel, rfl, by decide +kernel, by decide +kernel⟩
theorem cl_canwrite (T : All K mg) : Cl P w K mg base 6 "_can_write" ["word", "content"] (spW K) := by
  obtain ⟨g, fd, D⟩ := T.dn 41 _ _ rfl
  refine D.cl (D.fn.ok sc_canwrite (fun vs H Q E h => ?_) (fun cdv A outer s H vs Q E hr h => ?_))
  · obtain ⟨x, u, e, rfl, _⟩ := h
    rfl
  · obtain ⟨x, u, e, rfl, he, k⟩ := h
    refine ⟨_, pss_cons (ps_if (pt_cmpR op_eq (pv 0) pe_str (nomark _)) (pss_one (ps_ret (pe_cl (cl_name T) hr (by decide) (pa_cons (pv 1) pa_nil)))) pss_nil)
      (pss_cons (ps_if (pt_cmpR op_eq (pv 0) pe_str (nomark _)) (pss_one (ps_ret (pe_cl (cl_binder T) hr (by decide) (pa_cons (pv 1) pa_nil)))) pss_nil)
      (pss_one (ps_ret (pe_and (pe_cmpR op_eq (pv 0) pe_str (nomark _)) (pe_one (pe_cl (cl_value T) hr (by decide) (pa_cons (pv 1) pa_nil))))))), ?_⟩
    have ec : writeD (.str x) e = if x = "wish" then nameD e else if x = "point" then binderD e else decide (x = "set") && fromD 0 99 e := rfl
    rw [ec] at k
    refine ⟨_, rfl, rfl, _, rfl, ?_⟩
    rw [dec_str]
    by_cases c1 : x = "wish"
    · rw [if_pos c1] at k
      rw [decide_eq_true c1]
      exact iteT ⟨_, rfl, u, e, rfl, he, k⟩
    · rw [if_neg c1] at k
      rw [decide_eq_false c1]
      refine iteF ⟨_, rfl, rfl, _, rfl, ?_⟩
      rw [dec_str]
      by_cases c2 : x = "point"
      · rw [if_pos c2] at k
        rw [decide_eq_true c2]
        exact iteT ⟨_, rfl, u, e, rfl, he, k⟩
      · rw [if_neg c2] at k
        rw [decide_eq_false c2]
        refine iteF ⟨_, rfl, rfl, _, rfl, ?_⟩
        rw [dec_str]
        by_cases c3 : x = "set"
        · rw [decide_eq_true c3] at k ⊢
          rw [Bool.true_and] at k
          exact iteT ⟨_, rfl, u, e, rfl, he, k⟩
        · rw [decide_eq_false c3] at k ⊢
          rw [Bool.false_and] at k
          exact iteF (k H (Same.refl H))
/-- an index of a tuple of data -/
theorem ix_ask {H : Hp} {v : V} {ds : List PyData} {i : Nat} {d : PyData} {Q : VK} (h : DQ K H v (.tuple ds)) (hi : ds[i]? = some d) (k : ∀ u, DQ K H u d → Q u H) : ∃ a xs, ∃ m : Int, ∃ u, v = .ref a ∧ V.int (i : Int) = .int m ∧ SqT K H a xs ∧ atI xs m = some u ∧ Q u H := by
  obtain ⟨a, xs, u, e, ht, ha, q⟩ := h.item hi
  exact ⟨a, xs, _, u, e, rfl, ht, ha, k u q⟩
def spMake (K : PySem.W.Frag) : Sp := fun vs H Q _ => ∃ v r, vs = [v] ∧ DQ K H v (.tuple (.str "make" :: r)) ∧ r.length = 4 ∧ ∀ H', Same H H' → Q (.bl (makeR r)) H'
theorem list4 {α : Type} {r : List α} (h : r.length = 4) : ∃ a b c d, r = [a, b, c, d] := by
  match r, h with
  | [a, b, c, d], _ => exact ⟨a, b, c, d, rfl⟩
theorem sc_canmake : FnScope ["body"] ["body"] (defScope (top 39)) := ⟨rfl, rfl, rfl, by decide +kernel, rfl, by decide +kernel, by decide +kernel⟩
theorem cl_canmake (T : All K mg) : Cl P w K mg base 7 "_can_make" ["body"] (spMake K) := by
  obtain ⟨g, fd, D⟩ := T.dn 39 _ _ rfl
  refine D.cl (D.fn.ok sc_canmake (fun vs H Q E h => ?_) (fun cdv A outer s H vs Q E hr h => ?_))
  · obtain ⟨v, r, rfl, _⟩ := h
    rfl
  · obtain ⟨v, r, rfl, hd, hl, k⟩ := h
    obtain ⟨kd, u, y, c, rfl⟩ := list4 hl
    refine ⟨_, pss_one (ps_ret (pe_and (pe_cl (cl_thing T) hr (by decide) (pa_cons (pe_ix ix_tup (pv 0) pe_int (fun _ _ => rfl)) pa_nil)) (pe_and (pe_cl (cl_key T) hr (by decide) (pa_cons (pe_ix ix_tup (pv 0) pe_int (fun _ _ => rfl)) pa_nil))
      (pe_one (pe_cl (cl_canhold T) hr (by decide) (pa_cons (pe_ix ix_tup (pv 0) pe_int (fun _ _ => rfl)) (pa_cons (pe_ix ix_tup (pv 0) pe_int (fun _ _ => rfl)) pa_nil))))))), ?_⟩
    have ek : makeR [kd, u, y, c] = (thingD u && (fromD 0 999 y && contentD kd c)) := rfl
    rw [ek] at k
    refine ⟨_, rfl, ix_ask (i := 2) hd rfl fun u' hu => ⟨u', u, rfl, hu, fun H1 S1 => ⟨_, rfl, ?_⟩⟩⟩
    refine ite2 (fun e1 => ?_) (fun e1 => ?_)
    · rw [e1, Bool.true_and] at k
      refine ⟨_, rfl, ix_ask (i := 3) (hd.to S1) rfl fun y' hy => ⟨y', y, rfl, hy, fun H2 S2 => ⟨_, rfl, ?_⟩⟩⟩
      have S := S1.trans S2
      refine ite2 (fun e2 => ?_) (fun e2 => ?_)
      · rw [e2, Bool.true_and] at k
        obtain ⟨p, xs, k', rfl, ht, i1, hk⟩ := (hd.to S).item (i := 1) rfl
        obtain ⟨p', xs', c', e', ht', i4, hc⟩ := (hd.to S).item (i := 4) rfl
        cases e'
        exact ⟨_, rfl, p, xs, _, k', rfl, rfl, ht, i1, _, rfl, p, xs', _, c', rfl, rfl, ht', i4, k', c', kd, c, rfl, hk, hc, fun H3 S3 => k H3 (S.trans S3)⟩
      · have k' := k H2 S
        rw [Bool.eq_false_iff.mpr e2, Bool.false_and] at k'
        exact k'
    · have k' := k H1 S1
      rw [Bool.eq_false_iff.mpr e1, Bool.false_and] at k'
      exact k'
end
end K1
set_option maxHeartbeats 4000000
namespace K1
open PySem L2
/-- a comprehension over a tuple that stands still -/
theorem lc_funT {K : PySem.W.Frag} {a : Addr} {xs : List V} {te : TE} {j : Nat} {σ : St} {H1 : Hp} {D : Addr} {Qd : Hp → Prop} (f : Nat → V) (nD : H1 D = none) (ha : SqT K H1 a xs) (hz : xs.length ≤ 1000) (hw : ∀ x, wipe ((wipe σ [j]).set j (some x)) [j] = wipe σ [j])
    (he : ∀ i x H' Q, xs[i]? = some x → Same H1 H' → (∀ H'', Same H' H'' → Q (f i) H'') → te ((wipe σ [j]).set j (some x)) H' Q) (hd : ∀ H', Same H1 H' → H' D = some (.lst ((List.range xs.length).map f)) → Qd H') :
    ∃ W : Nat → Nat → Hp → Prop, (∃ m, W 0 m (upd H1 D (.lst []))) ∧ ∀ i m H, W i m H →
      ((Itt K a).stop i H ∧ Qd H) ∨ ((Itt K a).go i H ∧ ∃ Nx : Hp → Prop, (∀ H', Nx H' → ∃ m', m' < m ∧ W (i + 1) m' H') ∧ ∀ x H', (Itt K a).yld i H x H' → (gName j) x (wipe σ [j]) H' fun σ2 H2 => wipe σ2 [j] = wipe σ [j] ∧ tYes σ2 H2 fun b H3 =>
        if b = true then te σ2 H3 fun y H4 => ∃ acc, H4 D = some (.lst acc) ∧ acc.length < sizeLine ∧ Nx (upd H4 D (.lst (acc ++ [y]))) else Nx H3) := by
  refine lc_tup (K := K) (a := a) (xs := xs) (fun i H' => i ≤ xs.length ∧ Same H1 H' ∧ H' D = some (.lst ((List.range i).map f))) ⟨Nat.zero_le _, K0.same_upd nD, upd_same⟩ (fun i H' _ ⟨_, s, _⟩ => K0.seqT_same s ha) ?_ (fun H' ⟨_, s, h⟩ => hd H' s h)
  intro i x H' hi ⟨hle, s, h⟩
  have hlt := (List.getElem?_eq_some_iff.mp hi).1
  refine ⟨hw x, ?_⟩
  unfold tYes
  dsimp only
  rw [if_pos rfl]
  refine he i x H' _ hi s fun H'' s2 => ⟨_, s2 _ _ h, ?_, hlt, K0.same_over (s.trans s2) nD, ?_⟩
  · rw [List.length_map, List.length_range, sizeLine_eq]
    omega
  · rw [upd_same, List.range_succ, List.map_append]
    rfl
theorem DQs.at {K : PySem.W.Frag} {H : Hp} : ∀ {vs : List V} {ds : List PyData} {i : Nat} {v : V}, DQs K H vs ds → vs[i]? = some v → ∃ d, ds[i]? = some d ∧ DQ K H v d
  | _, _, i, d, .nil, h => by simp at h
  | _, _, 0, d, .cons r t, h => by
    simp at h
    subst h
    exact ⟨_, rfl, r⟩
  | _, _, i + 1, d, .cons r t, h => by
    obtain ⟨v, h1, h2⟩ := t.at (i := i) (by simpa using h)
    exact ⟨v, by simpa using h1, h2⟩
section
variable {P : Program} {w : World} {K : PySem.W.Frag} {mg : Str → Option Value} {base : Heap}
def spSeen (K : PySem.W.Frag) : Sp := fun vs H Q _ => ∃ v d, ∃ t : Int, vs = [v, .int t] ∧ DQ K H v d ∧ ∀ H', Same H H' → Q (.bl (seenD t d)) H'
theorem tupN {n : Nat} {d : PyData} (h : tupD n d = true) : ∃ ds, d = .tuple ds ∧ ds.length = n := by
  cases d with
  | tuple ds => exact ⟨ds, rfl, of_decide_eq_true h⟩
  | _ => cases h
theorem seen_not {t : Int} {d : PyData} (h : tupD 4 d = false) : seenD t d = false := by
  cases d with
  | tuple ds =>
    show (decide (ds.length = 4) && _) = false
    rw [show decide (ds.length = 4) = false from h, Bool.false_and]
  | _ => rfl
theorem sc_seen : FnScope ["value", "time", "entry"] ["value", "time"] (defScope (top 45)) := ⟨rfl, rfl, rfl, by decide +kernel, rfl, by decide +kernel, by decide +kernel⟩
theorem cl_seen (T : All K mg) : Cl P w K mg base 3 "_is_seen" ["value", "time"] (spSeen K) := by
  obtain ⟨g, fd, D⟩ := T.dn 45 _ _ rfl
  refine D.cl (D.fn.ok sc_seen (fun vs H Q E h => ?_) (fun cdv A outer s H vs Q E hr h => ?_))
  · obtain ⟨v, d, t, rfl, _⟩ := h
    rfl
  · obtain ⟨v, d, t, rfl, hd, k⟩ := h
    refine ⟨_, pss_one (ps_ret (pe_and (pe_cl (cl_tupleof T) hr (by decide) (pa_cons (pv 0) (pa_cons pe_int pa_nil)))
      (pe_one (pe_callB (cr_all rfl) (by rfl) T.bi.all (by decide +kernel) (pa_cons (pe_lc (own := [("entry", 2)]) (g := gName 2) (tt := tYes) rfl sc_seen.nd (pi_tup (pv 0)) (blkOk_by (own := [("entry", 2)]) (N := ["value", "time", "entry"]) (sc := defScope (top 45)) (by decide +kernel))
        (fun _ _ _ _ _ => pg_name (i := 2) sc_seen.nd rfl (Or.inl rfl)) (fun _ _ _ _ _ => pts_nil) (fun _ _ _ _ _ => pe_cl (cl_from T) hr (by decide) (pa_cons (pv 2) (pa_cons pe_int (pa_cons (pe_op op_sub (pv 1) pe_int) pa_nil))))) pa_nil))))), ?_⟩
    refine ⟨_, rfl, v, d, 4, rfl, hd, fun H1 S1 => ⟨_, rfl, ?_⟩⟩
    refine ite2 (fun e1 => ?_) (fun e1 => ?_)
    · obtain ⟨ds, rfl, hl⟩ := tupN e1
      cases hd.to S1 with
      | @tup a xs _ h1 h2 =>
        have ek : seenD t (.tuple ds) = (decide (ds.length = 4) && ds.all (fromD 0 (t - 1))) := rfl
        rw [ek, decide_eq_true hl, Bool.true_and] at k
        refine ⟨_, rfl, a, rfl, ⟨xs, h1⟩, fun Dd nD => ?_⟩
        refine lc_funT (j := 2) (fun i => .bl (ask (fromD 0 (t - 1)) ds[i]?)) nD h1 (by have := h2.len; omega) (fun _ => rfl) (fun i x H' Q' hx s' q => ?_) (fun H' s' hD => ?_)
        · obtain ⟨d', e, hd'⟩ := h2.at hx
          rw [e] at q
          exact ⟨_, rfl, _, rfl, t, 1, rfl, rfl, x, d', 0, t - 1, rfl, hd'.to s', q⟩
        · refine ⟨Dd, (List.range xs.length).map fun i => ask (fromD 0 (t - 1)) ds[i]?, rfl, SqL.of (hD.trans (by rw [List.map_map]; rfl)), ?_⟩
          have z := k H' (S1.trans s')
          rw [← all_range, ← h2.len] at z
          exact z
    · have k' := k H1 S1
      rw [seen_not (Bool.eq_false_iff.mpr e1)] at k'
      exact k'
end
end K1
set_option maxHeartbeats 4000000
namespace K1
open PySem L2
section
variable {P : Program} {w : World} {K : PySem.W.Frag} {mg : Str → Option Value} {base : Heap}
theorem list1 {α : Type} {r : List α} (h : r.length = 1) : ∃ a, r = [a] := by
  match r, h with
  | [a], _ => exact ⟨a, rfl⟩
theorem list2 {α : Type} {r : List α} (h : r.length = 2) : ∃ a b, r = [a, b] := by
  match r, h with
  | [a, b], _ => exact ⟨a, b, rfl⟩
theorem list3 {α : Type} {r : List α} (h : r.length = 3) : ∃ a b c, r = [a, b, c] := by
  match r, h with
  | [a, b, c], _ => exact ⟨a, b, c, rfl⟩
theorem makeR_ne {r : List PyData} (h : ¬ r.length = 4) : makeR r = false := by
  match r, h with
  | [_, _, _, _], h => exact absurd rfl h
  | [], _ => rfl
  | [_], _ => rfl
  | [_, _], _ => rfl
  | [_, _, _], _ => rfl
  | _ :: _ :: _ :: _ :: _ :: _, _ => rfl
theorem moveR_ne {r : List PyData} (h : ¬ r.length = 3) : moveR r = false := by
  match r, h with
  | [_, _, _], h => exact absurd rfl h
  | [], _ => rfl
  | [_], _ => rfl
  | [_, _], _ => rfl
  | _ :: _ :: _ :: _ :: _, _ => rfl
theorem dropR_ne {r : List PyData} (h : ¬ r.length = 1) : dropR r = false := by
  match r, h with
  | [_], h => exact absurd rfl h
  | [], _ => rfl
  | _ :: _ :: _, _ => rfl
theorem markR_ne {r : List PyData} (h : ¬ r.length = 1) : markR r = false := by
  match r, h with
  | [_], h => exact absurd rfl h
  | [], _ => rfl
  | _ :: _ :: _, _ => rfl
theorem writeR_ne {w : Str} {r : List PyData} (h : ¬ r.length = 2) : writeR w r = false := by
  match r, h with
  | [_, _], h => exact absurd rfl h
  | [], _ => rfl
  | [_], _ => rfl
  | _ :: _ :: _ :: _, _ => rfl
theorem len_is {n m : Nat} {i : Int} (hi : i = ((m + 1 : Nat) : Int)) : decide (V.int ((n + 1 : Nat) : Int) = V.int i) = decide (n = m) := by
  subst hi
  rw [dec_len]
  by_cases h : n = m
  · subst h
    rw [decide_eq_true rfl, decide_eq_true rfl]
  · rw [decide_eq_false h, decide_eq_false (by omega)]
theorem in_marks (x : Str) : inV (.str x) [.str "undo", .str "redo"] = decide (x = "undo" ∨ x = "redo") := by
  have c : ∀ y : Str, eqV (.str y) (.str x) = decide (x = y) := fun y => by
    show (y == x) = _
    rw [Bool.eq_iff_iff, beq_iff_eq, decide_eq_true_eq]
    exact ⟨Eq.symm, Eq.symm⟩
  unfold inV
  rw [List.any_cons, List.any_cons, List.any_nil, c, c, Bool.or_false, Bool.decide_or]
theorem sc_body : FnScope ["value", "word"] ["value"] (defScope (top 29)) := ⟨rfl, rfl, rfl, by decide +kernel, rfl, by decide +kernel, by decide +kernel⟩
theorem cl_body (T : All K mg) : Cl P w K mg base 8 "is_body" ["value"] (spD K bodyD) := by
  obtain ⟨g, fd, D⟩ := T.dn 29 _ _ rfl
  refine D.cl (D.fn.ok sc_body (fun vs H Q E h => ?_) (fun cdv A outer s H vs Q E hr h => ?_))
  · obtain ⟨v, d, rfl, _⟩ := h
    rfl
  · obtain ⟨v, d, rfl, hd, k⟩ := h
    obtain ⟨aM, mM, tM⟩ := T.cn.mar
    refine ⟨_, (pss_cons (ps_if (PW.pt (pw_or (pt_not (pt_val (pe_callB call_isiD (by rfl) T.bi.isi (by decide +kernel) (pa_cons (pv 0) (pa_cons (pe_bltn (v := .ty "tuple") (by rfl) T.bi.tuple (by decide +kernel) rfl) pa_nil))))) (pw_or (pt_not (pt_truth (pv 0) (by intro _; rfl))) (pw_or1 (pt_not (pt_val (pe_callB call_isiD (by rfl) T.bi.isi (by decide +kernel) (pa_cons (pe_ix ix_tup (pv 0) pe_int (fun _ _ => rfl)) (pa_cons (pe_bltn (v := .ty "str") (by rfl) T.bi.str (by decide +kernel) rfl) pa_nil))))))))) (pss_one (ps_ret pe_bl)) pss_nil)
      (pss_cons (ps_set (i := 1) sc_body.nd rfl (Or.inl rfl) (pe_ix ix_tup (pv 0) pe_int (fun _ _ => rfl)))
      (pss_cons (ps_if (pt_cmpR op_eq (pv 1) pe_str (nomark _)) (pss_one (ps_ret (pe_and (pe_cmpR op_eq (pe_callB call_len_seq (by rfl) T.bi.len PySem.boot_len (pa_cons (pv 0) pa_nil)) pe_int (nomark _)) (pe_one (pe_cl (cl_canmake T) hr (by decide) (pa_cons (pv 0) pa_nil)))))) pss_nil)
      (pss_cons (ps_if (pt_cmpR op_eq (pv 1) pe_str (nomark _)) (pss_one (ps_ret (pe_and (pe_cmpR op_eq (pe_callB call_len_seq (by rfl) T.bi.len PySem.boot_len (pa_cons (pv 0) pa_nil)) pe_int (nomark _)) (pe_and (pe_cl (cl_thing T) hr (by decide) (pa_cons (pe_ix ix_tup (pv 0) pe_int (fun _ _ => rfl)) pa_nil)) (pe_and (pe_cl (cl_thing T) hr (by decide) (pa_cons (pe_ix ix_tup (pv 0) pe_int (fun _ _ => rfl)) pa_nil)) (pe_one (pe_cl (cl_key T) hr (by decide) (pa_cons (pe_ix ix_tup (pv 0) pe_int (fun _ _ => rfl)) pa_nil)))))))) pss_nil)
      (pss_cons (ps_if (pt_cmpR op_eq (pv 1) pe_str (nomark _)) (pss_one (ps_ret (pe_and (pe_cmpR op_eq (pe_callB call_len_seq (by rfl) T.bi.len PySem.boot_len (pa_cons (pv 0) pa_nil)) pe_int (nomark _)) (pe_one (pe_cl (cl_thing T) hr (by decide) (pa_cons (pe_ix ix_tup (pv 0) pe_int (fun _ _ => rfl)) pa_nil)))))) pss_nil)
      (pss_cons (ps_if (pt_cmpR op_in_seq (pv 1) (pe_glob (v := .ref aM) rfl mM rfl) rfl) (pss_one (ps_ret (pe_and (pe_cmpR op_eq (pe_callB call_len_seq (by rfl) T.bi.len PySem.boot_len (pa_cons (pv 0) pa_nil)) pe_int (nomark _)) (pe_one (pe_cl (cl_stamp T) hr (by decide) (pa_cons (pe_ix ix_tup (pv 0) pe_int (fun _ _ => rfl)) pa_nil)))))) pss_nil)
      (pss_one (ps_ret (pe_and (pe_cmpR op_eq (pe_callB call_len_seq (by rfl) T.bi.len PySem.boot_len (pa_cons (pv 0) pa_nil)) pe_int (nomark _)) (pe_and (pe_cl (cl_thing T) hr (by decide) (pa_cons (pe_ix ix_tup (pv 0) pe_int (fun _ _ => rfl)) pa_nil)) (pe_one (pe_cl (cl_canwrite T) hr (by decide) (pa_cons (pv 1) (pa_cons (pe_ix ix_tup (pv 0) pe_int (fun _ _ => rfl)) pa_nil)))))))))))))), ?_⟩
    refine ⟨_, rfl, v, d, _, _, rfl, hd, kit_tup d, _, rfl, ?_⟩
    have k' := k H (Same.refl H)
    have hD := hd
    cases hd with
    | @tup a xs ds h1 h2 =>
      refine iteF ⟨_, rfl, !xs.isEmpty, .inr (.inl ⟨xs, h1, rfl⟩), ?_⟩
      cases h2 with
      | nil => exact iteT (iteT k')
      | @cons u0 us d0 r q0 qs =>
        have a0 : atI (u0 :: us) 0 = some u0 := atI_nat (j := 0) rfl
        have hl := qs.len
        refine iteF ⟨_, rfl, a, _, _, u0, rfl, rfl, h1, a0, u0, d0, _, _, rfl, q0, kit_str d0, _, rfl, ?_⟩
        cases q0 with
        | str x hx =>
          refine iteF ⟨_, rfl, a, _, _, V.str x, rfl, rfl, h1, a0, ?_⟩
          have ek : bodyD (.tuple (.str x :: r)) = bodyR x r := rfl
          rw [ek] at k
          unfold bodyR at k
          refine ⟨_, rfl, rfl, _, rfl, ?_⟩
          rw [dec_str]
          by_cases c1 : x = "make"
          · rw [if_pos c1] at k
            rw [decide_eq_true c1]
            refine iteT ⟨_, rfl, a, _, rfl, .inr h1, rfl, _, rfl, ?_⟩
            rw [List.length_cons, len_is (m := 4) (i := 5) rfl, hl]
            by_cases z : r.length = 4
            · rw [decide_eq_true z]
              subst c1
              exact iteT ⟨_, rfl, _, r, rfl, hD, z, k⟩
            · rw [makeR_ne z] at k
              rw [decide_eq_false z]
              exact iteF (k H (Same.refl H))
          · rw [if_neg c1] at k
            rw [decide_eq_false c1]
            refine iteF ⟨_, rfl, rfl, _, rfl, ?_⟩
            rw [dec_str]
            by_cases c2 : x = "move"
            · rw [if_pos c2] at k
              rw [decide_eq_true c2]
              refine iteT ⟨_, rfl, a, _, rfl, .inr h1, rfl, _, rfl, ?_⟩
              rw [List.length_cons, len_is (m := 3) (i := 4) rfl, hl]
              by_cases z : r.length = 3
              · rw [decide_eq_true z]
                obtain ⟨d1, d2, d3, rfl⟩ := list3 z
                have em : moveR [d1, d2, d3] = (thingD d1 && (thingD d2 && fromD 0 999 d3)) := rfl
                rw [em] at k
                obtain ⟨p, ys, u1, e, ht, i1, q1⟩ := hD.item (i := 1) rfl
                cases e
                refine iteT ⟨_, rfl, a, ys, _, u1, rfl, rfl, ht, i1, u1, d1, rfl, q1, fun H1 S1 => ⟨_, rfl, ?_⟩⟩
                refine ite2 (fun e1 => ?_) (fun e1 => ?_)
                · rw [e1, Bool.true_and] at k
                  obtain ⟨p, ys, u2, e, ht, i2, q2⟩ := (hD.to S1).item (i := 2) rfl
                  cases e
                  refine ⟨_, rfl, a, ys, _, u2, rfl, rfl, ht, i2, u2, d2, rfl, q2, fun H2 S2 => ⟨_, rfl, ?_⟩⟩
                  have S := S1.trans S2
                  refine ite2 (fun e2 => ?_) (fun e2 => ?_)
                  · rw [e2, Bool.true_and] at k
                    obtain ⟨p, ys, u3, e, ht, i3, q3⟩ := (hD.to S).item (i := 3) rfl
                    cases e
                    exact ⟨_, rfl, a, ys, _, u3, rfl, rfl, ht, i3, u3, d3, rfl, q3, fun H3 S3 => k H3 (S.trans S3)⟩
                  · have k' := k H2 S
                    rw [Bool.eq_false_iff.mpr e2, Bool.false_and] at k'
                    exact k'
                · have k' := k H1 S1
                  rw [Bool.eq_false_iff.mpr e1, Bool.false_and] at k'
                  exact k'
              · rw [moveR_ne z] at k
                rw [decide_eq_false z]
                exact iteF (k H (Same.refl H))
            · rw [if_neg c2] at k
              rw [decide_eq_false c2]
              refine iteF ⟨_, rfl, rfl, _, rfl, ?_⟩
              rw [dec_str]
              by_cases c3 : x = "drop"
              · rw [if_pos c3] at k
                rw [decide_eq_true c3]
                refine iteT ⟨_, rfl, a, _, rfl, .inr h1, rfl, _, rfl, ?_⟩
                rw [List.length_cons, len_is (m := 1) (i := 2) rfl, hl]
                by_cases z : r.length = 1
                · rw [decide_eq_true z]
                  obtain ⟨d1, rfl⟩ := list1 z
                  have em : dropR [d1] = thingD d1 := rfl
                  rw [em] at k
                  obtain ⟨p, ys, u1, e, ht, i1, q1⟩ := hD.item (i := 1) rfl
                  cases e
                  exact iteT ⟨_, rfl, a, ys, _, u1, rfl, rfl, ht, i1, u1, d1, rfl, q1, k⟩
                · rw [dropR_ne z] at k
                  rw [decide_eq_false z]
                  exact iteF (k H (Same.refl H))
              · rw [if_neg c3] at k
                rw [decide_eq_false c3]
                refine iteF ⟨_, rfl, aM, _, rfl, .inr (tM H), rfl, rfl, _, rfl, ?_⟩
                show if inV (.str x) _ = true then _ else _
                rw [in_marks]
                by_cases c4 : x = "undo" ∨ x = "redo"
                · rw [if_pos c4] at k
                  rw [decide_eq_true c4]
                  refine iteT ⟨_, rfl, a, _, rfl, .inr h1, rfl, _, rfl, ?_⟩
                  rw [List.length_cons, len_is (m := 1) (i := 2) rfl, hl]
                  by_cases z : r.length = 1
                  · rw [decide_eq_true z]
                    obtain ⟨d1, rfl⟩ := list1 z
                    have em : markR [d1] = stampD d1 := rfl
                    rw [em] at k
                    obtain ⟨p, ys, u1, e, ht, i1, q1⟩ := hD.item (i := 1) rfl
                    cases e
                    exact iteT ⟨_, rfl, a, ys, _, u1, rfl, rfl, ht, i1, u1, d1, rfl, q1, k⟩
                  · rw [markR_ne z] at k
                    rw [decide_eq_false z]
                    exact iteF (k H (Same.refl H))
                · rw [if_neg c4] at k
                  rw [decide_eq_false c4]
                  refine iteF ⟨_, rfl, a, _, rfl, .inr h1, rfl, _, rfl, ?_⟩
                  rw [List.length_cons, len_is (m := 2) (i := 3) rfl, hl]
                  by_cases z : r.length = 2
                  · rw [decide_eq_true z]
                    obtain ⟨d1, d2, rfl⟩ := list2 z
                    have em : writeR x [d1, d2] = (thingD d1 && writeD (.str x) d2) := rfl
                    rw [em] at k
                    obtain ⟨p, ys, u1, e, ht, i1, q1⟩ := hD.item (i := 1) rfl
                    cases e
                    refine iteT ⟨_, rfl, a, ys, _, u1, rfl, rfl, ht, i1, u1, d1, rfl, q1, fun H1 S1 => ⟨_, rfl, ?_⟩⟩
                    refine ite2 (fun e1 => ?_) (fun e1 => ?_)
                    · rw [e1, Bool.true_and] at k
                      obtain ⟨p, ys, u2, e, ht, i2, q2⟩ := (hD.to S1).item (i := 2) rfl
                      cases e
                      exact ⟨_, rfl, _, rfl, a, ys, _, u2, rfl, rfl, ht, i2, x, u2, d2, rfl, q2, fun H2 S2 => k H2 (S1.trans S2)⟩
                    · have k' := k H1 S1
                      rw [Bool.eq_false_iff.mpr e1, Bool.false_and] at k'
                      exact k'
                  · rw [writeR_ne z] at k
                    rw [decide_eq_false z]
                    exact iteF (k H (Same.refl H))
        | _ => exact iteT k'
    | _ =>
      refine iteT ?_
      refine iteT ?_
      exact k'
end
end K1
set_option maxHeartbeats 4000000
namespace K1
open PySem L2
theorem from_int {lo hi : Int} {d : PyData} (h : fromD lo hi d = true) : ∃ i, d = .int i ∧ lo ≤ i ∧ i ≤ hi := by
  cases d with
  | int i =>
    have z : (decide (lo ≤ i) && decide (i ≤ hi)) = true := h
    rw [Bool.and_eq_true, decide_eq_true_eq, decide_eq_true_eq] at z
    exact ⟨i, rfl, z.1, z.2⟩
  | _ => cases h
theorem stamp_int {d : PyData} (h : stampD d = true) : ∃ t j, d = .tuple [.int t, .int j] ∧ (1 ≤ t ∧ t ≤ 999) ∧ 0 ≤ j ∧ j ≤ 3 := by
  cases e : tupD 2 d with
  | false =>
    rw [(not_stamp e).1] at h
    cases h
  | true =>
    obtain ⟨a, b, rfl⟩ := tup2 e
    rw [stamp_of, Bool.and_eq_true] at h
    obtain ⟨t, rfl, h1⟩ := from_int h.1
    obtain ⟨j, rfl, h2⟩ := from_int h.2
    exact ⟨t, j, rfl, h1, h2⟩
theorem deed_not {d : PyData} (h : tupD 3 d = false) : deedD d = false := by
  cases d with
  | tuple ds =>
    match ds with
    | [_, _, _] => cases h
    | [] => rfl
    | [_] => rfl
    | [_, _] => rfl
    | _ :: _ :: _ :: _ :: _ => rfl
  | _ => rfl
theorem deed_of {a b c : PyData} : deedD (.tuple [a, b, c]) = (stampD a && (seenD (timeD a) b && bodyD c)) := rfl
section
variable {P : Program} {w : World} {K : PySem.W.Frag} {mg : Str → Option Value} {base : Heap}
theorem sc_deed : FnScope ["value"] ["value"] (defScope (top 30)) := ⟨rfl, rfl, rfl, by decide +kernel, rfl, by decide +kernel, by decide +kernel⟩
theorem cl_deed (T : All K mg) : Cl P w K mg base 9 "is_deed" ["value"] (spD K deedD) := by
  obtain ⟨g, fd, D⟩ := T.dn 30 _ _ rfl
  refine D.cl (D.fn.ok sc_deed (fun vs H Q E h => ?_) (fun cdv A outer s H vs Q E hr h => ?_))
  · obtain ⟨v, d, rfl, _⟩ := h
    rfl
  · obtain ⟨v, d, rfl, hd, k⟩ := h
    refine ⟨_, (pss_one (ps_ret (pe_and (pe_cl (cl_tupleof T) hr (by decide) (pa_cons (pv 0) (pa_cons pe_int pa_nil))) (pe_and (pe_cl (cl_stamp T) hr (by decide) (pa_cons (pe_ix ix_tup (pv 0) pe_int (fun _ _ => rfl)) pa_nil)) (pe_and (pe_cl (cl_seen T) hr (by decide) (pa_cons (pe_ix ix_tup (pv 0) pe_int (fun _ _ => rfl)) (pa_cons (pe_ix ix_tup (pe_ix ix_tup (pv 0) pe_int (fun _ _ => rfl)) pe_int (fun _ _ => rfl)) pa_nil))) (pe_one (pe_cl (cl_body T) hr (by decide) (pa_cons (pe_ix ix_tup (pv 0) pe_int (fun _ _ => rfl)) pa_nil)))))))), ?_⟩
    refine ⟨_, rfl, v, d, 3, rfl, hd, fun H1 S1 => ⟨_, rfl, ?_⟩⟩
    refine ite2 (fun e0 => ?_) (fun e0 => ?_)
    · obtain ⟨ds, rfl, hl⟩ := tupN e0
      obtain ⟨x, y, z, rfl⟩ := list3 hl
      rw [deed_of] at k
      have hD := hd.to S1
      obtain ⟨p, ys, u0, rfl, ht, i0, q0⟩ := hD.item (i := 0) rfl
      refine ⟨_, rfl, p, ys, _, u0, rfl, rfl, ht, i0, u0, x, rfl, q0, fun H2 S2 => ⟨_, rfl, ?_⟩⟩
      refine ite2 (fun e1 => ?_) (fun e1 => ?_)
      · obtain ⟨t, j, rfl, _⟩ := stamp_int e1
        rw [e1, Bool.true_and] at k
        have hD2 := hD.to S2
        have S := S1.trans S2
        obtain ⟨p', ys1, u1, e', ht1, i1, q1⟩ := hD2.item (i := 1) rfl
        cases e'
        obtain ⟨p', ys2, u2, e', ht2, i2, q2⟩ := hD2.item (i := 0) rfl
        cases e'
        obtain ⟨p3, ys3, u3, e', ht3, i3, q3⟩ := q2.item (i := 0) rfl
        cases q3
        refine ⟨_, rfl, p, ys1, _, u1, rfl, rfl, ht1, i1, _, rfl, p, ys2, _, u2, rfl, rfl, ht2, i2, p3, ys3, _, _, e', rfl, ht3, i3, u1, y, t, rfl, q1, fun H3 S3 => ⟨_, rfl, ?_⟩⟩
        have et : timeD (.tuple [.int t, .int j]) = t := rfl
        rw [et] at k
        refine ite2 (fun e2 => ?_) (fun e2 => ?_)
        · rw [e2, Bool.true_and] at k
          obtain ⟨p', ys4, u4, e', ht4, i4, q4⟩ := (hD2.to S3).item (i := 2) rfl
          cases e'
          exact ⟨_, rfl, p, ys4, _, u4, rfl, rfl, ht4, i4, u4, z, rfl, q4, fun H4 S4 => k H4 ((S.trans S3).trans S4)⟩
        · have k' := k H3 (S.trans S3)
          rw [Bool.eq_false_iff.mpr e2, Bool.false_and] at k'
          exact k'
      · have k' := k H2 (S1.trans S2)
        rw [Bool.eq_false_iff.mpr e1, Bool.false_and] at k'
        exact k'
    · have k' := k H1 S1
      rw [deed_not (Bool.eq_false_iff.mpr e0)] at k'
      exact k'
end
end K1
set_option maxHeartbeats 4000000
namespace K1
open PySem L2
def s_init : Stmt := match top 5 with
  | .ClassDef (body := b) .. => b.getD 0 (.Pass ⟨0, 0, 0, 0⟩)
  | s => s
/-- an error class of the program that tells: told -/
structure Er (K : PySem.W.Frag) (mg : Str → Option Value) (x : Str) (C fI : Addr) : Prop where
  mg : mg x = some (.ref C)
  ox : OexC K C
  xf : XfC K C
  noN : PySem.W.findIn K (.ref C) "told" = some none
  iC : PySem.W.findIn K (.ref C) "__init__" = some (some (.ref fI))
  tI : PySem.W.typeIn K (.ref fI) = some (.type "function")
  te : PySem.W.exmOne K (.ref C) (.ref C) = some true
  ini : ∃ fd, Fun K "__init__" "ScopeError.__init__" s_init fI fd ∧ Binds K fd ["self", "told"] []
def spIni (K : PySem.W.Frag) : Sp := fun vs H Q _ => ∃ (a C : Addr) (v : V), vs = [.ref a, v] ∧ OexC K C ∧ PySem.W.findIn K (.ref C) "told" = some none ∧ H a = some (exo a C none) ∧ ∀ dx, H dx = none → dx ≠ a → Q .non (upd (upd H dx (exd dx [("told", v)])) a (exo a C (some dx)))
section
variable {P : Program} {w : World} {K : PySem.W.Frag} {mg : Str → Option Value} {base : Heap}
theorem sc_init : FnScope ["self", "told"] ["self", "told"] (defScope s_init) := ⟨rfl, rfl, rfl, by decide +kernel, rfl, by decide +kernel, by decide +kernel⟩
theorem ok_init {f : Addr} {fd : FuncData} (F : Fun K "__init__" "ScopeError.__init__" s_init f fd) : FnOk P w K mg base CX0 1 f fd ["self", "told"] (spIni K) := by
  refine F.ok sc_init (fun vs H Q E h => ?_) (fun cdv A outer s H vs Q E hr h => ?_)
  · obtain ⟨a, C, v, rfl, _⟩ := h
    rfl
  · obtain ⟨a, C, v, rfl, T, hno, ha, k⟩ := h
    exact ⟨_, pss_one (ps_ost (pv 0) (pv 1)), _, rfl, _, rfl, a, C, rfl, T, hno, .inl ⟨ha, k⟩⟩
def up (t : TA) : TA := fun σ H Q => ∃ Q0 : List V → Hp → Prop, t σ H Q0 ∧ ∀ vs H1, Q0 vs H1 → Q vs H1
theorem pa_up {X : Cx} {es : List Expr} {t : TA} (h : PA X es t) : PA X es (up t) := ⟨fun pos pins s σ H Q I ⟨Q0, q, k⟩ => wpAny_mono (h.run pos pins s σ H Q0 I q) (fun us s1 ⟨vs, H1, I1, r, z⟩ => ⟨vs, H1, I1, r, k _ _ z⟩) fun _ _ z => z⟩
/-- X(e), to be raised -/
def tErr (C : Addr) (ta : TA) : St → Hp → XK → Prop := fun σ H Q => ta σ H fun vs H1 => ∃ v, vs = [v] ∧ ∀ H2 d, Same H1 H2 → H2 d = some (.xd [("told", v)]) → Q (.ref C) (some d) H2
theorem pmk_err {X : Cx} {x : Str} {C fI : Addr} {e : Expr} {ta : TA} {p pos : Pos} {k : Nat} (R : Er X.K X.mg x C fI) (hr : Room k X.A) (hk : 2 ≤ k) (ha : PA X [e] ta) (hg : Gl X x := by rfl) (hdb : (x == ("__debug__" : Str)) = false := by decide)
    (he : starEach (e :: []) X.env = (false, eval e X.env) :: starEach [] X.env := by rfl) (hpl : (backTo pos (starEach [] X.env)).any (·.1) = false := by rfl) : PMk X (.Call (.Name x p) [e] [] pos) (tErr C ta) := by
  obtain ⟨fd, F, hb⟩ := R.ini
  have G : FnOk X.prog X.w X.K X.mg X.base CX0 1 fI fd ["self", "told"] (spIni X.K) := ok_init F
  have M := pmk_oex (p := p) (dvs := []) R.ox R.iC R.tI G (hr.mono hk) hb .nil (fun _ _ _ _ _ _ _ h => h.elim) hg R.mg (pa_up ha) hdb he hpl
  intro pins s σ H Q I h
  refine M pins s σ H Q I ⟨_, h, fun vs H1 ⟨v, ev, q⟩ => ?_⟩
  subst ev
  refine ⟨(by show 1 ≤ 1000; decide), fun a na => ⟨a, C, v, rfl, R.ox, R.noN, upd_same, fun dx nd ne => ⟨rfl, dx, [("told", v)], upd_same, ?_, ?_, ?_⟩⟩⟩
  · rw [upd_ne ne, upd_same]
  · rw [upd_ne ne] at nd
    exact nd
  · have nd' : H1 dx = none := by
      rw [upd_ne ne] at nd
      exact nd
    refine q _ dx (fun b u hb => ?_) upd_same
    have h1 : b ≠ a := ne_of_none hb na
    have h2 : b ≠ dx := ne_of_none hb nd'
    rw [upd_ne h2, del_ne h1, upd_ne h1, upd_ne h2, upd_ne h1]
    exact hb

/-! ### what refuses -/
/-- nothing, or the error of the class at C that tells v -/
def okOr (C : Addr) (c : Bool) (v : V) (H : Hp) (E : XK) (k : Prop) : Prop := (c = true → k) ∧ (c = false → ∀ H' d, Same H H' → H' d = some (.xd [("told", v)]) → E (.ref C) (some d) H')
def spChk (K : PySem.W.Frag) (C : Addr) (f : PyData → Bool) : Sp := fun vs H Q E => ∃ v d, vs = [v] ∧ DQ K H v d ∧ okOr C (f d) v H E (∀ H', Same H H' → Q .non H')
/-- a def that may raise, called by its name -/
def ClX (P : Program) (w : World) (K : PySem.W.Frag) (mg : Str → Option Value) (base : Heap) (k : Nat) (x : Str) (ps : List Str) (sp : Sp) : Prop :=
  ∃ g fd, FnOk P w K mg base (L2.CX P w) k g fd ps sp ∧ mg x = some (.ref g) ∧ PySem.W.keepIn K (.ref g) = true ∧ Binds K fd ps []
theorem Dn.clX {k : Nat} {x : Str} {ps : List Str} {st : Stmt} {g : Addr} {fd : FuncData} {sp : Sp} (D : Dn K mg x ps st g fd) (F : FnOk P w K mg base (L2.CX P w) k g fd ps sp) : ClX P w K mg base k x ps sp :=
  ⟨g, fd, F, D.mg, D.fn.kp, D.bn⟩
theorem pe_clX {X : Cx} {k m : Nat} {W : WX} {x : Str} {ps : List Str} {sp : Sp} {e : Expr} {es : List Expr} {t : TA} {p pos : Pos} (C : ClX X.prog X.w X.K X.mg X.base k x ps sp) (hr : Room m X.A) (tk : Takes X W) (hk : k ≤ m) (ha : PA X (e :: es) t) (hg : Gl X x := by rfl) (hdb : (x == ("__debug__" : Str)) = false := by decide)
    (he : starEach (e :: es) X.env = (false, eval e X.env) :: starEach es X.env := by rfl) (hpl : (backTo pos (starEach es X.env)).any (·.1) = false := by rfl) : PE X (.Call (.Name x p) (e :: es) [] pos) (tCallS sp (WE W) t) := by
  obtain ⟨g, fd, F, hm, hk', hb⟩ := C
  exact pe_callS F (hr.mono hk) hg hm hk' hb (fun σ => passAt tk σ) ha hdb he hpl
theorem sc_chkdeed : FnScope ["deed"] ["deed"] (defScope (top 35)) := ⟨rfl, rfl, rfl, by decide +kernel, rfl, by decide +kernel, by decide +kernel⟩
theorem cl_chkdeed {C fI : Addr} (T : All K mg) (R : Er K mg "NoDeed" C fI) : ClX P w K mg base 10 "check_deed" ["deed"] (spChk K C deedD) := by
  obtain ⟨g, fd, D⟩ := T.dn 35 _ _ rfl
  refine D.clX (D.fn.okX sc_chkdeed (fun vs H Q E h => ?_) (fun cdv A outer s H vs Q E hr h => ?_))
  · obtain ⟨v, d, rfl, _⟩ := h
    rfl
  · obtain ⟨v, d, rfl, hd, k⟩ := h
    refine ⟨_, pss_one (ps_if (pt_not (pt_val (pe_cl (cl_deed T) hr (by decide) (pa_cons (pv 0) pa_nil)))) (pss_one (ps_raise rfl (takes_of rfl rfl rfl rfl) (pmk_err R hr (by decide) (pa_cons (pv 0) pa_nil)))) pss_nil), ?_⟩
    refine ⟨_, rfl, v, d, rfl, hd, fun H1 S1 => ⟨_, rfl, ?_⟩⟩
    cases e : deedD d with
    | true =>
      rw [e] at k
      exact iteF (k.1 rfl H1 S1)
    | false =>
      rw [e] at k
      exact iteT ⟨_, rfl, v, rfl, fun H2 d2 S2 h2 => k.2 rfl H2 d2 (S1.trans S2) h2⟩
theorem sc_chkhand : FnScope ["hand"] ["hand"] (defScope (top 36)) := ⟨rfl, rfl, rfl, by decide +kernel, rfl, by decide +kernel, by decide +kernel⟩
theorem cl_chkhand {C fI : Addr} (T : All K mg) (R : Er K mg "NoHand" C fI) : ClX P w K mg base 10 "check_hand" ["hand"] (spChk K C (fromD 0 3)) := by
  obtain ⟨g, fd, D⟩ := T.dn 36 _ _ rfl
  refine D.clX (D.fn.okX sc_chkhand (fun vs H Q E h => ?_) (fun cdv A outer s H vs Q E hr h => ?_))
  · obtain ⟨v, d, rfl, _⟩ := h
    rfl
  · obtain ⟨v, d, rfl, hd, k⟩ := h
    refine ⟨_, pss_one (ps_if (pt_not (pt_val (pe_cl (cl_from T) hr (by decide) (pa_cons (pv 0) (pa_cons pe_int (pa_cons pe_int pa_nil)))))) (pss_one (ps_raise rfl (takes_of rfl rfl rfl rfl) (pmk_err R hr (by decide) (pa_cons (pv 0) pa_nil)))) pss_nil), ?_⟩
    refine ⟨_, rfl, v, d, 0, 3, rfl, hd, fun H1 S1 => ⟨_, rfl, ?_⟩⟩
    cases e : fromD 0 3 d with
    | true =>
      rw [e] at k
      exact iteF (k.1 rfl H1 S1)
    | false =>
      rw [e] at k
      exact iteT ⟨_, rfl, v, rfl, fun H2 d2 S2 h2 => k.2 rfl H2 d2 (S1.trans S2) h2⟩
end
end K1
set_option maxHeartbeats 4000000
namespace K1
open PySem L2
def marked (x : Str) : Bool := decide (x = "undo" ∨ x = "redo")
def markD : PyData → Bool
  | .tuple [_, _, .tuple (.str x :: _)] => marked x
  | _ => false
theorem body_shape {d : PyData} (h : bodyD d = true) : ∃ x r, d = .tuple (.str x :: r) ∧ bodyR x r = true := by
  cases d with
  | tuple ds =>
    cases ds with
    | nil => cases h
    | cons a r =>
      cases a with
      | str x => exact ⟨x, r, rfl, h⟩
      | _ => cases h
  | _ => cases h
theorem seen_shape {t : Int} {d : PyData} (h : seenD t d = true) : ∃ a b c e, d = .tuple [a, b, c, e] ∧ [a, b, c, e].all (fromD 0 (t - 1)) = true := by
  cases d with
  | tuple ds =>
    have z : (decide (ds.length = 4) && ds.all (fromD 0 (t - 1))) = true := h
    rw [Bool.and_eq_true, decide_eq_true_eq] at z
    obtain ⟨a, b, c, e, rfl⟩ := list4 z.1
    exact ⟨a, b, c, e, rfl, z.2⟩
  | _ => cases h
/-- a right deed, part by part -/
theorem deed_shape {d : PyData} (h : deedD d = true) : ∃ (t j : Int) (a b c e : PyData) (x : Str) (r : List PyData), d = .tuple [.tuple [.int t, .int j], .tuple [a, b, c, e], .tuple (.str x :: r)] ∧ (1 ≤ t ∧ t ≤ 999) ∧ (0 ≤ j ∧ j ≤ 3) ∧ [a, b, c, e].all (fromD 0 (t - 1)) = true ∧ bodyR x r = true := by
  cases e : tupD 3 d with
  | false =>
    rw [deed_not e] at h
    cases h
  | true =>
    obtain ⟨ds, rfl, hl⟩ := tupN e
    obtain ⟨s, k, b, rfl⟩ := list3 hl
    rw [deed_of, Bool.and_eq_true, Bool.and_eq_true] at h
    obtain ⟨t, j, rfl, ht, hj⟩ := stamp_int h.1
    obtain ⟨a, b', c, e', rfl, hk⟩ := seen_shape h.2.1
    obtain ⟨x, r, rfl, hb⟩ := body_shape h.2.2
    exact ⟨t, j, a, b', c, e', x, r, rfl, ht, hj, hk, hb⟩
def spDoes (K : PySem.W.Frag) : Sp := fun vs H Q _ => ∃ v x r, vs = [v] ∧ DQ K H v (.tuple (.str x :: r)) ∧ Q (.bl (marked x)) H
def spMark (K : PySem.W.Frag) (C : Addr) : Sp := fun vs H Q E => ∃ v d, vs = [v] ∧ DQ K H v d ∧ okOr C (deedD d) v H E (∀ H', Same H H' → Q (.bl (markD d)) H')
/-- the entry of a deed's seen -/
def entryD : PyData → Int → PyData
  | .tuple [_, .tuple [a, b, c, e], _], j => if j = 0 then a else if j = 1 then b else if j = 2 then c else e
  | _, _ => .none
def spTime (K : PySem.W.Frag) (C Ch : Addr) : Sp := fun vs H Q E => ∃ v u d e, vs = [v, u] ∧ DQ K H v d ∧ DQ K H u e ∧
  okOr C (deedD d) v H E (okOr Ch (fromD 0 3 e) u H E (∀ H' x, Same H H' → ∀ j, e = .int j → DQ K H' x (entryD d j) → Q x H'))
section
variable {P : Program} {w : World} {K : PySem.W.Frag} {mg : Str → Option Value} {base : Heap}
theorem sc_does : FnScope ["body"] ["body"] (defScope (top 37)) := ⟨rfl, rfl, rfl, by decide +kernel, rfl, by decide +kernel, by decide +kernel⟩
theorem cl_does (T : All K mg) : Cl P w K mg base 1 "does_mark" ["body"] (spDoes K) := by
  obtain ⟨g, fd, D⟩ := T.dn 37 _ _ rfl
  refine D.cl (D.fn.ok sc_does (fun vs H Q E h => ?_) (fun cdv A outer s H vs Q E hr h => ?_))
  · obtain ⟨v, x, r, rfl, _⟩ := h
    rfl
  · obtain ⟨v, x, r, rfl, hd, k⟩ := h
    obtain ⟨aM, mM, tM⟩ := T.cn.mar
    obtain ⟨p, ys, u0, rfl, ht, i0, q0⟩ := hd.item (i := 0) rfl
    cases q0
    refine ⟨_, pss_one (ps_ret (pe_cmpR op_in_seq (pe_ix ix_tup (pv 0) pe_int (fun _ _ => rfl)) (pe_glob (v := .ref aM) rfl mM rfl) rfl)), ?_⟩
    refine ⟨_, rfl, p, ys, _, _, rfl, rfl, ht, i0, aM, _, rfl, .inr (tM H), rfl, rfl, ?_⟩
    show Q (.bl (inV (.str x) _)) H
    rw [in_marks]
    exact k
theorem sc_mark : FnScope ["deed"] ["deed"] (defScope (top 31)) := ⟨rfl, rfl, rfl, by decide +kernel, rfl, by decide +kernel, by decide +kernel⟩
theorem cl_mark {C fI : Addr} (T : All K mg) (R : Er K mg "NoDeed" C fI) : ClX P w K mg base 11 "is_mark" ["deed"] (spMark K C) := by
  obtain ⟨g, fd, D⟩ := T.dn 31 _ _ rfl
  refine D.clX (D.fn.okX sc_mark (fun vs H Q E h => ?_) (fun cdv A outer s H vs Q E hr h => ?_))
  · obtain ⟨v, d, rfl, _⟩ := h
    rfl
  · obtain ⟨v, d, rfl, hd, k⟩ := h
    refine ⟨_, pss_cons (ps_expr (pe_clX (cl_chkdeed T R) hr (takes_of rfl rfl rfl rfl) (by decide) (pa_cons (pv 0) pa_nil))) (pss_one (ps_ret (pe_cl (cl_does T) hr (by decide) (pa_cons (pe_ix ix_tup (pv 0) pe_int (fun _ _ => rfl)) pa_nil)))), ?_⟩
    refine ⟨_, rfl, v, d, rfl, hd, fun e H1 S1 => ?_, fun e H1 d1 S1 h1 => k.2 e H1 d1 S1 h1⟩
    obtain ⟨t, j, a, b, c, e', x, r, rfl, _⟩ := deed_shape e
    obtain ⟨p, ys, u2, rfl, ht, i2, q2⟩ := (hd.to S1).item (i := 2) rfl
    exact ⟨_, rfl, p, ys, _, u2, rfl, rfl, ht, i2, u2, x, r, rfl, q2, k.1 e H1 S1⟩
theorem sc_time : FnScope ["deed", "hand"] ["deed", "hand"] (defScope (top 33)) := ⟨rfl, rfl, rfl, by decide +kernel, rfl, by decide +kernel, by decide +kernel⟩
theorem cl_time {C Ch fI fI' : Addr} (T : All K mg) (R : Er K mg "NoDeed" C fI) (R' : Er K mg "NoHand" Ch fI') : ClX P w K mg base 11 "time_seen" ["deed", "hand"] (spTime K C Ch) := by
  obtain ⟨g, fd, D⟩ := T.dn 33 _ _ rfl
  refine D.clX (D.fn.okX sc_time (fun vs H Q E h => ?_) (fun cdv A outer s H vs Q E hr h => ?_))
  · obtain ⟨v, u, d, e, rfl, _⟩ := h
    rfl
  · obtain ⟨v, u, d, e, rfl, hd, hu, k⟩ := h
    refine ⟨_, pss_cons (ps_expr (pe_clX (cl_chkdeed T R) hr (takes_of rfl rfl rfl rfl) (by decide) (pa_cons (pv 0) pa_nil)))
      (pss_cons (ps_expr (pe_clX (cl_chkhand T R') hr (takes_of rfl rfl rfl rfl) (by decide) (pa_cons (pv 1) pa_nil)))
      (pss_one (ps_ret (pe_ix ix_tup (pe_ix ix_tup (pv 0) pe_int (fun _ _ => rfl)) (pv 1) (fun _ _ => rfl))))), ?_⟩
    refine ⟨_, rfl, v, d, rfl, hd, fun e1 H1 S1 => ?_, fun e1 H1 d1 S1 h1 => k.2 e1 H1 d1 S1 h1⟩
    have k1 := k.1 e1
    refine ⟨_, rfl, u, e, rfl, hu.to S1, fun e2 H2 S2 => ?_, fun e2 H2 d2 S2 h2 => k1.2 e2 H2 d2 (S1.trans S2) h2⟩
    have S := S1.trans S2
    obtain ⟨j, rfl, j0, j3⟩ := from_int e2
    obtain ⟨t, j', a, b, c, e', x, r, rfl, _⟩ := deed_shape e1
    obtain ⟨p, ys, u1, rfl, ht, i1, q1⟩ := (hd.to S).item (i := 1) rfl
    cases hu.to S
    have fin : ∀ (n : Nat) (z : PyData), [a, b, c, e'][n]? = some z → j = (n : Int) → entryD (.tuple [.tuple [.int t, .int j'], .tuple [a, b, c, e'], .tuple (.str x :: r)]) j = z →
        ∃ q zs v0, u1 = .ref q ∧ SqT K H2 q zs ∧ atI zs j = some v0 ∧ Q v0 H2 := fun n z hz hj hz' => by
      obtain ⟨q, zs, v0, e3, hq, hi, hv⟩ := q1.item hz
      refine ⟨q, zs, v0, e3, hq, by rw [hj]; exact hi, k1.1 e2 H2 v0 S j rfl ?_⟩
      rw [hz']
      exact hv
    have all : ∃ q zs v0, u1 = .ref q ∧ SqT K H2 q zs ∧ atI zs j = some v0 ∧ Q v0 H2 := by
      have hj : j = 0 ∨ j = 1 ∨ j = 2 ∨ j = 3 := by omega
      rcases hj with rfl | rfl | rfl | rfl
      · exact fin 0 a rfl rfl rfl
      · exact fin 1 b rfl rfl rfl
      · exact fin 2 c rfl rfl rfl
      · exact fin 3 e' rfl rfl rfl
    obtain ⟨q, zs, v0, rfl, hq, hi, hQ⟩ := all
    exact ⟨_, rfl, p, ys, _, _, rfl, rfl, ht, i1, _, rfl, q, zs, j, v0, rfl, rfl, hq, hi, hQ⟩
end
end K1
set_option maxHeartbeats 4000000
namespace K1
open PySem L2
/-- held against an empty one -/
def rEqE (K : PySem.W.Frag) : R2 := fun x y H Q => ∃ a b xs, x = .ref a ∧ y = .ref b ∧ ((SqL K H a xs ∧ SqL K H b []) ∨ (SqT K H a xs ∧ SqT K H b [])) ∧ Q (.bl xs.isEmpty) H
theorem op_eqE {X : Cx} (hu : X.A.units + 64 < cLine) : OpR X (compareOp .Eq) (rEqE X.K) := by
  intro pins s σ H x y v u Q I rx ry h
  obtain ⟨a, b, xs, rfl, rfl, h, q⟩ := h
  cases rx
  cases ry
  rcases h with ⟨h1, h2⟩ | ⟨h1, h2⟩
  · obtain ⟨us, r1, p1, _⟩ := I.list h1
    obtain ⟨ws, r2, p2, _⟩ := I.list h2
    cases r2
    cases r1 with
    | nil => exact SeqAt.eq_listAt (e := fun _ => true) p1.isList p2.isList rfl (by omega) (fun j h1 h2 => absurd h2 (Nat.not_lt_zero j)) ⟨.bl true, H, I, rfl, q⟩
    | cons r1 rs => exact SeqAt.eq_list_lengthsAt p1.isList p2.isList (by simp) (by omega) ⟨.bl false, H, I, rfl, q⟩
  · obtain ⟨us, r1, p1, _⟩ := I.tuple h1
    obtain ⟨ws, r2, p2, _⟩ := I.tuple h2
    cases r2
    refine SeqAt.eq_tupleAt (e := fun _ => true) p1 p2 (by omega) (fun j h1 h2 => absurd h2 (Nat.not_lt_zero j)) ⟨.bl xs.isEmpty, H, I, ?_, q⟩
    cases r1 with
    | nil => rfl
    | cons r1 rs => show Value.bool _ = Value.bool false; simp
def rNeE (K : PySem.W.Frag) : R2 := fun x y H Q => ∃ a b xs, x = .ref a ∧ y = .ref b ∧ SqL K H a xs ∧ SqL K H b [] ∧ Q (.bl !xs.isEmpty) H
theorem op_neE {X : Cx} (hu : X.A.units + 64 < cLine) : OpR X (compareOp .NotEq) (rNeE X.K) := by
  intro pins s σ H x y v u Q I rx ry h
  obtain ⟨a, b, xs, rfl, rfl, h1, h2, q⟩ := h
  cases rx
  cases ry
  obtain ⟨us, r1, p1, _⟩ := I.list h1
  obtain ⟨ws, r2, p2, _⟩ := I.list h2
  cases r2
  cases r1 with
  | nil => exact SeqAt.RcNeAt.lists (e := fun _ => true) p1.isList p2.isList rfl (by omega) (fun j h1 h2 => absurd h2 (Nat.not_lt_zero j)) _ _ _ _ ⟨.bl false, H, I, rfl, q⟩
  | cons r1 rs => exact SeqAt.RcNeAt.lists_lengths p1.isList p2.isList (by simp) (by omega) _ _ _ _ ⟨.bl true, H, I, rfl, q⟩
def sgn (c : Nat) : V := .str ⟨#[c]⟩
/-- a comprehension over a text's signs, with a test -/
theorem lc_filtS {z : Str} {te : TE} {tt : TT} {j : Nat} {σ : St} {H1 : Hp} {D : Addr} {Qd : Hp → Prop} (p : Nat → Bool) (nD : H1 D = none) (hz : z.cps.size ≤ 1000) (hw : ∀ x, wipe ((wipe σ [j]).set j (some x)) [j] = wipe σ [j])
    (ht : ∀ c H' Q, Same H1 H' → Q (p c) H' → tt ((wipe σ [j]).set j (some (sgn c))) H' Q)
    (he : ∀ c H' Q, Same H1 H' → Q (sgn c) H' → te ((wipe σ [j]).set j (some (sgn c))) H' Q) (hd : ∀ H', Same H1 H' → H' D = some (.lst ((z.cps.toList.filter p).map sgn)) → Qd H') :
    ∃ W : Nat → Nat → Hp → Prop, (∃ m, W 0 m (upd H1 D (.lst []))) ∧ ∀ i m H, W i m H →
      ((Its z).stop i H ∧ Qd H) ∨ ((Its z).go i H ∧ ∃ Nx : Hp → Prop, (∀ H', Nx H' → ∃ m', m' < m ∧ W (i + 1) m' H') ∧ ∀ x H', (Its z).yld i H x H' → (gName j) x (wipe σ [j]) H' fun σ2 H2 => wipe σ2 [j] = wipe σ [j] ∧ tt σ2 H2 fun b H3 =>
        if b = true then te σ2 H3 fun y H4 => ∃ acc, H4 D = some (.lst acc) ∧ acc.length < sizeLine ∧ Nx (upd H4 D (.lst (acc ++ [y]))) else Nx H3) := by
  have sz : z.cps.size = z.cps.toList.length := (Array.length_toList).symm
  refine lc_it (walk_str (z := z)) (fun i H' => i ≤ z.cps.size ∧ Same H1 H' ∧ H' D = some (.lst (((z.cps.toList.take i).filter p).map sgn))) ⟨Nat.zero_le _, K0.same_upd nD, upd_same⟩ (fun _ _ _ _ => trivial) ?_ (fun H' ⟨_, s, h⟩ => ?_)
  · rintro i x H2 H' hlt ⟨hle, s, h⟩ ⟨rfl, c, hc, rfl⟩
    refine ⟨hw _, ?_⟩
    have hc' : z.cps.toList[i]? = some c := by
      rw [Array.getElem?_toList]
      exact hc
    have tk : z.cps.toList.take (i + 1) = z.cps.toList.take i ++ [c] := by
      rw [List.take_succ, hc']
      rfl
    have hl : ((z.cps.toList.take i).filter p).length ≤ i := Nat.le_trans (List.length_filter_le _ _) (by rw [List.length_take]; omega)
    refine ht c _ _ s ?_
    cases e : p c with
    | true =>
      refine iteT (he c _ _ s ⟨_, h, ?_, hlt, K0.same_over s nD, ?_⟩)
      · rw [List.length_map, sizeLine_eq]
        omega
      · rw [upd_same, tk, List.filter_append, List.map_append, List.filter_cons_of_pos e]
        rfl
    | false =>
      refine iteF ⟨hlt, s, ?_⟩
      rw [tk, List.filter_append, List.filter_cons_of_neg (by rw [e]; exact Bool.false_ne_true), List.filter_nil, List.append_nil]
      exact h
  · refine hd H' s ?_
    rw [sz, List.take_length] at h
    exact h
end K1
set_option maxHeartbeats 4000000
namespace K1
open PySem L2
section
variable {P : Program} {w : World} {K : PySem.W.Frag} {mg : Str → Option Value} {base : Heap}
theorem sc_whole : FnScope [("_law_value" : Str), ("_law_low" : Str), ("_law_high" : Str)] [("_law_value" : Str), ("_law_low" : Str), ("_law_high" : Str)] (defScope (top 64)) := ⟨rfl, rfl, rfl, by decide +kernel, rfl, by decide +kernel, by decide +kernel⟩

theorem cl_whole (T : All K mg) : Cl P w K mg base 1 "_law_whole" ["_law_value", "_law_low", "_law_high"] (spFrom K) := by
  obtain ⟨g, fd, D⟩ := T.dn 64 _ _ rfl
  refine D.cl (D.fn.ok sc_whole (fun vs H Q E h => ?_) (fun cdv A outer s H vs Q E hr h => ?_))
  · obtain ⟨v, d, lo, hi, rfl, _⟩ := h
    rfl
  · obtain ⟨v, d, lo, hi, rfl, hd, k⟩ := h
    refine ⟨_, (pss_one (ps_ret (pe_and (pe_callB call_isiD (by rfl) T.bi.isi (by decide +kernel) (pa_cons (pv 0) (pa_cons (pe_bltn (v := .ty "int") (by rfl) T.bi.int (by decide +kernel) rfl) pa_nil))) (pe_and (pe_not (pe_callB call_isiD (by rfl) T.bi.isi (by decide +kernel) (pa_cons (pv 0) (pa_cons (pe_bltn (v := .ty "bool") (by rfl) T.bi.bool (by decide +kernel) rfl) pa_nil)))) (pe_one (pe_chain op_le op_le (pv 1) (pv 0) (pv 2))))))), ?_⟩
    refine ⟨_, rfl, v, d, _, _, rfl, hd, kit_int d, _, rfl, ?_⟩
    have k' := k H (Same.refl H)
    cases hd with
    | int i =>
      refine iteT ⟨_, rfl, _, _, _, _, rfl, .int i, kit_bool _, _, rfl, _, rfl, iteT ?_⟩
      refine ⟨_, rfl, _, rfl, _, _, rfl, rfl, _, rfl, ?_⟩
      have e : fromD lo hi (.int i) = (decide (lo ≤ i) && decide (i ≤ hi)) := rfl
      rw [e] at k'
      refine ite2 (fun h => ?_) (fun h => ?_)
      · rw [h, Bool.true_and] at k'
        exact ⟨_, rfl, _, _, rfl, rfl, k'⟩
      · rw [Bool.eq_false_iff.mpr h, Bool.false_and] at k'
        exact k'
    | bl b => exact iteT ⟨_, rfl, _, _, _, _, rfl, .bl b, kit_bool _, _, rfl, _, rfl, iteF k'⟩
    | _ => exact iteF k'
theorem sc_astamp : FnScope [("_law_value" : Str)] [("_law_value" : Str)] (defScope (top 65)) := ⟨rfl, rfl, rfl, by decide +kernel, rfl, by decide +kernel, by decide +kernel⟩

theorem ne_is {n m : Nat} {i : Int} (hi : i = (m : Int)) : (!decide (V.int (n : Int) = V.int i)) = !decide (n = m) := by
  subst hi
  rw [dec_len]
theorem cl_astamp (T : All K mg) : Cl P w K mg base 2 "_law_a_stamp" ["_law_value"] (spD K stampD) := by
  obtain ⟨g, fd, D⟩ := T.dn 65 _ _ rfl
  refine D.cl (D.fn.ok sc_astamp (fun vs H Q E h => ?_) (fun cdv A outer s H vs Q E hr h => ?_))
  · obtain ⟨v, d, rfl, _⟩ := h
    rfl
  · obtain ⟨v, d, rfl, hd, k⟩ := h
    refine ⟨_, (pss_cons (ps_if (PW.pt (pw_or (pt_not (pt_val (pe_callB call_isiD (by rfl) T.bi.isi (by decide +kernel) (pa_cons (pv 0) (pa_cons (pe_bltn (v := .ty "tuple") (by rfl) T.bi.tuple (by decide +kernel) rfl) pa_nil))))) (pw_or1 (pt_cmpR op_ne (pe_callB call_len_seq (by rfl) T.bi.len PySem.boot_len (pa_cons (pv 0) pa_nil)) pe_int (nomark _))))) (pss_one (ps_ret pe_bl)) pss_nil)
      (pss_one (ps_ret (pe_and (pe_cl (cl_whole T) hr (by decide) (pa_cons (pe_ix ix_tup (pv 0) pe_int (fun _ _ => rfl)) (pa_cons pe_int (pa_cons pe_int pa_nil)))) (pe_one (pe_cl (cl_whole T) hr (by decide) (pa_cons (pe_ix ix_tup (pv 0) pe_int (fun _ _ => rfl)) (pa_cons pe_int (pa_cons pe_int pa_nil))))))))), ?_⟩
    refine ⟨_, rfl, v, d, _, _, rfl, hd, kit_tup d, _, rfl, ?_⟩
    have k' := k H (Same.refl H)
    have hD := hd
    cases hd with
    | @tup a xs ds h1 h2 =>
      refine iteF ⟨_, rfl, a, _, rfl, .inr h1, rfl, _, rfl, ?_⟩
      rw [h2.len, ne_is (m := 2) (i := 2) rfl]
      by_cases z : ds.length = 2
      · obtain ⟨x, y, rfl⟩ := list2 z
        rw [stamp_of] at k
        obtain ⟨p, ys, u0, e, ht, i0, q0⟩ := hD.item (i := 0) rfl
        cases e
        refine iteF ⟨_, rfl, a, ys, _, u0, rfl, rfl, ht, i0, u0, x, _, _, rfl, q0, fun H1 S1 => ⟨_, rfl, ?_⟩⟩
        refine ite2 (fun e1 => ?_) (fun e1 => ?_)
        · rw [e1, Bool.true_and] at k
          obtain ⟨p, ys, u1, e, ht, i1, q1⟩ := (hD.to S1).item (i := 1) rfl
          cases e
          exact ⟨_, rfl, a, ys, _, u1, rfl, rfl, ht, i1, u1, y, _, _, rfl, q1, fun H2 S2 => k H2 (S1.trans S2)⟩
        · have k' := k H1 S1
          rw [Bool.eq_false_iff.mpr e1, Bool.false_and] at k'
          exact k'
      · rw [(not_stamp (d := .tuple ds) (decide_eq_false z)).1] at k'
        rw [decide_eq_false z]
        exact iteT k'
    | _ =>
      refine iteT ?_
      refine iteT ?_
      exact k'
theorem sc_aplace : FnScope [("_law_value" : Str)] [("_law_value" : Str)] (defScope (top 66)) := ⟨rfl, rfl, rfl, by decide +kernel, rfl, by decide +kernel, by decide +kernel⟩

theorem cl_aplace (T : All K mg) : Cl P w K mg base 3 "_law_a_place" ["_law_value"] (spD K thingD) := by
  obtain ⟨g, fd, D⟩ := T.dn 66 _ _ rfl
  refine D.cl (D.fn.ok sc_aplace (fun vs H Q E h => ?_) (fun cdv A outer s H vs Q E hr h => ?_))
  · obtain ⟨v, d, rfl, _⟩ := h
    rfl
  · obtain ⟨v, d, rfl, hd, k⟩ := h
    refine ⟨_, (pss_cons (ps_if (pt_val (pe_cl (cl_astamp T) hr (by decide) (pa_cons (pv 0) pa_nil))) (pss_one (ps_ret pe_bl)) pss_nil)
      (pss_cons (ps_if (PW.pt (pw_or (pt_not (pt_val (pe_callB call_isiD (by rfl) T.bi.isi (by decide +kernel) (pa_cons (pv 0) (pa_cons (pe_bltn (v := .ty "tuple") (by rfl) T.bi.tuple (by decide +kernel) rfl) pa_nil))))) (pw_or1 (pt_cmpR op_ne (pe_callB call_len_seq (by rfl) T.bi.len PySem.boot_len (pa_cons (pv 0) pa_nil)) pe_int (nomark _))))) (pss_one (ps_ret pe_bl)) pss_nil)
      (pss_one (ps_ret (pe_and (pe_cl (cl_whole T) hr (by decide) (pa_cons (pe_ix ix_tup (pv 0) pe_int (fun _ _ => rfl)) (pa_cons pe_int (pa_cons pe_int pa_nil)))) (pe_one (pe_cl (cl_whole T) hr (by decide) (pa_cons (pe_ix ix_tup (pv 0) pe_int (fun _ _ => rfl)) (pa_cons pe_int (pa_cons pe_int pa_nil)))))))))), ?_⟩
    refine ⟨_, rfl, v, d, rfl, hd, fun H0 S0 => ⟨_, rfl, ?_⟩⟩
    unfold thingD at k
    cases es : stampD d with
    | true =>
      have k' := k H0 S0
      rw [es] at k'
      exact iteT k'
    | false =>
      rw [es, Bool.false_or] at k
      have hD := hd.to S0
      refine iteF ⟨_, rfl, v, d, _, _, rfl, hD, kit_tup d, _, rfl, ?_⟩
      have k' := k H0 S0
      have hd1 := hD
      cases hd1 with
      | @tup a xs ds h1 h2 =>
        refine iteF ⟨_, rfl, a, _, rfl, .inr h1, rfl, _, rfl, ?_⟩
        rw [h2.len, ne_is (m := 2) (i := 2) rfl]
        by_cases z : ds.length = 2
        · obtain ⟨x, y, rfl⟩ := list2 z
          rw [root_of] at k
          obtain ⟨p, ys, u0, e, ht, i0, q0⟩ := hD.item (i := 0) rfl
          cases e
          refine iteF ⟨_, rfl, a, ys, _, u0, rfl, rfl, ht, i0, u0, x, _, _, rfl, q0, fun H1 S1 => ⟨_, rfl, ?_⟩⟩
          refine ite2 (fun e1 => ?_) (fun e1 => ?_)
          · rw [e1, Bool.true_and] at k
            obtain ⟨p, ys, u1, e, ht, i1, q1⟩ := (hD.to S1).item (i := 1) rfl
            cases e
            exact ⟨_, rfl, a, ys, _, u1, rfl, rfl, ht, i1, u1, y, _, _, rfl, q1, fun H2 S2 => k H2 ((S0.trans S1).trans S2)⟩
          · have k' := k H1 (S0.trans S1)
            rw [Bool.eq_false_iff.mpr e1, Bool.false_and] at k'
            exact k'
        · rw [(not_stamp (d := .tuple ds) (decide_eq_false z)).2] at k'
          rw [decide_eq_false z]
          exact iteT k'
      | _ =>
        refine iteT ?_
        refine iteT ?_
        exact k'
theorem sc_aname : FnScope [("_law_value" : Str), ("_law_sign" : Str)] [("_law_value" : Str)] (defScope (top 67)) := ⟨rfl, rfl, rfl, by decide +kernel, rfl, by decide +kernel, by decide +kernel⟩

theorem filt_nil (x : Str) : (((x.cps.toList.filter fun c => !letter c).map sgn).isEmpty) = x.cps.toList.all letter := by
  rw [List.isEmpty_map, Bool.eq_iff_iff, List.isEmpty_iff, List.filter_eq_nil_iff, List.all_eq_true]
  exact forall_congr' fun c => imp_congr Iff.rfl (by cases letter c <;> simp)
theorem cl_aname (T : All K mg) : Cl P w K mg base 1 "_law_a_name" ["_law_value"] (spD K nameD) := by
  obtain ⟨g, fd, D⟩ := T.dn 67 _ _ rfl
  refine D.cl (D.fn.ok sc_aname (fun vs H Q E h => ?_) (fun cdv A outer s H vs Q E hr h => ?_))
  · obtain ⟨v, d, rfl, _⟩ := h
    rfl
  · obtain ⟨v, d, rfl, hd, k⟩ := h
    refine ⟨_, (pss_cons (ps_if (PW.pt (pw_or (pt_not (pt_val (pe_callB call_isiD (by rfl) T.bi.isi (by decide +kernel) (pa_cons (pv 0) (pa_cons (pe_bltn (v := .ty "str") (by rfl) T.bi.str (by decide +kernel) rfl) pa_nil))))) (pw_or1 (pt_not (pt_chain op_le op_le pe_int (pe_callB call_len_str (by rfl) T.bi.len PySem.boot_len (pa_cons (pv 0) pa_nil)) pe_int))))) (pss_one (ps_ret pe_bl)) pss_nil)
      (pss_one (ps_ret (pe_cmpR (op_eqE hr.units) (pe_lc (own := [("_law_sign", 1)]) (g := gName 1) (tt := tTest (tOp L2.rNotInS (tVar 1) (tC (.str "abcdefghijklmnopqrstuvwxyz")))) rfl sc_aname.nd (pi_str (pv 0)) (blkOk_by (own := [("_law_sign", 1)]) (N := [("_law_value" : Str), ("_law_sign" : Str)]) (sc := defScope (top 67)) (by decide +kernel)) (fun _ _ _ _ _ => pg_name (i := 1) sc_aname.nd rfl (Or.inl rfl)) (fun _ _ _ _ _ => pts_one (pt_cmpR L2.op_notInS (pv 1) pe_str rfl)) (fun _ _ _ _ _ => pv 1)) (pe_lst pa_nil) (nomark _))))), ?_⟩
    refine ⟨_, rfl, v, d, _, _, rfl, hd, kit_str d, _, rfl, ?_⟩
    have k' := k H (Same.refl H)
    cases hd with
    | str x hx =>
      refine iteF ⟨_, rfl, x, rfl, ?_, _, _, rfl, rfl, _, rfl, ?_⟩
      · rw [sizeLine_eq]
        omega
      · have e : nameD (.str x) = (decide (1 ≤ x.length) && decide (x.length ≤ 4) && x.cps.toList.all letter) := rfl
        rw [e] at k'
        refine ite2 (fun h1 => ?_) (fun h1 => ?_)
        · refine ⟨_, _, rfl, rfl, _, rfl, ?_⟩
          have h1' : 1 ≤ x.length := by
            have := of_decide_eq_true h1
            omega
          by_cases h2 : x.length ≤ 4
          · refine iteNS (by omega) ?_
            refine ⟨_, rfl, x, rfl, fun Dd nD => ?_⟩
            refine lc_filtS (z := x) (j := 1) (fun c => !letter c) nD (by show x.length ≤ 1000; exact hx) (fun _ => rfl) (fun c H' Q' s' q => ?_) (fun c H' Q' s' q => ⟨_, rfl, q⟩) (fun H' s' hD => ?_)
            · refine ⟨_, rfl, c, _, rfl, rfl, _, rfl, ?_⟩
              rw [mem_letters]
              exact q
            · refine ⟨by rw [sizeLine_eq]; decide, fun pE nE => ⟨Dd, pE, _, rfl, rfl, .inl ⟨SqL.of ((upd_ne (ne_of_none hD nE)).trans hD), SqL.of upd_same⟩, ?_⟩⟩
              have z := k (upd H' pE (.lst [])) (s'.trans (K0.same_upd nE))
              rw [e, decide_eq_true h1', decide_eq_true h2, Bool.true_and, Bool.true_and, ← filt_nil] at z
              exact z
          · rw [decide_eq_true h1', decide_eq_false h2] at k'
            rw [decide_eq_false (by omega)]
            exact iteT k'
        · have h1' : ¬ 1 ≤ x.length := fun h => h1 (decide_eq_true (by omega))
          rw [decide_eq_false h1'] at k'
          exact ⟨_, rfl, iteT k'⟩
    | _ => exact iteT (iteT k')
end
end K1
set_option maxHeartbeats 4000000
namespace K1
open PySem L2
section
variable {P : Program} {w : World} {K : PySem.W.Frag} {mg : Str → Option Value} {base : Heap}
theorem sc_acont : FnScope [("_law_kind" : Str), ("_law_value" : Str)] [("_law_kind" : Str), ("_law_value" : Str)] (defScope (top 68)) := ⟨rfl, rfl, rfl, by decide +kernel, rfl, by decide +kernel, by decide +kernel⟩

def spCont (K : PySem.W.Frag) : Sp := fun vs H Q _ => ∃ x u e, vs = [.str x, u] ∧ DQ K H u e ∧ ∀ H', Same H H' → Q (.bl (contentD (.str x) e)) H'
theorem in_three (x a b c : Str) : inV (.str x) [.str a, .str b, .str c] = (x == a || x == b || x == c) := by
  have q : ∀ y : Str, eqV (.str y) (.str x) = (x == y) := fun y => by
    show (y == x) = (x == y)
    rw [Bool.eq_iff_iff, beq_iff_eq, beq_iff_eq]
    exact ⟨Eq.symm, Eq.symm⟩
  unfold inV
  rw [List.any_cons, List.any_cons, List.any_cons, List.any_nil, q, q, q, Bool.or_false, Bool.or_assoc]
theorem holds_three {x : Str} (h : ¬ x = "let") : holdsD (.str x) = (x == "block" || x == "sum" || x == "product") := by
  show (x == "block" || x == "let" || x == "sum" || x == "product") = _
  rw [show (x == ("let" : Str)) = false from beq_false_of_ne h, Bool.or_false]
theorem cl_acont (T : All K mg) : Cl P w K mg base 4 "_law_a_content" ["_law_kind", "_law_value"] (spCont K) := by
  obtain ⟨g, fd, D⟩ := T.dn 68 _ _ rfl
  refine D.cl (D.fn.ok sc_acont (fun vs H Q E h => ?_) (fun cdv A outer s H vs Q E hr h => ?_))
  · obtain ⟨x, u, e, rfl, _⟩ := h
    rfl
  · obtain ⟨x, u, e, rfl, he, k⟩ := h
    refine ⟨_, (pss_cons (ps_if (pt_cmpR op_eq (pv 0) pe_str (nomark _)) (pss_one (ps_ret (pe_cl (cl_aname T) hr (by decide) (pa_cons (pv 1) pa_nil)))) pss_nil)
      (pss_cons (ps_if (pt_cmpR op_eq (pv 0) pe_str (nomark _)) (pss_one (ps_ret (pe_or (pe_cmpR op_isN (pv 1) pe_non (nomark _)) (pe_one (pe_cl (cl_aplace T) hr (by decide) (pa_cons (pv 1) pa_nil)))))) pss_nil)
      (pss_cons (ps_if (pt_cmpR op_eq (pv 0) pe_str (nomark _)) (pss_one (ps_ret (pe_cl (cl_whole T) hr (by decide) (pa_cons (pv 1) (pa_cons pe_int (pa_cons pe_int pa_nil)))))) pss_nil)
      (pss_one (ps_ret (pe_and (pe_cmpR op_in_seq (pv 0) (pe_lst (pa_cons pe_str (pa_cons pe_str (pa_cons pe_str pa_nil)))) rfl) (pe_one (pe_cmpR op_isN (pv 1) pe_non (nomark _))))))))), ?_⟩
    have ec : contentD (.str x) e = if x = "let" then nameD e else if x = "use" then binderD e else if x = "number" then fromD 0 99 e else holdsD (.str x) && noneD e := rfl
    rw [ec] at k
    refine ⟨_, rfl, rfl, _, rfl, ?_⟩
    rw [dec_str]
    by_cases c1 : x = "let"
    · rw [if_pos c1] at k
      rw [decide_eq_true c1]
      exact iteT ⟨_, rfl, u, e, rfl, he, k⟩
    · rw [if_neg c1] at k
      rw [decide_eq_false c1]
      refine iteF ⟨_, rfl, rfl, _, rfl, ?_⟩
      rw [dec_str]
      by_cases c2 : x = "use"
      · rw [if_pos c2] at k
        rw [decide_eq_true c2]
        refine iteT ⟨_, rfl, rfl, _, rfl, ?_⟩
        rw [he.dec_none]
        cases en : noneD e with
        | true =>
          have k' := k H (Same.refl H)
          rw [binder_none en] at k'
          exact iteT k'
        | false =>
          rw [binder_some en] at k
          exact iteF ⟨_, rfl, u, e, rfl, he, k⟩
      · rw [if_neg c2] at k
        rw [decide_eq_false c2]
        refine iteF ⟨_, rfl, rfl, _, rfl, ?_⟩
        rw [dec_str]
        by_cases c3 : x = "number"
        · rw [if_pos c3] at k
          rw [decide_eq_true c3]
          exact iteT ⟨_, rfl, u, e, _, _, rfl, he, k⟩
        · rw [if_neg c3, holds_three c1] at k
          rw [decide_eq_false c3]
          refine iteF ⟨_, rfl, by rw [sizeLine_eq]; decide, fun p new => ⟨p, _, rfl, .inl (SqL.of upd_same), rfl, rfl, _, rfl, ?_⟩⟩
          have k' := k (upd H p (.lst [.str "block", .str "sum", .str "product"])) (K0.same_upd new)
          show if inV (.str x) _ = true then _ else _
          rw [in_three]
          cases hb : (x == ("block" : Str) || x == ("sum" : Str) || x == ("product" : Str)) with
          | true =>
            rw [hb, Bool.true_and] at k'
            refine iteT ⟨_, rfl, rfl, ?_⟩
            rw [he.dec_none]
            exact k'
          | false =>
            rw [hb, Bool.false_and] at k'
            exact iteF k'
theorem sc_abody : FnScope [("_law_value" : Str), ("_law_word" : Str), ("_law_many" : Str), ("_law_kind" : Str)] [("_law_value" : Str)] (defScope (top 69)) := ⟨rfl, rfl, rfl, by decide +kernel, rfl, by decide +kernel, by decide +kernel⟩

theorem cl_abody (T : All K mg) : Cl P w K mg base 5 "_law_a_body" ["_law_value"] (spD K bodyD) := by
  obtain ⟨g, fd, D⟩ := T.dn 69 _ _ rfl
  refine D.cl (D.fn.ok sc_abody (fun vs H Q E h => ?_) (fun cdv A outer s H vs Q E hr h => ?_))
  · obtain ⟨v, d, rfl, _⟩ := h
    rfl
  · obtain ⟨v, d, rfl, hd, k⟩ := h
    refine ⟨_, (pss_cons (ps_if (PW.pt (pw_or (pt_not (pt_val (pe_callB call_isiD (by rfl) T.bi.isi (by decide +kernel) (pa_cons (pv 0) (pa_cons (pe_bltn (v := .ty "tuple") (by rfl) T.bi.tuple (by decide +kernel) rfl) pa_nil))))) (pw_or (pt_cmpR (op_eqE hr.units) (pv 0) (pe_tup pa_nil) (nomark _)) (pw_or1 (pt_not (pt_val (pe_callB call_isiD (by rfl) T.bi.isi (by decide +kernel) (pa_cons (pe_ix ix_tup (pv 0) pe_int (fun _ _ => rfl)) (pa_cons (pe_bltn (v := .ty "str") (by rfl) T.bi.str (by decide +kernel) rfl) pa_nil))))))))) (pss_one (ps_ret pe_bl)) pss_nil)
      (pss_cons (ps_par (i := 1) (j := 2) (by rfl) sc_abody.nd rfl rfl (by decide) rfl rfl (pa_cons (pe_ix ix_tup (pv 0) pe_int (fun _ _ => rfl)) (pa_cons (pe_callB call_len_seq (by rfl) T.bi.len PySem.boot_len (pa_cons (pv 0) pa_nil)) pa_nil)) (by rfl))
      (pss_cons (ps_if (pt_cmpR op_eq (pv 1) pe_str (nomark _)) (pss_cons (ps_if (PW.pt (pw_or (pt_cmpR op_ne (pv 2) pe_int (nomark _)) (pw_or (pt_not (pt_val (pe_callB call_isiD (by rfl) T.bi.isi (by decide +kernel) (pa_cons (pe_ix ix_tup (pv 0) pe_int (fun _ _ => rfl)) (pa_cons (pe_bltn (v := .ty "str") (by rfl) T.bi.str (by decide +kernel) rfl) pa_nil))))) (pw_or1 (pt_not (pt_val (pe_cl (cl_aplace T) hr (by decide) (pa_cons (pe_ix ix_tup (pv 0) pe_int (fun _ _ => rfl)) pa_nil)))))))) (pss_one (ps_ret pe_bl)) pss_nil)
      (pss_one (ps_ret (pe_and (pe_cl (cl_whole T) hr (by decide) (pa_cons (pe_ix ix_tup (pv 0) pe_int (fun _ _ => rfl)) (pa_cons pe_int (pa_cons pe_int pa_nil)))) (pe_one (pe_cl (cl_acont T) hr (by decide) (pa_cons (pe_ix ix_tup (pv 0) pe_int (fun _ _ => rfl)) (pa_cons (pe_ix ix_tup (pv 0) pe_int (fun _ _ => rfl)) pa_nil)))))))) pss_nil)
      (pss_cons (ps_if (pt_cmpR op_eq (pv 1) pe_str (nomark _)) (pss_one (ps_ret (pe_and (pe_cmpR op_eq (pv 2) pe_int (nomark _)) (pe_and (pe_cl (cl_aplace T) hr (by decide) (pa_cons (pe_ix ix_tup (pv 0) pe_int (fun _ _ => rfl)) pa_nil)) (pe_and (pe_cl (cl_aplace T) hr (by decide) (pa_cons (pe_ix ix_tup (pv 0) pe_int (fun _ _ => rfl)) pa_nil)) (pe_one (pe_cl (cl_whole T) hr (by decide) (pa_cons (pe_ix ix_tup (pv 0) pe_int (fun _ _ => rfl)) (pa_cons pe_int (pa_cons pe_int pa_nil)))))))))) pss_nil)
      (pss_cons (ps_if (pt_cmpR op_eq (pv 1) pe_str (nomark _)) (pss_one (ps_ret (pe_and (pe_cmpR op_eq (pv 2) pe_int (nomark _)) (pe_one (pe_cl (cl_aplace T) hr (by decide) (pa_cons (pe_ix ix_tup (pv 0) pe_int (fun _ _ => rfl)) pa_nil)))))) pss_nil)
      (pss_cons (ps_if (pt_cmpR op_in_seq (pv 1) (pe_lst (pa_cons pe_str (pa_cons pe_str (pa_cons pe_str pa_nil)))) rfl) (pss_cons (ps_set (i := 3) sc_abody.nd rfl (Or.inl rfl) (pe_dget (hu_of hr) (pe_disp (pps_cons pe_str pe_str (pps_cons pe_str pe_str (pps_cons pe_str pe_str pps_nil))) (by rfl) (by rfl) (fun z => by cases z) (by decide)) (pv 1) (fun _ _ => rfl)))
      (pss_one (ps_ret (pe_and (pe_cmpR op_eq (pv 2) pe_int (nomark _)) (pe_and (pe_cl (cl_aplace T) hr (by decide) (pa_cons (pe_ix ix_tup (pv 0) pe_int (fun _ _ => rfl)) pa_nil)) (pe_one (pe_cl (cl_acont T) hr (by decide) (pa_cons (pv 3) (pa_cons (pe_ix ix_tup (pv 0) pe_int (fun _ _ => rfl)) pa_nil))))))))) pss_nil)
      (pss_one (ps_ret (pe_and (pe_cmpR op_in_seq (pv 1) (pe_lst (pa_cons pe_str (pa_cons pe_str pa_nil))) rfl) (pe_and (pe_cmpR op_eq (pv 2) pe_int (nomark _)) (pe_one (pe_cl (cl_astamp T) hr (by decide) (pa_cons (pe_ix ix_tup (pv 0) pe_int (fun _ _ => rfl)) pa_nil))))))))))))), ?_⟩
    refine ⟨_, rfl, v, d, _, _, rfl, hd, kit_tup d, _, rfl, ?_⟩
    have k' := k H (Same.refl H)
    have hD := hd
    cases hd with
    | @tup a xs ds h1 h2 =>
      refine iteF ⟨_, rfl, by rw [sizeLine_eq]; decide, fun p new => ?_⟩
      have S1 : Same H (upd H p (.tup [])) := K0.same_upd new
      refine ⟨a, p, xs, rfl, rfl, .inr ⟨K0.seqT_same S1 h1, .inl (.inl upd_same)⟩, _, rfl, ?_⟩
      generalize upd H p (.tup []) = H1 at S1 ⊢
      have hD1 := hD.to S1
      have h1' := K0.seqT_same S1 h1
      cases h2 with
      | nil => exact iteT (iteT (k H1 S1))
      | @cons u0 us d0 r q0 qs =>
        have a0 : atI (u0 :: us) 0 = some u0 := atI_nat (j := 0) rfl
        have hl := qs.len
        refine iteF ⟨_, rfl, a, _, _, u0, rfl, rfl, h1', a0, u0, d0, _, _, rfl, q0.to S1, kit_str d0, _, rfl, ?_⟩
        have k1 := k H1 S1
        cases q0 with
        | str x hx =>
          refine iteF ⟨_, rfl, a, _, _, V.str x, rfl, rfl, h1', a0, _, rfl, a, _, rfl, .inr h1', _, _, rfl, ?_⟩
          have ek : bodyD (.tuple (.str x :: r)) = bodyR x r := rfl
          rw [ek] at k
          unfold bodyR at k
          refine ⟨_, rfl, rfl, _, rfl, ?_⟩
          rw [dec_str]
          by_cases c1 : x = "make"
          · rw [if_pos c1] at k
            rw [decide_eq_true c1]
            refine iteT ⟨_, rfl, rfl, _, rfl, ?_⟩
            rw [List.length_cons, len_is (m := 4) (i := 5) rfl, hl]
            by_cases z : r.length = 4
            · rw [decide_eq_true z]
              obtain ⟨d1, d2, d3, d4, rfl⟩ := list4 z
              have em : makeR [d1, d2, d3, d4] = (thingD d2 && (fromD 0 999 d3 && contentD d1 d4)) := rfl
              rw [em] at k
              obtain ⟨p1, ys, u1, e, ht, i1, q1⟩ := hD1.item (i := 1) rfl
              cases e
              refine iteF ⟨_, rfl, a, ys, _, u1, rfl, rfl, ht, i1, u1, d1, _, _, rfl, q1, kit_str d1, _, rfl, ?_⟩
              have fin : isStr d1 = false → Q (.bl false) H1 := fun h => by
                have k' := k H1 S1
                have e0 : contentD d1 d4 = false := by
                  cases d1 with
                  | str => cases h
                  | _ => rfl
                rw [e0, Bool.and_false, Bool.and_false] at k'
                exact k'
              cases q1 with
              | str w' hw' =>
                obtain ⟨p2, ys2, u2, e, ht2, i2, q2⟩ := hD1.item (i := 2) rfl
                cases e
                refine iteF ⟨_, rfl, a, ys2, _, u2, rfl, rfl, ht2, i2, u2, d2, rfl, q2, fun H2 S2 => ⟨_, rfl, ?_⟩⟩
                cases e2 : thingD d2 with
                | false =>
                  have k' := k H2 (S1.trans S2)
                  rw [e2, Bool.false_and] at k'
                  exact iteT k'
                | true =>
                  rw [e2, Bool.true_and] at k
                  obtain ⟨p3, ys3, u3, e, ht3, i3, q3⟩ := (hD1.to S2).item (i := 3) rfl
                  cases e
                  refine iteF ⟨_, rfl, a, ys3, _, u3, rfl, rfl, ht3, i3, u3, d3, _, _, rfl, q3, fun H3 S3 => ⟨_, rfl, ?_⟩⟩
                  refine ite2 (fun e3 => ?_) (fun e3 => ?_)
                  · rw [e3, Bool.true_and] at k
                    obtain ⟨p4, ys4, u4, e, ht4, i4, q4⟩ := ((hD1.to S2).to S3).item (i := 4) rfl
                    cases e
                    obtain ⟨p5, ys5, u5, e, ht5, i5, q5⟩ := ((hD1.to S2).to S3).item (i := 1) rfl
                    cases e
                    cases q5
                    exact ⟨_, rfl, a, ys5, _, _, rfl, rfl, ht5, i5, _, rfl, a, ys4, _, u4, rfl, rfl, ht4, i4, w', u4, d4, rfl, q4, fun H4 S4 => k H4 (((S1.trans S2).trans S3).trans S4)⟩
                  · have k' := k H3 ((S1.trans S2).trans S3)
                    rw [Bool.eq_false_iff.mpr e3, Bool.false_and] at k'
                    exact k'
              | _ => exact iteT (iteT (fin rfl))
            · rw [makeR_ne z] at k
              rw [decide_eq_false z]
              exact iteT (iteT (k H1 S1))
          · rw [if_neg c1] at k
            rw [decide_eq_false c1]
            refine iteF ⟨_, rfl, rfl, _, rfl, ?_⟩
            rw [dec_str]
            by_cases c2 : x = "move"
            · rw [if_pos c2] at k
              rw [decide_eq_true c2]
              refine iteT ⟨_, rfl, rfl, _, rfl, ?_⟩
              rw [List.length_cons, len_is (m := 3) (i := 4) rfl, hl]
              by_cases z : r.length = 3
              · rw [decide_eq_true z]
                obtain ⟨d1, d2, d3, rfl⟩ := list3 z
                have em : moveR [d1, d2, d3] = (thingD d1 && (thingD d2 && fromD 0 999 d3)) := rfl
                rw [em] at k
                obtain ⟨p1, ys, u1, e, ht, i1, q1⟩ := hD1.item (i := 1) rfl
                cases e
                refine iteT ⟨_, rfl, a, ys, _, u1, rfl, rfl, ht, i1, u1, d1, rfl, q1, fun H2 S2 => ⟨_, rfl, ?_⟩⟩
                have S := S1.trans S2
                refine ite2 (fun e1 => ?_) (fun e1 => ?_)
                · rw [e1, Bool.true_and] at k
                  obtain ⟨p2, ys2, u2, e, ht2, i2, q2⟩ := (hD.to S).item (i := 2) rfl
                  cases e
                  refine ⟨_, rfl, a, ys2, _, u2, rfl, rfl, ht2, i2, u2, d2, rfl, q2, fun H3 S3 => ⟨_, rfl, ?_⟩⟩
                  refine ite2 (fun e2 => ?_) (fun e2 => ?_)
                  · rw [e2, Bool.true_and] at k
                    obtain ⟨p3, ys3, u3, e, ht3, i3, q3⟩ := ((hD.to S).to S3).item (i := 3) rfl
                    cases e
                    exact ⟨_, rfl, a, ys3, _, u3, rfl, rfl, ht3, i3, u3, d3, _, _, rfl, q3, fun H4 S4 => k H4 ((S.trans S3).trans S4)⟩
                  · have k' := k H3 (S.trans S3)
                    rw [Bool.eq_false_iff.mpr e2, Bool.false_and] at k'
                    exact k'
                · have k' := k H2 S
                  rw [Bool.eq_false_iff.mpr e1, Bool.false_and] at k'
                  exact k'
              · rw [moveR_ne z] at k
                rw [decide_eq_false z]
                exact iteF (k H1 S1)
            · rw [if_neg c2] at k
              rw [decide_eq_false c2]
              refine iteF ⟨_, rfl, rfl, _, rfl, ?_⟩
              rw [dec_str]
              by_cases c3 : x = "drop"
              · rw [if_pos c3] at k
                rw [decide_eq_true c3]
                refine iteT ⟨_, rfl, rfl, _, rfl, ?_⟩
                rw [List.length_cons, len_is (m := 1) (i := 2) rfl, hl]
                by_cases z : r.length = 1
                · rw [decide_eq_true z]
                  obtain ⟨d1, rfl⟩ := list1 z
                  have em : dropR [d1] = thingD d1 := rfl
                  rw [em] at k
                  obtain ⟨p1, ys, u1, e, ht, i1, q1⟩ := hD1.item (i := 1) rfl
                  cases e
                  exact iteT ⟨_, rfl, a, ys, _, u1, rfl, rfl, ht, i1, u1, d1, rfl, q1, fun H2 S2 => k H2 (S1.trans S2)⟩
                · rw [dropR_ne z] at k
                  rw [decide_eq_false z]
                  exact iteF (k H1 S1)
              · rw [if_neg c3] at k
                rw [decide_eq_false c3]
                refine iteF ⟨_, rfl, by rw [sizeLine_eq]; decide, fun p' new' => ⟨p', _, rfl, .inl (SqL.of upd_same), rfl, rfl, _, rfl, ?_⟩⟩
                have S2 := K0.same_upd (o := .lst [.str "wish", .str "point", .str "set"]) new'
                generalize upd H1 p' (.lst [.str "wish", .str "point", .str "set"]) = H2 at S2 ⊢
                have S := S1.trans S2
                show if inV (.str x) _ = true then _ else _
                rw [in_three]
                have hD2 := hD.to S
                cases cw : (x == ("wish" : Str) || x == ("point" : Str) || x == ("set" : Str)) with
                | true =>
                  have nm : ¬ (x = "undo" ∨ x = "redo") := fun z => by
                    rcases z with z | z
                    · rw [z] at cw
                      revert cw
                      decide +kernel
                    · rw [z] at cw
                      revert cw
                      decide +kernel
                  rw [if_neg nm] at k
                  obtain ⟨kd, hval, hcon⟩ : ∃ kd : Str, valV (mergeK [] [((.inr "wish" : Key), V.str "let"), (.inr "point", .str "use"), (.inr "set", .str "number")]) (.inr x) = some (.str kd) ∧ ∀ c, contentD (.str kd) c = writeD (.str x) c := by
                    rw [Bool.or_eq_true, Bool.or_eq_true, beq_iff_eq, beq_iff_eq, beq_iff_eq] at cw
                    rcases cw with (z | z) | z
                    · subst z
                      exact ⟨"let", by decide +kernel, fun c => rfl⟩
                    · subst z
                      exact ⟨"use", by decide +kernel, fun c => rfl⟩
                    · subst z
                      exact ⟨"number", by decide +kernel, fun c => rfl⟩
                  refine iteT (fun pd nd => ⟨upd_same, [((.inr "wish" : Key), V.str "let"), (.inr "point", .str "use"), (.inr "set", .str "number")], rfl, by decide, ?_⟩)
                  refine ⟨_, rfl, pd, .str kd, rfl, .inl ⟨_, .inr x, .inl upd_same, rfl, hval.symm⟩, ?_⟩
                  have S3 : Same H2 (upd (upd H2 pd (.dK [])) pd (.dK (mergeK [] [((.inr "wish" : Key), V.str "let"), (.inr "point", .str "use"), (.inr "set", .str "number")]))) := fun b u hb => by
                    rw [upd_ne (ne_of_none hb nd), upd_ne (ne_of_none hb nd)]
                    exact hb
                  generalize upd (upd H2 pd (.dK [])) pd (.dK (mergeK [] [((.inr "wish" : Key), V.str "let"), (.inr "point", .str "use"), (.inr "set", .str "number")])) = H3 at S3 ⊢
                  have T3 := S.trans S3
                  have hD3 := hD.to T3
                  refine ⟨_, rfl, rfl, _, rfl, ?_⟩
                  rw [List.length_cons, len_is (m := 2) (i := 3) rfl, hl]
                  by_cases z : r.length = 2
                  · rw [decide_eq_true z]
                    obtain ⟨d1, d2, rfl⟩ := list2 z
                    have em : writeR x [d1, d2] = (thingD d1 && writeD (.str x) d2) := rfl
                    rw [em] at k
                    obtain ⟨p1, ys, u1, e, ht, i1, q1⟩ := hD3.item (i := 1) rfl
                    cases e
                    refine iteT ⟨_, rfl, a, ys, _, u1, rfl, rfl, ht, i1, u1, d1, rfl, q1, fun H4 S4 => ⟨_, rfl, ?_⟩⟩
                    refine ite2 (fun e1 => ?_) (fun e1 => ?_)
                    · rw [e1, Bool.true_and] at k
                      obtain ⟨p2, ys2, u2, e, ht2, i2, q2⟩ := (hD3.to S4).item (i := 2) rfl
                      cases e
                      exact ⟨_, rfl, _, rfl, a, ys2, _, u2, rfl, rfl, ht2, i2, kd, u2, d2, rfl, q2, fun H5 S5 => by
                        rw [hcon]
                        exact k H5 ((T3.trans S4).trans S5)⟩
                    · have k' := k H4 (T3.trans S4)
                      rw [Bool.eq_false_iff.mpr e1, Bool.false_and] at k'
                      exact k'
                  · rw [writeR_ne z] at k
                    rw [decide_eq_false z]
                    exact iteF (k H3 T3)
                | false =>
                  have hw : ∀ r', writeR x r' = false := fun r' => by
                    rw [Bool.or_eq_false_iff, Bool.or_eq_false_iff, beq_eq_false_iff_ne, beq_eq_false_iff_ne, beq_eq_false_iff_ne] at cw
                    have hc : ∀ c, writeD (.str x) c = false := fun c => by
                      show (if x = "wish" then nameD c else if x = "point" then binderD c else decide (x = "set") && fromD 0 99 c) = false
                      rw [if_neg cw.1.1, if_neg cw.1.2, decide_eq_false cw.2, Bool.false_and]
                    by_cases z : r'.length = 2
                    · obtain ⟨d1, d2, rfl⟩ := list2 z
                      show (thingD d1 && writeD (.str x) d2) = false
                      rw [hc, Bool.and_false]
                    · exact writeR_ne z
                  rw [hw] at k
                  refine iteF ⟨_, rfl, by rw [sizeLine_eq]; decide, fun p'' new'' => ⟨p'', _, rfl, .inl (SqL.of upd_same), rfl, rfl, _, rfl, ?_⟩⟩
                  have S3 := K0.same_upd (o := .lst [.str "undo", .str "redo"]) new''
                  generalize upd H2 p'' (.lst [.str "undo", .str "redo"]) = H3 at S3 ⊢
                  have T3 := S.trans S3
                  show if inV (.str x) _ = true then _ else _
                  rw [in_marks]
                  by_cases c4 : x = "undo" ∨ x = "redo"
                  · rw [if_pos c4] at k
                    rw [decide_eq_true c4]
                    refine iteT ⟨_, rfl, rfl, _, rfl, ?_⟩
                    rw [List.length_cons, len_is (m := 1) (i := 2) rfl, hl]
                    by_cases z : r.length = 1
                    · rw [decide_eq_true z]
                      obtain ⟨d1, rfl⟩ := list1 z
                      have em : markR [d1] = stampD d1 := rfl
                      rw [em] at k
                      obtain ⟨p1, ys, u1, e, ht, i1, q1⟩ := (hD.to T3).item (i := 1) rfl
                      cases e
                      exact iteT ⟨_, rfl, a, ys, _, u1, rfl, rfl, ht, i1, u1, d1, rfl, q1, fun H4 S4 => k H4 (T3.trans S4)⟩
                    · rw [markR_ne z] at k
                      rw [decide_eq_false z]
                      exact iteF (k H3 T3)
                  · rw [if_neg c4] at k
                    rw [decide_eq_false c4]
                    exact iteF (k H3 T3)
        | _ => exact iteT k1
    | _ =>
      refine iteT ?_
      refine iteT ?_
      exact k'
end
end K1
set_option maxHeartbeats 4000000
namespace K1
open PySem L2
/-- a comprehension over a tuple that stands still, with a test -/
theorem lc_filtT {K : PySem.W.Frag} {a : Addr} {xs : List V} {te : TE} {tt : TT} {j : Nat} {σ : St} {H1 : Hp} {D : Addr} {Qd : Hp → Prop} (kp : Nat → Bool) (nD : H1 D = none) (ha : SqT K H1 a xs) (hz : xs.length ≤ 1000) (hw : ∀ x, wipe ((wipe σ [j]).set j (some x)) [j] = wipe σ [j])
    (ht : ∀ (i : Nat) (x : V) (H' : Hp) (Q : Bool → Hp → Prop), xs[i]? = some x → Same H1 H' → (∀ H'', Same H' H'' → Q (kp i) H'') → tt ((wipe σ [j]).set j (some x)) H' Q)
    (he : ∀ (i : Nat) (x : V) (H' : Hp) (Q : VK), xs[i]? = some x → Same H1 H' → Q x H' → te ((wipe σ [j]).set j (some x)) H' Q)
    (hd : ∀ H' acc, Same H1 H' → H' D = some (.lst acc) → acc.isEmpty = ((List.range xs.length).all fun i => !kp i) → Qd H') :
    ∃ W : Nat → Nat → Hp → Prop, (∃ m, W 0 m (upd H1 D (.lst []))) ∧ ∀ i m H, W i m H →
      ((Itt K a).stop i H ∧ Qd H) ∨ ((Itt K a).go i H ∧ ∃ Nx : Hp → Prop, (∀ H', Nx H' → ∃ m', m' < m ∧ W (i + 1) m' H') ∧ ∀ x H', (Itt K a).yld i H x H' → (gName j) x (wipe σ [j]) H' fun σ2 H2 => wipe σ2 [j] = wipe σ [j] ∧ tt σ2 H2 fun b H3 =>
        if b = true then te σ2 H3 fun y H4 => ∃ acc, H4 D = some (.lst acc) ∧ acc.length < sizeLine ∧ Nx (upd H4 D (.lst (acc ++ [y]))) else Nx H3) := by
  refine lc_tup (K := K) (a := a) (xs := xs) (fun i H' => i ≤ xs.length ∧ Same H1 H' ∧ ∃ acc, H' D = some (.lst acc) ∧ acc.length ≤ i ∧ acc.isEmpty = ((List.range i).all fun i => !kp i)) ⟨Nat.zero_le _, K0.same_upd nD, [], upd_same, Nat.le_refl _, rfl⟩
    (fun i H' _ ⟨_, s, _⟩ => K0.seqT_same s ha) ?_ (fun H' ⟨_, s, acc, h, _, e⟩ => hd H' acc s h e)
  intro i x H' hi ⟨hle, s, acc, h, hl, he'⟩
  have hlt := (List.getElem?_eq_some_iff.mp hi).1
  refine ⟨hw x, ht i x _ _ hi s fun H'' s2 => ?_⟩
  cases e : kp i with
  | true =>
    refine iteT (he i x _ _ hi (s.trans s2) ⟨acc, s2 _ _ h, by rw [sizeLine_eq]; omega, hlt, K0.same_over (s.trans s2) nD, acc ++ [x], upd_same, by rw [List.length_append]; exact Nat.succ_le_succ hl, ?_⟩)
    rw [List.range_succ, List.all_append, List.all_cons, e]
    simp
  | false =>
    refine iteF ⟨hlt, s.trans s2, acc, s2 _ _ h, Nat.le_succ_of_le hl, ?_⟩
    rw [List.range_succ, List.all_append, List.all_cons, e, he']
    simp
section
variable {P : Program} {w : World} {K : PySem.W.Frag} {mg : Str → Option Value} {base : Heap}
theorem sc_adeed : FnScope [("_law_value" : Str), ("_law_one_here" : Str)] [("_law_value" : Str)] (defScope (top 70)) := ⟨rfl, rfl, rfl, by decide +kernel, rfl, by decide +kernel, by decide +kernel⟩

theorem cl_adeed (T : All K mg) : Cl P w K mg base 6 "_law_a_deed" ["_law_value"] (spD K deedD) := by
  obtain ⟨g, fd, D⟩ := T.dn 70 _ _ rfl
  refine D.cl (D.fn.ok sc_adeed (fun vs H Q E h => ?_) (fun cdv A outer s H vs Q E hr h => ?_))
  · obtain ⟨v, d, rfl, _⟩ := h
    rfl
  · obtain ⟨v, d, rfl, hd, k⟩ := h
    refine ⟨_, (pss_cons (ps_if (PW.pt (pw_or (pt_not (pt_val (pe_callB call_isiD (by rfl) T.bi.isi (by decide +kernel) (pa_cons (pv 0) (pa_cons (pe_bltn (v := .ty "tuple") (by rfl) T.bi.tuple (by decide +kernel) rfl) pa_nil))))) (pw_or (pt_cmpR op_ne (pe_callB call_len_seq (by rfl) T.bi.len PySem.boot_len (pa_cons (pv 0) pa_nil)) pe_int (nomark _)) (pw_or1 (pt_not (pt_val (pe_cl (cl_astamp T) hr (by decide) (pa_cons (pe_ix ix_tup (pv 0) pe_int (fun _ _ => rfl)) pa_nil)))))))) (pss_one (ps_ret pe_bl)) pss_nil)
      (pss_cons (ps_if (PW.pt (pw_or (pt_not (pt_val (pe_callB call_isiD (by rfl) T.bi.isi (by decide +kernel) (pa_cons (pe_ix ix_tup (pv 0) pe_int (fun _ _ => rfl)) (pa_cons (pe_bltn (v := .ty "tuple") (by rfl) T.bi.tuple (by decide +kernel) rfl) pa_nil))))) (pw_or1 (pt_cmpR op_ne (pe_callB call_len_seq (by rfl) T.bi.len PySem.boot_len (pa_cons (pe_ix ix_tup (pv 0) pe_int (fun _ _ => rfl)) pa_nil)) pe_int (nomark _))))) (pss_one (ps_ret pe_bl)) pss_nil)
      (pss_cons (ps_if (pt_cmpR (op_neE hr.units) (pe_lc (own := [("_law_one_here", 1)]) (g := gName 1) (tt := tNot (tB (tCall (spFrom K) [] E0 (tCons (tVar 1) (tCons (tC (.int 0)) (tCons (tOp (rI0 fun i j => .int (i - j)) (tOp (rIxT K) (tOp (rIxT K) (tVar 0) (tC (.int 0))) (tC (.int 0))) (tC (.int 1))) tNil)))))) rfl sc_adeed.nd (pi_tup (pe_ix ix_tup (pv 0) pe_int (fun _ _ => rfl))) (blkOk_by (own := [("_law_one_here", 1)]) (N := [("_law_value" : Str), ("_law_one_here" : Str)]) (sc := defScope (top 70)) (by decide +kernel)) (fun _ _ _ _ _ => pg_name (i := 1) sc_adeed.nd rfl (Or.inl rfl)) (fun _ _ _ _ _ => pts_one (pt_not (pt_val (pe_cl (cl_whole T) hr (by decide) (pa_cons (pv 1) (pa_cons pe_int (pa_cons (pe_op op_sub (pe_ix ix_tup (pe_ix ix_tup (pv 0) pe_int (fun _ _ => rfl)) pe_int (fun _ _ => rfl)) pe_int) pa_nil))))))) (fun _ _ _ _ _ => pv 1)) (pe_lst pa_nil) (nomark _)) (pss_one (ps_ret pe_bl)) pss_nil)
      (pss_one (ps_ret (pe_cl (cl_abody T) hr (by decide) (pa_cons (pe_ix ix_tup (pv 0) pe_int (fun _ _ => rfl)) pa_nil))))))), ?_⟩
    refine ⟨_, rfl, v, d, _, _, rfl, hd, kit_tup d, _, rfl, ?_⟩
    have k' := k H (Same.refl H)
    have hD := hd
    cases hd with
    | @tup a xs ds h1 h2 =>
      refine iteF ⟨_, rfl, a, _, rfl, .inr h1, rfl, _, rfl, ?_⟩
      rw [h2.len, ne_is (m := 3) (i := 3) rfl]
      by_cases z : ds.length = 3
      · obtain ⟨x, y, b, rfl⟩ := list3 z
        rw [deed_of] at k
        obtain ⟨p0, ys0, u0, e, ht0, i0, q0⟩ := hD.item (i := 0) rfl
        cases e
        refine iteF ⟨_, rfl, a, ys0, _, u0, rfl, rfl, ht0, i0, u0, x, rfl, q0, fun H1 S1 => ⟨_, rfl, ?_⟩⟩
        cases e1 : stampD x with
        | false =>
          have k' := k H1 S1
          rw [e1, Bool.false_and] at k'
          exact iteT k'
        | true =>
          rw [e1, Bool.true_and] at k
          obtain ⟨t, j, rfl, _⟩ := stamp_int e1
          have et : timeD (.tuple [.int t, .int j]) = t := rfl
          rw [et] at k
          obtain ⟨p1, ys1, u1, e, ht1, i1, q1⟩ := (hD.to S1).item (i := 1) rfl
          cases e
          refine iteF ⟨_, rfl, a, ys1, _, u1, rfl, rfl, ht1, i1, u1, y, _, _, rfl, q1, kit_tup y, _, rfl, ?_⟩
          have k1 := k H1 S1
          cases q1 with
          | @tup c cs es g1 g2 =>
            refine iteF ⟨_, rfl, a, ys1, _, _, rfl, rfl, ht1, i1, c, _, rfl, .inr g1, rfl, _, rfl, ?_⟩
            have ek : seenD t (.tuple es) = (decide (es.length = 4) && es.all (fromD 0 (t - 1))) := rfl
            rw [ek] at k k1
            rw [g2.len, ne_is (m := 4) (i := 4) rfl]
            by_cases z4 : es.length = 4
            · rw [decide_eq_true z4] at k ⊢
              rw [Bool.true_and] at k
              refine iteF ⟨_, rfl, a, ys1, _, _, rfl, rfl, ht1, i1, c, rfl, ⟨cs, g1⟩, fun Dd nD => ?_⟩
              refine lc_filtT (j := 1) (fun i => !ask (fromD 0 (t - 1)) es[i]?) nD g1 (by have := g2.len; omega) (fun _ => rfl) (fun i u H' Q' hu s' q => ?_) (fun i u H' Q' hu s' q => ⟨_, rfl, q⟩) (fun H' acc s' hDd hacc => ?_)
              · obtain ⟨d', e, hd'⟩ := g2.at hu
                rw [e] at q
                obtain ⟨p2, ys2, u2, e2, ht2, i2, q2⟩ := ((hD.to S1).to s').item (i := 0) rfl
                cases e2
                obtain ⟨p3, ys3, u3, e3, ht3, i3, q3⟩ := q2.item (i := 0) rfl
                cases q3
                exact ⟨_, rfl, _, rfl, a, ys2, _, u2, rfl, rfl, ht2, i2, p3, ys3, _, _, e3, rfl, ht3, i3, t, 1, rfl, rfl, u, d', 0, t - 1, rfl, hd'.to s', fun H'' s'' => ⟨_, rfl, q H'' s''⟩⟩
              · refine ⟨by rw [sizeLine_eq]; decide, fun pE nE => ⟨Dd, pE, acc, rfl, rfl, SqL.of ((upd_ne (ne_of_none hDd nE)).trans hDd), SqL.of upd_same, _, rfl, ?_⟩⟩
                have S2 : Same H1 (upd H' pE (.lst [])) := s'.trans (K0.same_upd nE)
                rw [hacc]
                have ea : ((List.range cs.length).all fun i => !!ask (fromD 0 (t - 1)) es[i]?) = es.all (fromD 0 (t - 1)) := by
                  have q := all_range (fromD 0 (t - 1)) es
                  rw [List.all_map] at q
                  rw [g2.len, ← q]
                  exact congrArg (List.all _) (funext fun i => Bool.not_not _)
                rw [ea]
                cases eall : es.all (fromD 0 (t - 1)) with
                | false =>
                  have k' := k _ (S1.trans S2)
                  rw [eall, Bool.false_and] at k'
                  exact iteT k'
                | true =>
                  rw [eall, Bool.true_and] at k
                  obtain ⟨p4, ys4, u4, e4, ht4, i4, q4⟩ := ((hD.to S1).to S2).item (i := 2) rfl
                  cases e4
                  exact iteF ⟨_, rfl, a, ys4, _, u4, rfl, rfl, ht4, i4, u4, b, rfl, q4, fun H5 S5 => k H5 ((S1.trans S2).trans S5)⟩
            · rw [decide_eq_false z4] at k1 ⊢
              rw [Bool.false_and, Bool.false_and] at k1
              exact iteT k1
          | _ =>
            have k2 : Q (.bl false) H1 := k1
            exact iteT (iteT k2)
      · rw [deed_not (d := .tuple ds) (decide_eq_false z)] at k'
        rw [decide_eq_false z]
        exact iteT (iteT k')
    | _ =>
      refine iteT ?_
      refine iteT ?_
      exact k'
end
end K1
set_option maxHeartbeats 4000000
namespace K1
open PySem L2 PySem.Spec PyProof.Rows
/-! ### a def that is called where nothing is being shown: repr of lists and tuples is told in it -/
structure FnG (P : Program) (w : World) (K : PySem.W.Frag) (mg : Str → Option Value) (base : Heap) (k : Nat) (f : Addr) (fd : FuncData) (ps : List Str) (sp : Sp) : Prop where
  len : ∀ vs H Q E, sp vs H Q E → vs.length = ps.length
  run : ∀ (A : Around) (outer : List Env) (s : Shared) (H : Hp) (args : Args) (us : List Value) (vs : List V) (Q : VK) (E : XK), A.guards = some [] → Room k A → Env0 P w K mg base A outer s H → BindsTo s fd args (ps.zip us) → Vals vs us → sp vs H Q E →
    codeAny (model P w) A (.call (.ref f) args) (CR CX0 outer P w H s Q E) s
section
variable {P : Program} {w : World} {K : PySem.W.Frag} {mg : Str → Option Value} {base : Heap}
theorem okG {x qual : Str} {st : Stmt} {f : Addr} {fd : FuncData} {N ps : List Str} {k : Nat} {sp : Sp} (F : Fun K x qual st f fd) (S : FnScope N ps (defScope st)) (len : ∀ vs H Q E, sp vs H Q E → vs.length = ps.length)
    (hbody : ∀ (cdv : Value) (A : Around) (outer : List Env) (s : Shared) (H : Hp) (vs : List V) (Q : VK) (E : XK), A.guards = some [] → Room k (A.deeper (envOfC qual (defScope st) s.heap.objs.size f cdv)) → sp vs H Q E →
      ∃ t, PSs (cxOf CX0 P w K mg base N qual (defScope st) f cdv A outer s H E).nox (defBody st) t ∧ t { nx := fun _ H' => Q .non H', rt := Q } (start N vs) H) : FnG P w K mg base (k + 1) f fd ps sp := by
  obtain ⟨oc, od, kV, doc, pm, an, cdv, ct, osl, rfl, lk, hcd⟩ := F.ex
  refine ⟨len, fun A outer s H args us vs Q E hg hr e0 hb r h => ?_⟩
  obtain ⟨t, ht, q⟩ := hbody cdv A outer s H vs Q E hg (hr.deeper _) h
  exact run_at lk hcd S (len _ _ _ _ h) hr e0 hb r ⟨t, ht.nox, q⟩
end
def ClG (P : Program) (w : World) (K : PySem.W.Frag) (mg : Str → Option Value) (base : Heap) (k : Nat) (x : Str) (ps : List Str) (sp : Sp) : Prop :=
  ∃ g fd, FnG P w K mg base k g fd ps sp ∧ mg x = some (.ref g) ∧ PySem.W.keepIn K (.ref g) = true ∧ Binds K fd ps []
theorem pe_clG {X : Cx} {k m : Nat} {x : Str} {ps : List Str} {sp : Sp} {e : Expr} {es : List Expr} {t : TA} {p pos : Pos} (C : ClG X.prog X.w X.K X.mg X.base k x ps sp) (hgd : X.A.guards = some []) (hr : Room m X.A) (hk : k ≤ m) (ha : PA X (e :: es) t) (hg : Gl X x := by rfl) (hdb : (x == ("__debug__" : Str)) = false := by decide)
    (he : starEach (e :: es) X.env = (false, eval e X.env) :: starEach es X.env := by rfl) (hpl : (backTo pos (starEach es X.env)).any (·.1) = false := by rfl) : PE X (.Call (.Name x p) (e :: es) [] pos) (tCall sp [] E0 t) := by
  obtain ⟨g, fd, F, hm, hk', hb⟩ := C
  refine ⟨fun pins s σ H Q I h => wpAny_Call_Name_kw (ld_glob I hg hm ?_ hdb)⟩
  refine PySem.W.callWith_K (h₀ := X.base) I.ok.mod.kin hk' (thn (ha.run pos pins s σ H _ I h) fun us s1 hh => ?_) he hpl
  obtain ⟨vs, H1, I1, r, q⟩ := hh
  rw [List.append_nil] at q
  have hl : us.length = ps.length := r.length.symm.trans (F.len _ _ _ _ q)
  have hb' := hb s1 us I1.kIn (by rw [List.append_nil]; exact hl)
  rw [List.append_nil] at hb'
  refine ⟨I1.kIn, wpAny_call (codeAny_mono (F.run X.A X.stack s1 H1 ⟨us, []⟩ us vs Q E0 hgd (hr.mono hk) I1.env0 hb' r q) fun o s' z => ?_)⟩
  cases o with
  | error e => exact (show False from z).elim
  | ok fl =>
    cases fl with
    | ret u => exact I1.after z
    | next => exact z.elim
    | brk => exact z.elim
    | cont => exact z.elim
end K1
set_option maxHeartbeats 4000000
namespace K1
open PySem L2 PySem.Spec PyProof.Rows
abbrev SuiteT := Addr → Value → Option Addr → TS
/-- the ends of a suite whose name, in slot i, is taken away behind it -/
def gone (i : Nat) (D : Ends) : Ends := { nx := fun σ H => D.nx (σ.set i none) H, rt := D.rt, bk := fun σ H => D.bk (σ.set i none) H, ct := fun σ H => D.ct (σ.set i none) H }
/-- what the clauses 'except x as n' wish, one behind the other: slot i is n's -/
def wEach (K : PySem.W.Frag) (i : Nat) (Wo : WX) (D : Ends) : List (Value × SuiteT) → WX
  | [] => Wo
  | (c, ts) :: r => fun cls d σ H => ∃ b, PySem.W.exmOne K cls c = some b ∧ (b = true → ∀ a, H a = none → ts a cls d (gone i D) (σ.set i (some (.ref a))) H) ∧ (b = false → wEach K i Wo D r cls d σ H)
inductive Clauses (X : Cx) (n : Str) : List ExceptHandler → List (Value × SuiteT) → Prop
  | nil : Clauses X n [] []
  | cons {x : Str} {c : Value} {ts : SuiteT} {st : Stmt} {sts : List Stmt} {np hp : Pos} {hds : List ExceptHandler} {l : List (Value × SuiteT)} (nm : Names X x c)
      (su : ∀ (a : Addr) (oe : Obj) (cls : Value) (d : Option Addr) (pn : List (Addr × Obj)), Zc cls d oe → (∃ vs, oe.data = .fields vs) → PSs (X.suite a ((a, oe) :: pn)) (st :: sts) (ts a cls d)) (r : Clauses X n hds l) :
      Clauses X n (.ExceptHandler (some (.Name x np)) (some n) (st :: sts) hp :: hds) ((c, ts) :: l)
section
variable {X : Cx} {n : Str} {i : Nat} {Wo : WX}
/-- an exception that has come to the clauses -/
theorem clauses_run {pins : List (Addr × Obj)} {σ : L2.St} {H : Hp} {D : Ends} {a : Addr} {B : Heap} {sI : Shared} {cls : Value} {d : Option Addr} (ok : X.Ok) (hs : X.stack = X.env :: X.outer) (hf : X.env.frame = some X.env.locals) (hN : X.N.Nodup) (hi : X.N[i]? = some n) (hln : X.env.kindOf n = some .local) (tk : Takes X Wo)
    (J : Inv X pins σ H sI) (nb : ∀ b o, sI.heap.get? b = some o → b ∉ frs X.stack → B.get? b = some o) (na : H a = none) :
    ∀ {hds : List ExceptHandler} {l : List (Value × SuiteT)}, Clauses X n hds l → ∀ {s : Shared}, HandSPX.FlyingZ B (X.env :: X.outer) a (Zc cls d) s.heap → sI.heap.UpToSlots s.heap → s.os = sI.os → AllBare s.gens → wEach X.K i Wo D l cls d σ H →
      wpAny (model X.prog X.w) X.A (handleBy (.ref a) X.env hds) (SP X pins D) X.xe s := by
  intro hds l C
  induction C with
  | nil =>
    intro s fl up os ag w
    refine wpAny_handleBy_nil ?_
    obtain ⟨_, _, _, oe, vs, T, oT, ts', he, hz, hd, h1, hr⟩ := id fl
    unfold PySem.passOn
    refine wpAny_bind (wpAny_field he hd h1 ?_)
    rw [if_neg (show ¬ ((Value.ref T == Value.none) = true) from by simp)]
    have away : wpAny (model X.prog X.w) X.A (setFlight (.ref a) X.env.frame) (fun _ s4 => wpAny (model X.prog X.w) X.A (throw (.ref a) : Sem Flow) (SP X pins D) X.xe s4) X.xe s := by
      rw [hf]
      exact HandSPX.setFlight_upZ fl fun h4 fl4 up4 => wpAny_throw (tk _ _ ⟨a, B, sI, pins, σ, H, cls, d, rfl, J, nb, up.trans up4, .inr (.inr (by rw [hs]; exact fl4)), na, os, ag, w⟩)
    first
      | exact wpAny_bind (wpAny_pure (wpAny_bind away))
      | exact wpAny_bind away
  | @cons x c ts st sts np hp hds2 l2 nm su _ ih =>
    intro s fl up os ag w
    obtain ⟨b, hb1, yes, no⟩ := w
    obtain ⟨oe, vs, he, hz, hd⟩ := fl.there
    have Jl : Inv X pins σ H s := J.landed nb fl.1 up os ag
    have notIn : ∀ {h : Heap} {o : Obj} {us : Array Value}, h.FunFrames B (X.env :: X.outer) → h.get? a = some o → o.data = .fields us → a ∉ frs (X.env :: X.outer) := fun ff e dd hm => by
      obtain ⟨_, o', e', z⟩ := ff.mem hm
      rw [e] at e'
      cases e'
      exact z _ dd
    have nfr := notIn fl.2.2.1 he hd
    have nL : a ≠ X.env.locals := fun z => nfr (List.mem_filterMap.mpr ⟨X.env, List.mem_cons_self, by rw [hf, z]⟩)
    have nF : a ∉ X.fs := fun hm => by
      obtain ⟨e, he', q⟩ := List.mem_filterMap.mp hm
      exact nfr (List.mem_filterMap.mpr ⟨e, List.mem_cons_of_mem _ he', q⟩)
    have S3 := Jl.suite he hd na nL nF
    have LT : PySem.W.Looks (model X.prog X.w) s.heap (typeOf (.ref a)) cls := fun A Q E s' k q => wpAny_typeOf_ref (k _ _ he) (by rw [hz.1]; exact q)
    have LM := PySem.W.exm_one (M := model X.prog X.w) Jl.kIn LT hb1
    refine wpAny_handleBy_cons (codeAny_handlers_test ?_) (by intro q; cases q)
    have look : ∀ {Q : Value → Shared → Prop} {E : Value → Shared → Prop}, Q c s → wpAny (model X.prog X.w) (X.A.mark (some (.ref a))) (eval (.Name x np) X.env) Q E s := fun q => by
      obtain ⟨hg, hdbg, hm | ⟨hm, hv, hnn⟩⟩ := nm
      · exact ld_glob (X := X.suite a ((a, oe) :: (X.pn ++ pins))) S3 hg hm q hdbg
      · exact ld_blt (X := X.suite a ((a, oe) :: (X.pn ++ pins))) S3 hg hm hv q hnn hdbg
    refine look (LM.here ?_)
    cases b with
    | false => exact ih fl up os ag (no rfl)
    | true =>
      refine codeAny_handlers_suite_as ?_
      refine HandSPX.lands_againZ fl fun h4 fl4 up4 => ?_
      have J4 : Inv X pins σ H { s with heap := h4 } := J.landed nb fl4.1 (up.trans up4) os ag
      obtain ⟨oe4, vs4, he4, hz4, hd4⟩ := fl4.there
      have S4 := J4.suite he4 hd4 na nL nF
      refine store_ok (X := X.suite a ((a, oe4) :: (X.pn ++ pins))) (v := .ref a) S4 hN hi (.inl hln) rfl (fun s5 S5 => ?_) (.inr hln)
      refine wpAny_mono ((su a oe4 cls d (X.pn ++ pins) hz4 ⟨_, hd4⟩).run [] s5 _ H _ S5 (yes rfl a na)) (fun f s6 z => ?_) fun _ _ z => False.elim z
      have last : ∀ {σ6 : L2.St} {H6 : Hp} {Q : Shared → Prop}, Inv (X.suite a ((a, oe4) :: (X.pn ++ pins))) [] σ6 H6 s6 → (∀ s7, Inv X pins (σ6.set i none) H6 s7 → Q s7) →
          wpAny (model X.prog X.w) X.A (do bindName X.env n .none; unbindBehindTheSuite X.env n hp) (fun _ s7 => Q s7) X.xe s6 := fun S6 q => gone_ok (S6.unsuite ok) hN hi hln q
      cases f with
      | next =>
        obtain ⟨σ6, H6, S6, q⟩ := z
        exact last S6 fun s7 J7 => ⟨_, _, J7, q⟩
      | brk =>
        obtain ⟨σ6, H6, S6, q⟩ := z
        exact last S6 fun s7 J7 => ⟨_, _, J7, q⟩
      | cont =>
        obtain ⟨σ6, H6, S6, q⟩ := z
        exact last S6 fun s7 J7 => ⟨_, _, J7, q⟩
      | ret u =>
        obtain ⟨v6, σ6, H6, S6, r6, q⟩ := z
        exact last S6 fun s7 J7 => ⟨_, _, _, J7, r6, q⟩
/-- try: body, then clauses that name the exception -/
theorem ps_try_each {body : List Stmt} {h₀ : ExceptHandler} {hds : List ExceptHandler} {l : List (Value × SuiteT)} {pos : Pos} {tb : WX → TS} (hs : X.stack = X.env :: X.outer) (hf : X.env.frame = some X.env.locals) (hN : X.N.Nodup) (hi : X.N[i]? = some n) (hln : X.env.kindOf n = some .local) (tk : Takes X Wo)
    (hb : ∀ (W : WX) (pn : List (Addr × Obj)) (xe : Value → Shared → Prop), Takes (X.tr pn xe) W → PassesOwn (model X.prog X.w) X.A X.env xe → PSs (X.tr pn xe) body (tb W)) (C : Clauses X n (h₀ :: hds) l) :
    PS X (.Try body (h₀ :: hds) [] [] pos) (fun D σ H => tb (wEach X.K i Wo D l) D σ H) := by
  refine ⟨fun pins s σ H D I h => ?_⟩
  have ok := I.ok
  refine wpAny_Try_except (wpAny_mono ((hb (wEach X.K i Wo D l) (X.pn ++ pins) (fun e s₁ => wpAny (model X.prog X.w) X.A (noteFrame e X.env) (fun _ s₂ => wpAny (model X.prog X.w) X.A (setFlight e none) (fun _ s₃ =>
    wpAny (model X.prog X.w) X.A (handleBy e X.env (h₀ :: hds)) (SP X pins D) X.xe s₃) X.xe s₂) X.xe s₁) (fun u s' xx => ?_) PassesOwn.looking).run [] s σ H D (I.toTry _) h) (fun f s1 z => ?_) (fun e s1 z => z))
  · obtain ⟨a, B, sI, pins', σ', H', cls, d, rfl, J', nb, up, sky, na, os, ag, w⟩ := xx
    refine Sky.land Zc.steady (by rw [ok.frames, hs]) hf (by rw [← hs]; exact sky) fun h3 fl3 up3 => ?_
    exact clauses_run ok hs hf hN hi hln tk (J'.ofTry ok) nb na C fl3 (up.trans up3) os ag w
  · cases f with
    | next =>
      obtain ⟨σ', H', J', q⟩ := z
      exact wpAny_execs_nil ⟨σ', H', J'.ofTry ok, q⟩
    | brk =>
      obtain ⟨σ', H', J', q⟩ := z
      exact ⟨σ', H', J'.ofTry ok, q⟩
    | cont =>
      obtain ⟨σ', H', J', q⟩ := z
      exact ⟨σ', H', J'.ofTry ok, q⟩
    | ret u =>
      obtain ⟨v, σ', H', J', r, q⟩ := z
      exact ⟨v, σ', H', J'.ofTry ok, r, q⟩
end
end K1
set_option maxHeartbeats 4000000
namespace K1
open PySem L2
mutual
def noList : PyData → Bool
  | .list _ => false
  | .tuple ds => noListAll ds
  | .dict ps => ps.isEmpty
  | _ => true
def noListAll : List PyData → Bool
  | [] => true
  | d :: ds => noList d && noListAll ds
end
section
variable {X : Cx} {pins : List (Addr × Obj)} {σ : St} {H : Hp} {s : Shared}
theorem dct_reads {a : Addr} (I : Inv X pins σ H s) (h : H a = some (.dK [])) : ∃ as, PySem.Reads s.heap (.ref a) (.dict []) as ∧ sysModules ∉ as := by
  have z : ObjOk X.prog X.w H s.heap a (.dK []) := I.hok a _ h
  obtain ⟨_, hs, vs, hkv, o, es, ep, ho, hx, hd, hk, hp, _⟩ := z
  cases hkv
  generalize hl : es.toList = el at hp
  cases hp
  have hr := PySem.Reads.dict (kvs := []) (as := []) (bs := []) ho hx.1 hd (by rw [hl]; exact .nil) (by rw [hl]; exact .nil)
  refine ⟨_, hr, fun hm => ?_⟩
  have hm2 : sysModules = a := by simpa using hm
  rw [hm2] at hs
  exact absurd hs (by simp)
mutual
theorem DQ.reads (I : Inv X pins σ H s) : ∀ (d : PyData) (v : V) (u : Value), DQ X.K H v d → RelV v u → ∃ as, PySem.Reads s.heap u d as ∧ (noList d = true → sysModules ∉ as)
  | .none, _, _, h, r => by
    cases h
    cases r
    exact ⟨_, .none, fun _ => List.not_mem_nil⟩
  | .bool b, _, _, h, r => by
    cases h
    cases r
    exact ⟨_, .bool b, fun _ => List.not_mem_nil⟩
  | .int i, _, _, h, r => by
    cases h
    obtain ⟨t, rfl⟩ := r
    exact ⟨_, .int i t, fun _ => List.not_mem_nil⟩
  | .str x, _, _, h, r => by
    cases h
    obtain ⟨t, rfl⟩ := r
    exact ⟨_, .str x t, fun _ => List.not_mem_nil⟩
  | .list ds, _, _, h, r => by
    cases h with
    | lst hs ha =>
      cases r
      obtain ⟨its, rv, ⟨o, n, ho, hc, _, hd⟩, _⟩ := I.list hs
      obtain ⟨as, hr, _⟩ := DQs.reads I ds _ its ha rv
      exact ⟨_, .list ho hc hd hr, fun z => Bool.noConfusion z⟩
  | .tuple ds, _, _, h, r => by
    cases h with
    | tup hs ha =>
      cases r
      obtain ⟨its, rv, ⟨o, ho, hc, n, hd⟩, _⟩ := I.tuple hs
      obtain ⟨as, hr, hn⟩ := DQs.reads I ds _ its ha rv
      exact ⟨_, .tuple ho hc hd hr, hn⟩
  | .dict [], _, _, h, r => by
    cases h with
    | dct h =>
      cases r
      obtain ⟨as, q, n⟩ := dct_reads I h
      exact ⟨as, q, fun _ => n⟩
  | .dict (_ :: _), _, _, h, _ => by cases h
theorem DQs.reads (I : Inv X pins σ H s) : ∀ (ds : List PyData) (vs : List V) (us : List Value), DQs X.K H vs ds → L2.Vals vs us → ∃ as, PySem.ReadsAll s.heap us ds as ∧ (noListAll ds = true → sysModules ∉ as)
  | [], _, _, h, r => by
    cases h
    cases r
    exact ⟨_, .nil, fun _ => List.not_mem_nil⟩
  | d :: ds, _, _, h, r => by
    cases h with
    | cons h1 h2 =>
      cases r with
      | cons r1 r2 =>
        obtain ⟨as, q1, n1⟩ := DQ.reads I d _ _ h1 r1
        obtain ⟨bs, q2, n2⟩ := DQs.reads I ds _ _ h2 r2
        refine ⟨_, .cons q1 q2, fun z => ?_⟩
        have z' : (noList d && noListAll ds) = true := z
        rw [Bool.and_eq_true] at z'
        rw [List.mem_append]
        exact fun hm => hm.elim (n1 z'.1) (n2 z'.2)
end
end
/-- repr of data -/
def rReprQ (K : PySem.W.Frag) : List V → Hp → VK → Prop := fun xs H Q => ∃ (v : V) (d : PyData), xs = [v] ∧ DQ K H v d ∧ (d.hasDict = true → noList d = true) ∧ d.showable = true ∧ d.depth ≤ 8 ∧ d.shown.length ≤ sizeLine ∧ Q (.str d.shown) H
theorem call_reprQ {X : Cx} (hg : X.A.guards = some []) (hu : X.A.units + 64 < cLine) : CallR X (.builtin "repr") (rReprQ X.K) := by
  intro pins s σ H xs us Q I r h
  obtain ⟨v, d, rfl, hD, hn, hsh, hdp, hsz, q⟩ := h
  obtain ⟨u, rfl, ru⟩ := vals1 r
  obtain ⟨as, hr, hsm⟩ := DQ.reads I d v u hD ru
  have hsm' : d.hasDict = true → sysModules ∉ as := fun z => hsm (hn z)
  cases hr with
  | none => exact PySem.P.repr_of_none ⟨.str _, H, I.tok _, ⟨_, rfl⟩, q⟩
  | bool b => exact PySem.P.repr_of_bool ⟨.str _, H, I.tok _, ⟨_, rfl⟩, q⟩
  | int i t => exact PySem.P.repr_of_int (of_decide_eq_true hsh) ⟨.str _, H, I.tok _, ⟨_, rfl⟩, q⟩
  | str x t => exact PySem.P.repr_of_str ⟨.str _, H, I.tok _, ⟨_, rfl⟩, q⟩ hsz
  | list a1 a2 a3 a4 => exact repr_of_reads' (PySem.Reads.list a1 a2 a3 a4) hsh hsm' hg (by omega) (fun _ _ e => e) (fun h' u tk hk => ⟨.str _, H, I.kept hk, ⟨_, rfl⟩, q⟩) hsz
  | tuple a1 a2 a3 a4 => exact repr_of_reads' (PySem.Reads.tuple a1 a2 a3 a4) hsh hsm' hg (by omega) (fun _ _ e => e) (fun h' u tk hk => ⟨.str _, H, I.kept hk, ⟨_, rfl⟩, q⟩) hsz
  | dict a1 a2 a3 a4 a5 => exact repr_of_reads' (PySem.Reads.dict a1 a2 a3 a4 a5) hsh hsm' hg (by omega) (fun _ _ e => e) (fun h' u tk hk => ⟨.str _, H, I.kept hk, ⟨_, rfl⟩, q⟩) hsz
end K1
set_option maxHeartbeats 4000000
namespace K1
open PySem L2
def cNs : List (Nat × Str) := [(0, ("TooMany" : Str)), (1, ("NoBook" : Str)), (2, ("NotClosed" : Str)), (3, ("Unseen" : Str)), (4, ("NoDeed" : Str)), (5, ("NoBody" : Str)), (6, ("NoStamp" : Str)), (7, ("NoStamps" : Str)), (8, ("NoHand" : Str)), (9, ("NoHands" : Str)), (10, ("NoMenu" : Str)), (11, ("NoPacket" : Str)), (12, ("NothingBack" : Str)), (13, ("NoBranches" : Str))]
/-- the classes that the law catches -/
structure Cau (K : PySem.W.Frag) (mg : Str → Option Value) (c : Nat → Addr) : Prop where
  mg : ∀ i x, cNs.lookup i = some x → mg x = some (.ref (c i))
  no : ∀ i j, (i = 4 ∨ i = 8) → j < i → PySem.W.exmOne K (.ref (c i)) (.ref (c j)) = some false
  yes : ∀ i, (i = 4 ∨ i = 8) → PySem.W.exmOne K (.ref (c i)) (.ref (c i)) = some true
  xf : ∀ i, (i = 4 ∨ i = 8) → XfC K (c i)
  noN : ∀ i, (i = 4 ∨ i = 8) → PySem.W.findIn K (.ref (c i)) "told" = some none
def lenT (n : Nat) (t : TS) : TS := fun D σ H => σ.length = n → t D σ H
theorem pss_len {X : Cx} {sts : List Stmt} {t : TS} {n : Nat} (h : PSs X sts t) (hn : X.N.length = n) : PSs X sts (lenT n t) := ⟨fun pins s σ H D I q => h.run pins s σ H D I (q (I.len.trans hn))⟩
/-- the suite of a clause: return [word, repr(e.told)] -/
def tsRepr (K : PySem.W.Frag) (C : Addr) (word : Str) : SuiteT := fun a cls d => lenT 2 (tRet (tLst (tCons (tC (.str word)) (tCons (tCB (rReprQ K) (tCons (tXf a cls d C "told" (tVar 1)) tNil)) tNil))))
def tsNo : SuiteT := fun _ _ _ => tNever
/-- data that repr tells -/
structure Shows (K : PySem.W.Frag) (H : Hp) (v : V) (d : PyData) : Prop where
  dq : DQ K H v d
  nl : d.hasDict = true → noList d = true
  sh : d.showable = true
  dp : d.depth ≤ 8
  sz : d.shown.length ≤ sizeLine
theorem Shows.to {K : PySem.W.Frag} {H H' : Hp} {v : V} {d : PyData} (h : Shows K H v d) (s : Same H H') : Shows K H' v d := ⟨h.dq.to s, h.nl, h.sh, h.dp, h.sz⟩
/-- what is wished of an error that comes to the clauses -/
def EcT (K : PySem.W.Frag) (c : Nat → Addr) (Q : VK) : XK := fun cls d H => ∃ (i : Nat) (word : Str) (dd : Addr) (v : V) (e : PyData), ((i = 4 ∧ word = "deed") ∨ (i = 8 ∧ word = "hand")) ∧ cls = .ref (c i) ∧ d = some dd ∧ H dd = some (.xd [("told", v)]) ∧ Shows K H v e ∧
  ∀ p, H p = none → Q (.ref p) (upd H p (.lst [.str word, .str e.shown]))
def TTc (K : PySem.W.Frag) (c : Nat → Addr) : (XK → Hp → VK → Prop) → Hp → VK → Prop := fun tl H Q => tl (EcT K c Q) H fun _ H' => Q .non H'
abbrev NC : List Str := ["_law_call", "e"]
theorem sc_caught : FnScope NC ["_law_call"] (defScope (top 63)) := ⟨rfl, rfl, rfl, by decide +kernel, rfl, by decide +kernel, by decide +kernel⟩
theorem caught_gives {X : Cx} {c : Nat → Addr} {g : Addr} {cdg : Value} {q : Str} (T : Cau X.K X.mg c) (hgd : X.A.guards = some []) (hu : X.A.units + 80 < cLine) (rep : X.mg "repr" = none) :
    LamX.GivesTo X NC "_law_caught" (defScope (top 63)) g cdg (defBody (top 63)) "_law_call" q (TTc X.K c) := by
  intro f c' s H Q tl act hc h
  have suite : ∀ (i : Nat) (word : Str), (i = 4 ∨ i = 8) → ∀ (a : Addr) (oe : Obj) (cls : Value) (d : Option Addr) (pn : List (Addr × Obj)), Zc cls d oe → (∃ vs, oe.data = .fields vs) → ∀ (j : Nat) (p1 p2 p3 p4 p5 p6 p7 : Pos),
      PSs ((cxOf C8.CX0 X.prog X.w X.K X.mg X.base NC "_law_caught" (defScope (top 63)) g cdg X.A X.stack s H C8.E0).nox.suite a ((a, oe) :: pn)) [.Return (some (.List [.Constant (.str word) j p1, .Call (.Name "repr" p2) [.Attribute (.Name "e" p3) "told" p4] [] p5] p6)) p7] (tsRepr X.K (c i) word a cls d) := by
    intro i word hi a oe cls d pn hz hf j p1 p2 p3 p4 p5 p6 p7
    refine pss_len (pss_one (ps_ret (pe_lst (pa_cons pe_str (pa_cons (pe_callB (call_reprQ hgd ?_) (by rfl) rep (by decide +kernel) (pa_cons (pe_xf (T.xf i hi) (T.noN i hi) hz hf (pv 1)) pa_nil)) pa_nil))))) rfl
    show X.A.units + 3 + 64 < cLine
    omega
  have take : ∀ (i : Nat) (word : Str) (a : Addr) (cls : Value) (d : Option Addr) (dd : Addr) (v : V) (e : PyData) (σ' : St) (H' : Hp) (D : Ends), D.rt = Q → cls = .ref (c i) → d = some dd → H' dd = some (.xd [("told", v)]) → Shows X.K H' v e →
      (∀ p, H' p = none → Q (.ref p) (upd H' p (.lst [.str word, .str e.shown]))) → tsRepr X.K (c i) word a cls d (gone 1 D) (σ'.set 1 (some (.ref a))) H' := by
    intro i word a cls d dd v e σ' H' D hD h1 h2 h3 h4 h5 hlen
    rw [List.length_set] at hlen
    have get : (σ'.set 1 (some (V.ref a)))[1]? = some (some (V.ref a)) := by
      rw [List.getElem?_set_self (by omega)]
    refine ⟨_, get, rfl, h1, dd, _, v, h2, h3, rfl, v, e, rfl, h4.dq, h4.nl, h4.sh, h4.dp, h4.sz, (by show 2 ≤ sizeLine; rw [sizeLine_eq]; decide), fun p new => ?_⟩
    show D.rt _ _
    rw [hD]
    exact h5 p new
  refine ⟨_, pss_cons (ps_try_each (X := (cxOf C8.CX0 X.prog X.w X.K X.mg X.base NC "_law_caught" (defScope (top 63)) g cdg X.A X.stack s H C8.E0).nox) (n := "e") (i := 1)
      (tb := fun W D σ H => ∃ Ech : XK, (∀ cls d σ' H', Ech cls d H' → W cls d σ' H') ∧ σ[0]? = some (some (.ref f)) ∧ H c' = some (LamX.CodeO c' q) ∧ tl Ech H fun _ H' => D.nx σ H')
      rfl rfl sc_caught.nd rfl rfl takes_none5 (fun W pn xe tk _ => ?_)
      (.cons (c := .ref (c 0)) (ts := tsNo) ⟨(by rfl), (by decide), .inl (T.mg 0 "TooMany" rfl)⟩ (fun _ _ _ _ _ _ _ => pss_never)
      (.cons (c := .ref (c 1)) (ts := tsNo) ⟨(by rfl), (by decide), .inl (T.mg 1 "NoBook" rfl)⟩ (fun _ _ _ _ _ _ _ => pss_never)
      (.cons (c := .ref (c 2)) (ts := tsNo) ⟨(by rfl), (by decide), .inl (T.mg 2 "NotClosed" rfl)⟩ (fun _ _ _ _ _ _ _ => pss_never)
      (.cons (c := .ref (c 3)) (ts := tsNo) ⟨(by rfl), (by decide), .inl (T.mg 3 "Unseen" rfl)⟩ (fun _ _ _ _ _ _ _ => pss_never)
      (.cons (c := .ref (c 4)) (ts := tsRepr X.K (c 4) "deed") ⟨(by rfl), (by decide), .inl (T.mg 4 "NoDeed" rfl)⟩ (fun a oe cls d pn hz hf => suite 4 "deed" (.inl rfl) a oe cls d pn hz hf _ _ _ _ _ _ _ _)
      (.cons (c := .ref (c 5)) (ts := tsNo) ⟨(by rfl), (by decide), .inl (T.mg 5 "NoBody" rfl)⟩ (fun _ _ _ _ _ _ _ => pss_never)
      (.cons (c := .ref (c 6)) (ts := tsNo) ⟨(by rfl), (by decide), .inl (T.mg 6 "NoStamp" rfl)⟩ (fun _ _ _ _ _ _ _ => pss_never)
      (.cons (c := .ref (c 7)) (ts := tsNo) ⟨(by rfl), (by decide), .inl (T.mg 7 "NoStamps" rfl)⟩ (fun _ _ _ _ _ _ _ => pss_never)
      (.cons (c := .ref (c 8)) (ts := tsRepr X.K (c 8) "hand") ⟨(by rfl), (by decide), .inl (T.mg 8 "NoHand" rfl)⟩ (fun a oe cls d pn hz hf => suite 8 "hand" (.inr rfl) a oe cls d pn hz hf _ _ _ _ _ _ _ _)
      (.cons (c := .ref (c 9)) (ts := tsNo) ⟨(by rfl), (by decide), .inl (T.mg 9 "NoHands" rfl)⟩ (fun _ _ _ _ _ _ _ => pss_never)
      (.cons (c := .ref (c 10)) (ts := tsNo) ⟨(by rfl), (by decide), .inl (T.mg 10 "NoMenu" rfl)⟩ (fun _ _ _ _ _ _ _ => pss_never)
      (.cons (c := .ref (c 11)) (ts := tsNo) ⟨(by rfl), (by decide), .inl (T.mg 11 "NoPacket" rfl)⟩ (fun _ _ _ _ _ _ _ => pss_never)
      (.cons (c := .ref (c 12)) (ts := tsNo) ⟨(by rfl), (by decide), .inl (T.mg 12 "NothingBack" rfl)⟩ (fun _ _ _ _ _ _ _ => pss_never)
      (.cons (c := .ref (c 13)) (ts := tsNo) ⟨(by rfl), (by decide), .inl (T.mg 13 "NoBranches" rfl)⟩ (fun _ _ _ _ _ _ _ => pss_never)
      .nil))))))))))))))) (pss_one (ps_ret pe_non)), ?_⟩
  · refine ⟨fun pins s' σ H' D I h' => ?_⟩
    obtain ⟨Ech, hW, h1, h2, h3⟩ := h'
    exact (pss_one (ps_expr (act W pn xe Ech _ _ tk hW))).run pins s' σ H' D I ⟨h1, h2, h3⟩
  · refine ⟨EcT X.K c Q, fun cls d σ' H' w => ?_, rfl, hc, h⟩
    obtain ⟨i, word, dd, v, e, hi, h1, h2, h3, h4, h5⟩ := w
    rcases hi with ⟨rfl, rfl⟩ | ⟨rfl, rfl⟩
    · subst h1
      exact ⟨false, T.no 4 0 (.inl rfl) (by decide), fun z => Bool.noConfusion z, fun _ => ⟨false, T.no 4 1 (.inl rfl) (by decide), fun z => Bool.noConfusion z, fun _ => ⟨false, T.no 4 2 (.inl rfl) (by decide), fun z => Bool.noConfusion z, fun _ => ⟨false, T.no 4 3 (.inl rfl) (by decide), fun z => Bool.noConfusion z, fun _ => ⟨true, T.yes 4 (.inl rfl), fun _ a na => take 4 "deed" a _ _ dd v e σ' H' _ rfl rfl h2 h3 h4 h5, fun z => Bool.noConfusion z⟩⟩⟩⟩⟩
    · subst h1
      exact ⟨false, T.no 8 0 (.inr rfl) (by decide), fun z => Bool.noConfusion z, fun _ => ⟨false, T.no 8 1 (.inr rfl) (by decide), fun z => Bool.noConfusion z, fun _ => ⟨false, T.no 8 2 (.inr rfl) (by decide), fun z => Bool.noConfusion z, fun _ => ⟨false, T.no 8 3 (.inr rfl) (by decide), fun z => Bool.noConfusion z, fun _ => ⟨false, T.no 8 4 (.inr rfl) (by decide), fun z => Bool.noConfusion z, fun _ => ⟨false, T.no 8 5 (.inr rfl) (by decide), fun z => Bool.noConfusion z, fun _ => ⟨false, T.no 8 6 (.inr rfl) (by decide), fun z => Bool.noConfusion z, fun _ => ⟨false, T.no 8 7 (.inr rfl) (by decide), fun z => Bool.noConfusion z, fun _ => ⟨true, T.yes 8 (.inr rfl), fun _ a na => take 8 "hand" a _ _ dd v e σ' H' _ rfl rfl h2 h3 h4 h5, fun z => Bool.noConfusion z⟩⟩⟩⟩⟩⟩⟩⟩⟩
end K1
set_option maxHeartbeats 4000000
namespace K1
open PySem L2 PySem.Spec PyProof.Rows
section
variable {X : Cx} {pins : List (Addr × Obj)} {σ : L2.St} {H : Hp} {s : Shared}
/-- what a set of tuples is when one more has come -/
def More (L L' : List (Addr × List Int)) (x : Addr) (k : List Int) : Prop := (k ∈ L.map (·.2) → L' = L) ∧ (k ∉ L.map (·.2) → L'.Perm ((x, k) :: L))
/-- D.add(a tuple of ints) -/
theorem addT_ok {E : Value → Shared → Prop} {Q : Value → Shared → Prop} {D x : Addr} {k : List Int} {L : List (Addr × List Int)} (I : Inv X pins σ H s) (hD : H D = some (SetTO X.prog X.w D L)) (hL : ∀ p ∈ L, SqT X.K H p.1 (p.2.map V.int)) (hx : SqT X.K H x (k.map V.int))
    (hu : X.A.units + 64 < cLine) (few : L.length + 1 < 64) (h : ∀ s' L', Inv X pins σ (upd H D (SetTO X.prog X.w D L')) s' → More L L' x k → Q .none s') : wpAny (model X.prog X.w) X.A (call (.builtin "set.add") [.ref D, .ref x]) Q E s := by
  have R0 : SetT0 X.prog X.w s.heap D L := (I.hok D _ hD).1
  obtain ⟨es, ep, t, R⟩ := R0.full fun p hp => I.isT (hL p hp)
  obtain ⟨o, ho, hex, hd⟩ := R.ob
  refine wpAny_call_entry F.slot_set_add ⟨o, ho, hex.1⟩ F.entry_set_add ?_ (F.args_set_add_2 _ _)
  unfold Builtin.«set.add» Builtin.Frozenset.oneOther
  simp only [List.isEmpty_nil, bind_assoc]
  unfold Builtin.Frozenset.addrOf setAdd
  refine wpAny_bind (wpAny_pure ?_)
  try dsimp only
  refine wpAny_bind (wpAny_pure ?_)
  try dsimp only
  refine wpAny_bind ?_
  refine wpAny_holding ?_
  refine wpAny_bind (wpAny_pyHash_tuple (by show X.A.units + 1 < cLine; omega) (I.isT hx) ?_)
  refine add_at (s := { s with toks := s.toks + (k.length + 1) }) R (I.isT hx) (by show X.A.units + 1 < cLine; omega) few fun b h' L' es' ep' t' sb R' c1 c2 => ?_
  show wpAny _ _ (ret Value.none) _ _ _
  have he : ∃ u, h'.get? D = some u := by
    obtain ⟨o', ho', _⟩ := R'.ob
    exact ⟨o', ho'⟩
  exact wpAny_pure ⟨_, rfl, h _ L' (I.write (e := D) (t' := s.toks + (k.length + 1)) (by rw [hD]; trivial) (.inl rfl) (fun b u hb hu => (sb.2 b hb).trans hu) he (setTO_new R'.t0)) ⟨c1, c2⟩⟩
end
end K1
set_option maxHeartbeats 4000000
namespace K1
open PySem L2 PySem.Spec PyProof.Rows
abbrev newSetO (w : World) : Obj := { cls := .type "set", dict := none, data := .set #[] 0 (.fresh 0 0 (!w.params.followText "set-order")) }
/-- what one turn of the comprehension asks: the item is a tuple of ints -/
def tAdd (K : PySem.W.Frag) (P : Program) (w : World) (D : Addr) (te : TE) (Nx : Hp → Prop) : L2.St → Hp → Prop := fun σ H => te σ H fun y H4 =>
  ∃ (x : Addr) (k : List Int) (L : List (Addr × List Int)), y = .ref x ∧ H4 D = some (SetTO P w D L) ∧ (∀ p ∈ L, SqT K H4 p.1 (p.2.map V.int)) ∧ SqT K H4 x (k.map V.int) ∧ L.length + 1 < 64 ∧ ∀ L', More L L' x k → Nx (upd H4 D (SetTO P w D L'))
/-- {e for t in xs if ..}, e a tuple of ints -/
def tScT (K : PySem.W.Frag) (P : Program) (w : World) (wi : TI) (g : TG) (tt : TT) (te : TE) (vs : List Nat) : TE := fun σ H Q => wi σ H fun J H1 => ∀ D, H1 D = none → ∃ W : Nat → Nat → Hp → Prop, (∃ m, W 0 m (upd H1 D (SetTO P w D []))) ∧ ∀ i m H, W i m H →
  (J.stop i H ∧ Q (.ref D) H) ∨ (J.go i H ∧ ∃ Nx : Hp → Prop, (∀ H', Nx H' → ∃ m', m' < m ∧ W (i + 1) m' H') ∧ ∀ x H', J.yld i H x H' → g x (wipe σ vs) H' fun σ2 H2 => wipe σ2 vs = wipe σ vs ∧ tt σ2 H2 fun b H3 => if b = true then tAdd K P w D te Nx σ2 H3 else Nx H3)
section
variable {X : Cx}
theorem pe_scT {elt tg iter : Expr} {ifs : List Expr} {scope : Scope} {own : List (PySem.Str × Nat)} {pos : Pos} {wi : TI} {g : TG} {tt : TT} {te : TE} (hc : X.calm = true) (hu : X.A.units + 64 < cLine) (hN : X.N.Nodup) (hi : PI X tg iter wi) (ok : BlkOk X.N X.env.scope scope own)
    (hg : ∀ (s : Shared) (H : Hp) (C : Addr) (cl : List (PySem.Str × Addr)) (fp : List Addr), PG (X.blk s H scope (compEnvC scope cl C X.env) fp) tg g) (ht : ∀ (s : Shared) (H : Hp) (C : Addr) (cl : List (PySem.Str × Addr)) (fp : List Addr), PTs (X.blk s H scope (compEnvC scope cl C X.env) fp) ifs tt)
    (he : ∀ (s : Shared) (H : Hp) (C : Addr) (cl : List (PySem.Str × Addr)) (fp : List Addr), PE (X.blk s H scope (compEnvC scope cl C X.env) fp) elt te) (hs : ∀ x, foldedSetIterable iter X.env x = pure x := by intro _; rfl) :
    PE X (.SetComp elt [⟨tg, iter, ifs, 0⟩] scope pos) (tScT X.K X.prog X.w wi g tt te (own.map (·.2))) := by
  refine ⟨fun pins s σ H Q I h => ?_⟩
  rw [PpSet.eval_SetComp]
  have cells : ∀ y ∈ scope.names, y.2 = .free → ∃ c, X.env.cells.lookup y.1 = some c := fun y hy e => (ok.free y hy e).elim (fun k => I.ok.has _ (.inl k)) fun k => I.ok.has _ (.inr k)
  refine wpAny_comprehension_free rfl hs (closure_ok cells) ok.kind (fun y hy e => by rw [ok.uniq y hy, e]) (thn (hi.run pins s σ H _ I h) fun xv s1 hx => thn hx fun itv s2 h2 => ?_)
  obtain ⟨it, fp, tn, J, H2, e, I2, T, st2, f2, q⟩ := h2
  subst e
  refine PpSet.newSet_ok (newEnv_comp ?_)
  -- D: the new set
  generalize hD : s2.heap.objs.size = D
  obtain ⟨W, ⟨m0, w0⟩, turn⟩ := q D (I2.hok.fresh (Nat.le_of_eq hD))
  obtain ⟨s3, hs3, h3⟩ : ∃ s3 : Shared, ({ s2 with heap := s2.heap.push (newSetO X.w) } : Shared) = s3 ∧ s3.heap = s2.heap.push (newSetO X.w) := ⟨_, rfl, rfl⟩
  have push : ∀ b o, s2.heap.get? b = some o → s3.heap.get? b = some o := fun b o e => by
    rw [h3]
    exact Heap.get?_push_of_some _ e
  have I3 : Inv X pins σ (upd H2 D (SetTO X.prog X.w D [])) s3 := by
    rw [← hs3]
    refine I2.laid (t' := s2.toks) (fun b o e => Heap.get?_push_of_some _ e) (Nat.le_of_eq hD) ?_
    rw [← hD]
    exact setTO_new (setTR_fresh (P := X.prog) (w := X.w) (Heap.get?_push_size _ rfl)).t0
  have small : ∀ b ∈ fp, b < s2.heap.objs.size := fun b hb => by
    obtain ⟨o, e, _⟩ := T.obj _ _ st2 b hb
    exact Heap.lt_size e
  have f3 : ∀ b ∈ fp, FpOk X pins (upd H2 D (SetTO X.prog X.w D [])) b ∧ b < s3.heap.objs.size := fun b hb => by
    have lt := small b hb
    have nD : b ≠ D := by
      rw [← hD]
      exact Nat.ne_of_lt lt
    exact ⟨⟨by rw [upd_ne nD]; exact (f2 b hb).1, (f2 b hb).2⟩, by rw [h3, Heap.size_push]; exact Nat.lt_succ_of_lt lt⟩
  have st3 : tn 0 s3.heap := T.keep _ _ _ st2 fun b _ o e => push b o e
  have I4 := block_start I3 ok hN f3
  generalize hcl : cellsFrom (s3.heap.objs.size + 1) scope.names (cloFrom X.env.cells scope.names []) = cl at I4
  have pg := hg s3 (upd H2 D (SetTO X.prog X.w D [])) s3.heap.objs.size cl fp
  have pt := ht s3 (upd H2 D (SetTO X.prog X.w D [])) s3.heap.objs.size cl fp
  have pe := he s3 (upd H2 D (SetTO X.prog X.w D [])) s3.heap.objs.size cl fp
  rw [hs3, hcl]
  have nfp : ∀ b ∈ fp, (upd H2 D (SetTO X.prog X.w D [])) b = none := fun b hb => (f3 b hb).1.1
  obtain ⟨ce, hce, cL⟩ : ∃ ce : Env, compEnvC scope cl s3.heap.objs.size X.env = ce ∧ ce.locals = s3.heap.objs.size := ⟨_, rfl, rfl⟩
  show codeAny _ _ (.compStart (.SetComp elt [⟨tg, iter, ifs, 0⟩] scope pos) 0 (.ref it) (.ref D) (compEnvC scope cl s3.heap.objs.size X.env)) (compPost (model X.prog X.w) X.A X.xe none (EP X pins σ Q) (.ref D) s3.heap.objs.size) { s3 with heap := pushCells (s3.heap.push { cls := .type "dict", data := .dict #[] }) scope.names }
  rw [hce] at I4 pg pt pe ⊢
  generalize upd H2 D (SetTO X.prog X.w D []) = H3 at I3 I4 pg pt pe w0 nfp f3
  obtain ⟨s4, hs4, h4⟩ : ∃ s4 : Shared, ({ s3 with heap := pushCells (s3.heap.push { cls := .type "dict", data := .dict #[] }) scope.names } : Shared) = s4 ∧ s4.heap = pushCells (s3.heap.push { cls := .type "dict", data := .dict #[] }) scope.names := ⟨_, rfl, rfl⟩
  rw [hs4] at I4 ⊢
  have st4 : tn 0 s4.heap := T.keep _ _ _ st3 fun b _ o e => by
    rw [h4]
    exact pushCells_keeps _ _ _ _ (Heap.get?_push_of_some _ e)
  have rest : ∀ {σ' : L2.St} {H' : Hp} {s' : Shared}, Inv (X.blk s3 H3 scope ce fp) [] σ' H' s' → (∀ b ∈ fp, H' b = none) → ∀ b ∈ fp, FpOk (X.blk s3 H3 scope ce fp) [] H' b := fun I' hn b hb =>
    ⟨hn b hb, (I'.ok.exf b hb).1, I'.ok.exfs b hb, .inl hb, fun x c e => (I'.ok.exf b hb).2 x c e, fun p hp => absurd (show p ∈ ([] : List (Addr × Obj)) ++ [] from hp) (by simp)⟩
  -- the block's turns
  have loop : codeAny (model X.prog X.w) X.A (.compLoop (.SetComp elt [⟨tg, iter, ifs, 0⟩] scope pos) 0 (.ref it) (.ref D) ce) (compPost (model X.prog X.w) X.A X.xe none (EP X pins σ Q) (.ref D) s3.heap.objs.size) s4 := by
    refine PpSet.compLoopS_any (fun n s' => ∃ i H', Inv (X.blk s3 H3 scope ce fp) [] (wipe σ (own.map (·.2))) H' s' ∧ tn i s'.heap ∧ (∀ b ∈ fp, H' b = none) ∧ W i n H') ?_ m0 ⟨0, H3, I4, st4, nfp, w0⟩
    rintro n s5 ⟨i, H5, I5, st5, n5, w5⟩
    rcases turn i n H5 w5 with ⟨stop, qq⟩ | ⟨go, Nx, next, step⟩
    · refine thnF (T.done (X.blk s3 H3 scope ce fp) rfl rfl rfl hc i [] s5 _ H5 (fun _ _ => False) I5 (rest I5 n5) st5 stop) fun r s6 ⟨hr, I6⟩ => ?_
      subst hr
      have I7 : Inv X pins σ H5 s6 := I3.call' (ch := fp) I6.os I6.base I6.hok I6.bare fun b hb => ⟨(f3 b hb).1.2.2.2.1, (f3 b hb).1.2.1, (f3 b hb).1.2.2.2.2.1, (f3 b hb).1.2.2.2.2.2⟩
      have nC : H5 s3.heap.objs.size = none := by
        rw [← cL]
        exact I6.free
      obtain ⟨m, hn, _⟩ := I6.loc
      have hn' : s6.heap.Ns s3.heap.objs.size m := by
        rw [← cL]
        exact hn
      obtain ⟨g0, g1, g2, g3, g4, g5⟩ := I3.fpOk (Nat.le_refl _) nC
      exact ⟨m, hn', fun h'' sb => ⟨.ref D, H5, I7.turned (t' := s6.toks) (fun b o hb e => (sb.2 b hb).trans e) g0 g1 g3 g4 g5, rfl, qq⟩⟩
    · refine thnF (T.item (X.blk s3 H3 scope ce fp) rfl rfl rfl hc i [] s5 _ H5 (fun _ _ => False) I5 (rest I5 n5) st5 go) fun r s6 ⟨u, hr, h6⟩ => ?_
      subst hr
      refine thnF h6 fun _ s7 ⟨x, H7, I7, r7, y7, st7, n7⟩ => ?_
      refine thnF (pg.run _ s7 _ H7 x u _ (I7.pinned (rest I7 n7) (T.obj _ _ st7)) r7 (step x H7 y7)) fun _ s8 ⟨σ8, H8, I8, hw8, q8⟩ => ?_
      refine thnF (pt.run _ s8 σ8 H8 _ I8 q8) fun b s9 ⟨H9, I9, q9⟩ => ?_
      have fin : ∀ {s' : Shared} {H' : Hp}, Inv (X.blk s3 H3 scope ce fp) ([] ++ pinsAt fp s7.heap) σ8 H' s' → Nx H' → ∃ m, m < n ∧ ∃ i H', Inv (X.blk s3 H3 scope ce fp) [] (wipe σ (own.map (·.2))) H' s' ∧ tn i s'.heap ∧ (∀ b ∈ fp, H' b = none) ∧ W i m H' := fun {s' H'} I' nx => by
        obtain ⟨m', hm, w'⟩ := next H' nx
        have pin : ∀ b ∈ fp, ∀ o, s7.heap.get? b = some o → s'.heap.get? b = some o ∧ H' b = none := fun b hb o e =>
          have z := I'.pin (b, o) (List.mem_append_right _ (List.mem_append_right _ (mem_pinsAt hb e)))
          ⟨z.1, z.2.1⟩
        refine ⟨m', hm, i + 1, H', (I'.unpinned (pins := [])).weak (by rw [← hw8, wipe_length]) (fun j v e => ?_), T.keep _ _ _ st7 fun b hb o e => (pin b hb o e).1, fun b hb => ?_, w'⟩
        · rw [← hw8] at e
          exact (wipe_some e).1
        · obtain ⟨o, e, _⟩ := T.obj _ _ st7 b hb
          exact (pin b hb o e).2
      cases b with
      | false =>
        simp only [Bool.false_eq_true, if_false] at q9 ⊢
        exact fin I9 q9
      | true =>
        simp only [if_true] at q9 ⊢
        refine thnF (pe.run _ s9 σ8 H9 _ I9 q9) fun z s10 ⟨yv, H10, I10, r10, x', k', L', ey, hD10, hL10, hx10, few, nx⟩ => ?_
        subst ey
        cases (show z = Value.ref x' from r10)
        exact addT_ok (X := X.blk s3 H3 scope ce fp) I10 hD10 hL10 hx10 hu few fun s11 L2' I11 mr => fin I11 (nx L2' mr)
  exact PpSet.codeAny_compStart_set loop (T.self X.A 0 _ _ _ st4 loop)
end
end K1
set_option maxHeartbeats 4000000
namespace K1
open PySem L2
def isUse : PyData → Bool
  | .str x => decide (x = "use")
  | _ => false
def namedM : List PyData → List PyData
  | [k, u, _, c] => if isUse k = true then [u, c] else [u]
  | _ => []
def namedO (x : Str) : List PyData → List PyData
  | a :: b :: _ => if x = "move" ∨ x = "point" then [a, b] else [a]
  | r => r
/-- the things that a right body names, None among them -/
def namedD (x : Str) (r : List PyData) : List PyData := if x = "make" then namedM r else namedO x r
def spNamed (K : PySem.W.Frag) : Sp := fun vs H Q _ => ∃ v x r, vs = [v] ∧ DQ K H v (.tuple (.str x :: r)) ∧ bodyR x r = true ∧ ∀ p us H', Same H H' → H p = none → H' p = some (.lst us) → DQs K H' us (namedD x r) → Q (.ref p) H'
theorem bodyR_ne {x : Str} {r : List PyData} (h : bodyR x r = true) (c1 : ¬ x = "make") : (r.length = 1 ∧ ¬ (x = "move" ∨ x = "point")) ∨ (r.length = 3 ∧ x = "move") ∨ r.length = 2 := by
  unfold bodyR at h
  rw [if_neg c1] at h
  by_cases c2 : x = "move"
  · rw [if_pos c2] at h
    by_cases z : r.length = 3
    · exact .inr (.inl ⟨z, c2⟩)
    · rw [moveR_ne z] at h
      cases h
  · rw [if_neg c2] at h
    by_cases c3 : x = "drop"
    · rw [if_pos c3] at h
      by_cases z : r.length = 1
      · refine .inl ⟨z, fun q => ?_⟩
        rcases q with q | q
        · exact c2 q
        · rw [c3] at q
          revert q
          decide +kernel
      · rw [dropR_ne z] at h
        cases h
    · rw [if_neg c3] at h
      by_cases c4 : x = "undo" ∨ x = "redo"
      · rw [if_pos c4] at h
        by_cases z : r.length = 1
        · refine .inl ⟨z, fun q => ?_⟩
          rcases q with q | q
          · exact c2 q
          · rw [q] at c4
            revert c4
            decide +kernel
        · rw [markR_ne z] at h
          cases h
      · rw [if_neg c4] at h
        by_cases z : r.length = 2
        · exact .inr (.inr z)
        · rw [writeR_ne z] at h
          cases h
section
variable {P : Program} {w : World} {K : PySem.W.Frag} {mg : Str → Option Value} {base : Heap}
theorem in_two (x : Str) : inV (.str x) [.str "move", .str "point"] = decide (x = "move" ∨ x = "point") := by
  have c : ∀ y : Str, eqV (.str y) (.str x) = decide (x = y) := fun y => by
    show (y == x) = _
    rw [Bool.eq_iff_iff, beq_iff_eq, decide_eq_true_eq]
    exact ⟨Eq.symm, Eq.symm⟩
  unfold inV
  rw [List.any_cons, List.any_cons, List.any_nil, c, c, Bool.or_false, Bool.decide_or]
theorem sc_named : FnScope ["body"] ["body"] (defScope (top 46)) := ⟨rfl, rfl, rfl, by decide +kernel, rfl, by decide +kernel, by decide +kernel⟩
theorem cl_named (T : All K mg) : Cl P w K mg base 1 "_named_things" ["body"] (spNamed K) := by
  obtain ⟨g, fd, D⟩ := T.dn 46 _ _ rfl
  refine D.cl (D.fn.ok sc_named (fun vs H Q E h => ?_) (fun cdv A outer s H vs Q E hr h => ?_))
  · obtain ⟨v, x, r, rfl, _⟩ := h
    rfl
  · obtain ⟨v, x, r, rfl, hd, hb, k⟩ := h
    refine ⟨_, (pss_cons (ps_if (pt_cmpR op_eq (pe_ix ix_tup (pv 0) pe_int (fun _ _ => rfl)) pe_str (nomark _)) (pss_one (ps_ret (pe_ifExp (pt_cmpR op_eq (pe_ix ix_tup (pv 0) pe_int (fun _ _ => rfl)) pe_str (nomark _)) (pe_lst (pa_cons (pe_ix ix_tup (pv 0) pe_int (fun _ _ => rfl)) (pa_cons (pe_ix ix_tup (pv 0) pe_int (fun _ _ => rfl)) pa_nil))) (pe_lst (pa_cons (pe_ix ix_tup (pv 0) pe_int (fun _ _ => rfl)) pa_nil))))) pss_nil)
      (pss_one (ps_ret (pe_ifExp (pt_cmpR op_in_seq (pe_ix ix_tup (pv 0) pe_int (fun _ _ => rfl)) (pe_tup (pa_cons pe_str (pa_cons pe_str pa_nil))) rfl) (pe_lst (pa_cons (pe_ix ix_tup (pv 0) pe_int (fun _ _ => rfl)) (pa_cons (pe_ix ix_tup (pv 0) pe_int (fun _ _ => rfl)) pa_nil))) (pe_lst (pa_cons (pe_ix ix_tup (pv 0) pe_int (fun _ _ => rfl)) pa_nil)))))), ?_⟩
    obtain ⟨a, ys0, u0, rfl, ht0, i0, q0⟩ := hd.item (i := 0) rfl
    cases q0
    refine ⟨_, rfl, a, ys0, _, _, rfl, rfl, ht0, i0, rfl, _, rfl, ?_⟩
    rw [dec_str]
    by_cases c1 : x = "make"
    · have kn : namedD x r = namedM r := by
        unfold namedD
        rw [if_pos c1]
      rw [kn] at k
      have hm : makeR r = true := by
        unfold bodyR at hb
        rw [if_pos c1] at hb
        exact hb
      have z : r.length = 4 := Classical.byContradiction fun z => by
        rw [makeR_ne z] at hm
        cases hm
      obtain ⟨d1, d2, d3, d4, rfl⟩ := list4 z
      rw [decide_eq_true c1]
      obtain ⟨p1, ys1, u1, e, ht1, i1, q1⟩ := hd.item (i := 1) rfl
      cases e
      obtain ⟨p2, ys2, u2, e, ht2, i2, q2⟩ := hd.item (i := 2) rfl
      cases e
      obtain ⟨p4, ys4, u4, e, ht4, i4, q4⟩ := hd.item (i := 4) rfl
      cases e
      have hk : ∃ y, d1 = .str y := by
        have em : makeR [d1, d2, d3, d4] = (thingD d2 && (fromD 0 999 d3 && contentD d1 d4)) := rfl
        rw [em, Bool.and_eq_true, Bool.and_eq_true] at hm
        have hc := hm.2.2
        cases d1 with
        | str y => exact ⟨y, rfl⟩
        | _ => cases hc
      obtain ⟨y, rfl⟩ := hk
      cases q1
      refine iteT ⟨_, rfl, a, ys1, _, _, rfl, rfl, ht1, i1, rfl, _, rfl, ?_⟩
      rw [dec_str]
      have kn2 : namedM [.str y, d2, d3, d4] = if decide (y = "use") = true then [d2, d4] else [d2] := rfl
      rw [kn2] at k
      by_cases c2 : y = "use"
      · rw [decide_eq_true c2] at k ⊢
        rw [if_pos rfl] at k
        refine iteT ⟨_, rfl, a, ys2, _, u2, rfl, rfl, ht2, i2, _, rfl, a, ys4, _, u4, rfl, rfl, ht4, i4, (by show 2 ≤ sizeLine; rw [sizeLine_eq]; decide), fun p new => ?_⟩
        have S := K0.same_upd (o := .lst [u2, u4]) new
        exact k p _ _ S new upd_same (.cons (q2.to S) (.cons (q4.to S) .nil))
      · rw [decide_eq_false c2] at k ⊢
        rw [if_neg Bool.false_ne_true] at k
        refine iteF ⟨_, rfl, a, ys2, _, u2, rfl, rfl, ht2, i2, (by show 1 ≤ sizeLine; rw [sizeLine_eq]; decide), fun p new => ?_⟩
        have S := K0.same_upd (o := .lst [u2]) new
        exact k p _ _ S new upd_same (.cons (q2.to S) .nil)
    · have kn : namedD x r = namedO x r := by
        unfold namedD
        rw [if_neg c1]
      rw [kn] at k
      rw [decide_eq_false c1]
      refine iteF ⟨_, rfl, a, ys0, _, _, rfl, rfl, ht0, i0, (by show 2 ≤ sizeLine; rw [sizeLine_eq]; decide), fun p new => ⟨p, _, rfl, .inr (.inl (.inl upd_same)), rfl, rfl, _, rfl, ?_⟩⟩
      have S1 := K0.same_upd (o := .tup [.str "move", .str "point"]) new
      show if inV (.str x) _ = true then _ else _
      rw [in_two]
      generalize upd H p (.tup [.str "move", .str "point"]) = H1 at S1 ⊢
      have hd1 := hd.to S1
      have nH : ∀ q, H1 q = none → H q = none := fun q hq => by
        cases e : H q with
        | none => rfl
        | some u =>
          rw [S1 q u e] at hq
          cases hq
      rcases bodyR_ne hb c1 with ⟨z, nm⟩ | ⟨z, mv⟩ | z
      · obtain ⟨d1, rfl⟩ := list1 z
        rw [decide_eq_false nm]
        obtain ⟨p1, ys1, u1, e, ht1, i1, q1⟩ := hd1.item (i := 1) rfl
        cases e
        refine iteF ⟨_, rfl, a, ys1, _, u1, rfl, rfl, ht1, i1, (by show 1 ≤ sizeLine; rw [sizeLine_eq]; decide), fun q new' => ?_⟩
        have S := K0.same_upd (o := .lst [u1]) new'
        exact k q _ _ (S1.trans S) (nH q new') upd_same (.cons (q1.to S) .nil)
      all_goals
        obtain ⟨d1, d2, r2, rfl⟩ : ∃ d1 d2 r2, r = d1 :: d2 :: r2 := by
          match r, z with
          | d1 :: d2 :: r2, _ => exact ⟨d1, d2, r2, rfl⟩
        have kn3 : namedO x (d1 :: d2 :: r2) = if x = "move" ∨ x = "point" then [d1, d2] else [d1] := rfl
        rw [kn3] at k
        obtain ⟨p1, ys1, u1, e, ht1, i1, q1⟩ := hd1.item (i := 1) rfl
        cases e
        obtain ⟨p2, ys2, u2, e, ht2, i2, q2⟩ := hd1.item (i := 2) rfl
        cases e
        by_cases c2 : x = "move" ∨ x = "point"
        · rw [if_pos c2] at k
          rw [decide_eq_true c2]
          refine iteT ⟨_, rfl, a, ys1, _, u1, rfl, rfl, ht1, i1, _, rfl, a, ys2, _, u2, rfl, rfl, ht2, i2, (by show 2 ≤ sizeLine; rw [sizeLine_eq]; decide), fun q new' => ?_⟩
          have S := K0.same_upd (o := .lst [u1, u2]) new'
          exact k q _ _ (S1.trans S) (nH q new') upd_same (.cons (q1.to S) (.cons (q2.to S) .nil))
        · rw [if_neg c2] at k
          rw [decide_eq_false c2]
          refine iteF ⟨_, rfl, a, ys1, _, u1, rfl, rfl, ht1, i1, (by show 1 ≤ sizeLine; rw [sizeLine_eq]; decide), fun q new' => ?_⟩
          have S := K0.same_upd (o := .lst [u1]) new'
          exact k q _ _ (S1.trans S) (nH q new') upd_same (.cons (q1.to S) .nil)
end
end K1
set_option maxHeartbeats 4000000
namespace K1
open PySem L2
theorem rising_unique {α : Type} (f : α → Int) : ∀ {l m : List α}, l.Pairwise (fun a b => f a < f b) → m.Pairwise (fun a b => f a < f b) → (∀ x, x ∈ l ↔ x ∈ m) → l = m
  | [], [], _, _, _ => rfl
  | [], b :: m, _, _, h => absurd ((h b).mpr List.mem_cons_self) List.not_mem_nil
  | a :: l, [], _, _, h => absurd ((h a).mp List.mem_cons_self) List.not_mem_nil
  | a :: l, b :: m, hl, hm, h => by
    rw [List.pairwise_cons] at hl hm
    have e : a = b := by
      rcases List.mem_cons.mp ((h a).mp List.mem_cons_self) with z | z
      · exact z
      · rcases List.mem_cons.mp ((h b).mpr List.mem_cons_self) with y | y
        · exact y.symm
        · have h1 := hm.1 a z
          have h2 := hl.1 b y
          omega
    subst e
    rw [rising_unique f hl.2 hm.2 fun x => ?_]
    constructor
    · intro hx
      rcases List.mem_cons.mp ((h x).mp (List.mem_cons_of_mem _ hx)) with z | z
      · have := hl.1 x hx
        rw [z] at this
        omega
      · exact z
    · intro hx
      rcases List.mem_cons.mp ((h x).mpr (List.mem_cons_of_mem _ hx)) with z | z
      · have := hm.1 x hx
        rw [z] at this
        omega
      · exact z
/-- the numbers of a thing that is no root -/
def keyOf : PyData → Option (List Int)
  | .tuple [.int a, .int b] => if a = 0 ∧ b = 0 then none else some [a, b]
  | _ => none
def keysOf (nm : List PyData) : List (List Int) := nm.filterMap keyOf
def pairD (k : List Int) : PyData := .tuple (k.map .int)
def lt1000 (j k : List Int) : Prop := TS.code 1000 j < TS.code 1000 k
theorem code2 (x y : Int) : TS.code 1000 [x, y] = x * 1000 + y := by
  have e1 : (1000 : Int) ^ 1 = 1000 := by decide
  have e0 : (1000 : Int) ^ 0 = 1 := by decide
  show x * 1000 ^ 1 + (y * 1000 ^ 0 + 0) = x * 1000 + y
  rw [e1, e0, Int.mul_one, Int.add_zero]
/-- a thing, None, or the root -/
theorem thing_int {d : PyData} (h : thingD d = true) : ∃ a b : Int, d = .tuple [.int a, .int b] ∧ (0 ≤ a ∧ a < 1000) ∧ 0 ≤ b ∧ b < 1000 := by
  unfold thingD at h
  rw [Bool.or_eq_true] at h
  rcases h with h | h
  · obtain ⟨t, j, rfl, h1, h2⟩ := stamp_int h
    exact ⟨t, j, rfl, by omega, by omega⟩
  · cases e : tupD 2 d with
    | false =>
      rw [(not_stamp e).2] at h
      cases h
    | true =>
      obtain ⟨a, b, rfl⟩ := tup2 e
      rw [root_of, Bool.and_eq_true] at h
      obtain ⟨t, rfl, h1⟩ := from_int h.1
      obtain ⟨j, rfl, h2⟩ := from_int h.2
      exact ⟨t, j, rfl, by omega, by omega⟩
def noneOrPair (d : PyData) : Prop := d = .none ∨ ∃ a b : Int, d = .tuple [.int a, .int b] ∧ (0 ≤ a ∧ a < 1000) ∧ 0 ≤ b ∧ b < 1000
theorem binder_pair {d : PyData} (h : binderD d = true) : noneOrPair d := by
  cases e : noneD d with
  | true =>
    cases d with
    | none => exact .inl rfl
    | _ => cases e
  | false =>
    rw [binder_some e] at h
    exact .inr (thing_int h)
theorem thing_pair {d : PyData} (h : thingD d = true) : noneOrPair d := .inr (thing_int h)
theorem named_pairs {x : Str} {r : List PyData} (h : bodyR x r = true) : ∀ d ∈ namedD x r, noneOrPair d := by
  intro d hd
  unfold namedD at hd
  by_cases c1 : x = "make"
  · rw [if_pos c1] at hd
    unfold bodyR at h
    rw [if_pos c1] at h
    have z : r.length = 4 := Classical.byContradiction fun z => by
      rw [makeR_ne z] at h
      cases h
    obtain ⟨d1, d2, d3, d4, rfl⟩ := list4 z
    have em : makeR [d1, d2, d3, d4] = (thingD d2 && (fromD 0 999 d3 && contentD d1 d4)) := rfl
    rw [em, Bool.and_eq_true, Bool.and_eq_true] at h
    have kn2 : namedM [d1, d2, d3, d4] = if isUse d1 = true then [d2, d4] else [d2] := rfl
    rw [kn2] at hd
    cases e : isUse d1 with
    | false =>
      rw [e, if_neg Bool.false_ne_true, List.mem_singleton] at hd
      rw [hd]
      exact thing_pair h.1
    | true =>
      rw [e, if_pos rfl] at hd
      rcases List.mem_cons.mp hd with z | z
      · rw [z]
        exact thing_pair h.1
      · rw [List.mem_singleton.mp z]
        cases d1 with
        | str y =>
          have ey : y = "use" := of_decide_eq_true e
          have hc := h.2.2
          subst ey
          exact binder_pair hc
        | _ => cases e
  · rw [if_neg c1] at hd
    unfold bodyR at h
    rw [if_neg c1] at h
    by_cases c2 : x = "move"
    · rw [if_pos c2] at h
      have z : r.length = 3 := Classical.byContradiction fun z => by
        rw [moveR_ne z] at h
        cases h
      obtain ⟨d1, d2, d3, rfl⟩ := list3 z
      have em : moveR [d1, d2, d3] = (thingD d1 && (thingD d2 && fromD 0 999 d3)) := rfl
      rw [em, Bool.and_eq_true, Bool.and_eq_true] at h
      have kn : namedO x [d1, d2, d3] = if x = "move" ∨ x = "point" then [d1, d2] else [d1] := rfl
      rw [kn, if_pos (.inl c2)] at hd
      rcases List.mem_cons.mp hd with z | z
      · rw [z]
        exact thing_pair h.1
      · rw [List.mem_singleton.mp z]
        exact thing_pair h.2.1
    · rw [if_neg c2] at h
      by_cases c3 : x = "drop"
      · rw [if_pos c3] at h
        have z : r.length = 1 := Classical.byContradiction fun z => by
          rw [dropR_ne z] at h
          cases h
        obtain ⟨d1, rfl⟩ := list1 z
        rw [List.mem_singleton.mp hd]
        exact thing_pair h
      · rw [if_neg c3] at h
        by_cases c4 : x = "undo" ∨ x = "redo"
        · rw [if_pos c4] at h
          have z : r.length = 1 := Classical.byContradiction fun z => by
            rw [markR_ne z] at h
            cases h
          obtain ⟨d1, rfl⟩ := list1 z
          rw [List.mem_singleton.mp hd]
          have hs : stampD d1 = true := h
          refine thing_pair ?_
          unfold thingD
          rw [hs, Bool.true_or]
        · rw [if_neg c4] at h
          have z : r.length = 2 := Classical.byContradiction fun z => by
            rw [writeR_ne z] at h
            cases h
          obtain ⟨d1, d2, rfl⟩ := list2 z
          have em : writeR x [d1, d2] = (thingD d1 && writeD (.str x) d2) := rfl
          rw [em, Bool.and_eq_true] at h
          have kn : namedO x [d1, d2] = if x = "move" ∨ x = "point" then [d1, d2] else [d1] := rfl
          rw [kn] at hd
          by_cases c5 : x = "move" ∨ x = "point"
          · rw [if_pos c5] at hd
            rcases List.mem_cons.mp hd with z | z
            · rw [z]
              exact thing_pair h.1
            · rw [List.mem_singleton.mp z]
              have hp : x = "point" := c5.resolve_left c2
              have hw := h.2
              rw [hp] at hw
              exact binder_pair hw
          · rw [if_neg c5, List.mem_singleton] at hd
            rw [hd]
            exact thing_pair h.1
end K1
set_option maxHeartbeats 4000000
namespace K1
open PySem L2
/-- over a list that stands still -/
theorem sc_listT {K : PySem.W.Frag} {P : Program} {w : World} {a : Addr} {xs : List V} {g : TG} {tt : TT} {te : TE} {vs : List Nat} {σ : St} {H1 : Hp} {D : Addr} {Qd : Hp → Prop} (Pv : Nat → Hp → Prop) (h0 : Pv 0 (upd H1 D (SetTO P w D []))) (hl : ∀ i H, i ≤ xs.length → Pv i H → SqL K H a xs)
    (hs : ∀ i x H, xs[i]? = some x → Pv i H → g x (wipe σ vs) H fun σ2 H2 => wipe σ2 vs = wipe σ vs ∧ tt σ2 H2 fun b H3 => if b = true then tAdd K P w D te (Pv (i + 1)) σ2 H3 else Pv (i + 1) H3) (hd : ∀ H, Pv xs.length H → Qd H) :
    ∃ W : Nat → Nat → Hp → Prop, (∃ m, W 0 m (upd H1 D (SetTO P w D []))) ∧ ∀ i m H, W i m H →
      ((Itl K a).stop i H ∧ Qd H) ∨ ((Itl K a).go i H ∧ ∃ Nx : Hp → Prop, (∀ H', Nx H' → ∃ m', m' < m ∧ W (i + 1) m' H') ∧ ∀ x H', (Itl K a).yld i H x H' → g x (wipe σ vs) H' fun σ2 H2 => wipe σ2 vs = wipe σ vs ∧ tt σ2 H2 fun b H3 => if b = true then tAdd K P w D te Nx σ2 H3 else Nx H3) := by
  refine ⟨fun i m H => m = xs.length - i ∧ i ≤ xs.length ∧ Pv i H, ⟨_, rfl, Nat.zero_le _, h0⟩, ?_⟩
  rintro i m H ⟨rfl, hi, p⟩
  have q := hl i H hi p
  by_cases lt : i < xs.length
  · refine .inr ⟨⟨xs, xs[i], q, by simp [lt]⟩, Pv (i + 1), fun H' p' => ⟨_, by omega, rfl, lt, p'⟩, fun x H' ⟨e, y⟩ => ?_⟩
    subst e
    exact hs i x _ (y xs q) p
  · obtain rfl : i = xs.length := by omega
    exact .inl ⟨⟨xs, q, Nat.le_refl _⟩, hd H p⟩
def spKeys (K : PySem.W.Frag) : Sp := fun vs H Q _ => ∃ v x r, vs = [v] ∧ DQ K H v (.tuple (.str x :: r)) ∧ bodyR x r = true ∧
  ∀ p us (ks : List (List Int)) H', Same H H' → H' p = some (.lst us) → DQs K H' us (ks.map pairD) → ks.Pairwise lt1000 → (∀ k, k ∈ ks ↔ k ∈ keysOf (namedD x r)) → Q (.ref p) H'
theorem key_pair {d : PyData} {k : List Int} (hd : noneOrPair d) (h : keyOf d = some k) : ∃ a b, d = .tuple [.int a, .int b] ∧ k = [a, b] ∧ (0 ≤ a ∧ a < 1000) ∧ (0 ≤ b ∧ b < 1000) ∧ ¬ (a = 0 ∧ b = 0) := by
  rcases hd with rfl | ⟨a, b, rfl, h1, h2⟩
  · cases h
  · have z : (if a = 0 ∧ b = 0 then none else some [a, b]) = some k := h
    by_cases c : a = 0 ∧ b = 0
    · rw [if_pos c] at z
      cases z
    · rw [if_neg c] at z
      exact ⟨a, b, rfl, (Option.some.inj z).symm, h1, h2, c⟩
theorem eqv_root (a b : Int) : PyData.eqv (.tuple [.int a, .int b]) (.tuple [.int 0, .int 0]) = decide (a = 0 ∧ b = 0) := by
  rw [Bool.eq_iff_iff]
  simp [PyData.eqv, PyData.eqvAll]
theorem shaped_pair (a b : Int) : SeqAt.shaped (.tuple [.int a, .int b]) = true := by
  simp [SeqAt.shaped, PyData.canLay0, PyData.canLayAll0, PyData.depth, PyData.depthAll]
section
variable {P : Program} {w : World} {K : PySem.W.Frag} {mg : Str → Option Value} {base : Heap}
theorem DQ.pair {H : Hp} {v : V} {a b : Int} (h : DQ K H v (.tuple [.int a, .int b])) : ∃ q, v = .ref q ∧ SqT K H q [.int a, .int b] := by
  cases h with
  | tup h1 h2 =>
    cases h2 with
    | cons q1 h2 =>
      cases q1
      cases h2 with
      | cons q2 h2 =>
        cases q2
        cases h2
        exact ⟨_, rfl, h1⟩
theorem sc_names : FnScope ["body", "thing"] ["body"] (defScope (top 38)) := ⟨rfl, rfl, rfl, by decide +kernel, rfl, by decide +kernel, by decide +kernel⟩
theorem cl_names (T : All K mg) {aR : Addr} (mR : mg "ROOT" = some (.ref aR)) (tR : ∀ H, SqT K H aR [.int 0, .int 0]) (hsort : mg "sorted" = none) : Cl P w K mg base 2 "names_in" ["body"] (spKeys K) := by
  obtain ⟨g, fd, D⟩ := T.dn 38 _ _ rfl
  refine D.cl (D.fn.ok sc_names (fun vs H Q E h => ?_) (fun cdv A outer s H vs Q E hr h => ?_))
  · obtain ⟨v, x, r, rfl, _⟩ := h
    rfl
  · obtain ⟨v, x, r, rfl, hd, hb, k⟩ := h
    refine ⟨_, (pss_one (ps_ret (pe_callB (cr_sortedT rfl) (by rfl) hsort (by decide +kernel) (pa_cons (pe_scT (own := [("thing", 1)]) (g := gName 1) (tt := tAnd (tTest (tOp rNotN (tVar 1) (tC .non))) (tTest (tOp (rNeD K) (tVar 1) (tC (.ref aR))))) rfl hr.units sc_names.nd (pi_list (pe_cl (cl_named T) hr (by decide) (pa_cons (pv 0) pa_nil))) (blkOk_by (own := [("thing", 1)]) (N := [("body" : Str), ("thing" : Str)]) (sc := defScope (top 38)) (by decide +kernel)) (fun _ _ _ _ _ => pg_name (i := 1) sc_names.nd rfl (Or.inl rfl)) (fun _ _ _ _ _ => pts_one (PW.pt (pw_and (pt_cmpR op_notN1 (pv 1) pe_non (nomark _)) (pw_and1 (pt_cmpR (op_neD hr.units) (pv 1) (pe_glob (v := .ref aR) rfl mR rfl) (nomark _)))))) (fun _ _ _ _ _ => pv 1)) pa_nil)))), ?_⟩
    refine ⟨_, rfl, v, x, r, rfl, hd, hb, fun p us H1 S1 np hp hq => ⟨p, rfl, ⟨us, SqL.of hp⟩, fun Dd nD => ?_⟩⟩
    have hpairs := named_pairs hb
    have lenu := hq.len
    have few : us.length ≤ 2 := by
      rw [lenu]
      unfold namedD
      by_cases c1 : x = "make"
      · rw [if_pos c1]
        unfold namedM
        split
        · split <;> simp
        · simp
      · rw [if_neg c1]
        rcases bodyR_ne hb c1 with ⟨z, _⟩ | ⟨z, mv⟩ | z
        · obtain ⟨d1, rfl⟩ := list1 z
          show 1 ≤ 2
          omega
        all_goals
          obtain ⟨d1, d2, r2, rfl⟩ : ∃ d1 d2 r2, r = d1 :: d2 :: r2 := by
            match r, z with
            | d1 :: d2 :: r2, _ => exact ⟨d1, d2, r2, rfl⟩
          show (if x = "move" ∨ x = "point" then [d1, d2] else [d1]).length ≤ 2
          split <;> simp
    generalize hnm : namedD x r = nm at hq hpairs lenu k
    refine sc_listT (K := K) (a := p) (xs := us) (fun i H' => Same H1 H' ∧ ∃ L, H' Dd = some (SetTO P w Dd L) ∧ L.length ≤ i ∧ (∀ q ∈ L, SqT K H1 q.1 (q.2.map V.int)) ∧ ∀ k, k ∈ L.map (·.2) ↔ k ∈ keysOf (nm.take i))
      ⟨K0.same_upd nD, [], upd_same, Nat.le_refl _, fun q hq => absurd hq List.not_mem_nil, fun k => by simp [keysOf]⟩ (fun i H' _ ⟨S, _⟩ => S.seq (SqL.of hp)) ?_ ?_
    · rintro i u H' hu ⟨S, L, hL, hlen, hsq, hmem⟩
      refine ⟨rfl, ?_⟩
      obtain ⟨d, hnd, hdq⟩ := hq.at hu
      have hi := (List.getElem?_eq_some_iff.mp hu).1
      have hdp := hpairs d (List.mem_of_getElem? hnd)
      have tk : nm.take (i + 1) = nm.take i ++ [d] := by
        rw [List.take_succ, hnd]
        rfl
      have same : keyOf d = none → Same H1 H' ∧ ∃ L, H' Dd = some (SetTO P w Dd L) ∧ L.length ≤ i + 1 ∧ (∀ q ∈ L, SqT K H1 q.1 (q.2.map V.int)) ∧ ∀ k, k ∈ L.map (·.2) ↔ k ∈ keysOf (nm.take (i + 1)) := fun hn => by
        refine ⟨S, L, hL, Nat.le_succ_of_le hlen, hsq, fun k => ?_⟩
        rw [hmem k, tk]
        unfold keysOf
        rw [List.filterMap_append, List.filterMap_cons_none hn, List.filterMap_nil, List.append_nil]
      rcases hdp with rfl | ⟨a, b, rfl, ha, hbb⟩
      · cases hdq
        exact ⟨_, rfl, rfl, _, rfl, iteF (iteF (same rfl))⟩
      · obtain ⟨q, rfl, hsqt⟩ := hdq.pair
        refine ⟨_, rfl, rfl, _, rfl, iteT ⟨_, rfl, .tuple [.int a, .int b], .tuple [.int 0, .int 0], .tup (K0.seqT_same S hsqt) (.cons (.int a) (.cons (.int b) .nil)), .tup (tR _) (.cons (.int 0) (.cons (.int 0) .nil)), shaped_pair a b, shaped_pair 0 0, _, rfl, ?_⟩⟩
        rw [eqv_root]
        by_cases c : a = 0 ∧ b = 0
        · rw [decide_eq_true c]
          exact iteF (same (by show (if a = 0 ∧ b = 0 then none else some [a, b]) = none; rw [if_pos c]))
        · rw [decide_eq_false c]
          have hk : keyOf (.tuple [.int a, .int b]) = some [a, b] := by
            show (if a = 0 ∧ b = 0 then none else some [a, b]) = some [a, b]
            rw [if_neg c]
          refine iteT ⟨_, rfl, q, [a, b], L, rfl, hL, fun q' hq' => K0.seqT_same S (hsq q' hq'), K0.seqT_same S hsqt, by omega, fun L' mr => ?_⟩
          refine ⟨K0.same_over S nD, L', upd_same, ?_, fun q' hq' => ?_, fun k => ?_⟩
          · by_cases hm : [a, b] ∈ L.map (·.2)
            · rw [mr.1 hm]
              exact Nat.le_succ_of_le hlen
            · rw [(mr.2 hm).length_eq]
              exact Nat.succ_le_succ hlen
          · by_cases hm : [a, b] ∈ L.map (·.2)
            · rw [mr.1 hm] at hq'
              exact hsq q' hq'
            · rcases List.mem_cons.mp ((mr.2 hm).mem_iff.mp hq') with z | z
              · rw [z]
                exact hsqt
              · exact hsq q' z
          · rw [tk]
            unfold keysOf
            rw [List.filterMap_append, List.filterMap_cons_some hk, List.filterMap_nil, List.mem_append, List.mem_singleton]
            by_cases hm : [a, b] ∈ L.map (·.2)
            · rw [mr.1 hm, hmem k]
              exact ⟨fun z => .inl z, fun z => z.elim id fun z => by rw [z]; exact (hmem _).mp hm⟩
            · rw [((mr.2 hm).map (·.2)).mem_iff, List.map_cons, List.mem_cons, hmem k]
              exact Or.comm
    · rintro H' ⟨S, L, hL, hlen, hsq, hmem⟩
      rw [lenu, List.take_length] at hmem
      have pr : ∀ q ∈ L, ∃ a b : Int, q.2 = [a, b] ∧ (0 ≤ a ∧ a < 1000) ∧ 0 ≤ b ∧ b < 1000 := fun q hq' => by
        obtain ⟨d, hd1, hd2⟩ := List.mem_filterMap.mp ((hmem q.2).mp (List.mem_map.mpr ⟨q, hq', rfl⟩))
        obtain ⟨a, b, _, e, h1, h2, _⟩ := key_pair (hpairs d hd1) hd2
        exact ⟨a, b, e, h1, h2⟩
      refine ⟨Dd, L, 2, 1000, rfl, hL, fun q hq' => K0.seqT_same S (hsq q hq'), by decide, fun q hq' => ?_, fun L' p' pm nd _ pw np' => ?_⟩
      · obtain ⟨a, b, e, h1, h2⟩ := pr q hq'
        rw [e]
        refine ⟨rfl, fun m hm => ?_⟩
        rcases List.mem_cons.mp hm with z | z
        · rw [z]
          exact h1
        · rw [List.mem_singleton.mp z]
          exact h2
      · have S' : Same H' (upd H' p' (.lst (L'.map fun q => V.ref q.1))) := K0.same_upd np'
        refine k p' _ (L'.map (·.2)) _ ((S1.trans S).trans S') upd_same ?_ ?_ fun z => ?_
        · have all : ∀ M : List (Addr × List Int), (∀ q ∈ M, q ∈ L) → DQs K (upd H' p' (.lst (L'.map fun q => V.ref q.1))) (M.map fun q => V.ref q.1) ((M.map (·.2)).map pairD) := by
            intro M
            induction M with
            | nil => exact fun _ => .nil
            | cons q M ih =>
              intro hM
              obtain ⟨a, b, e, _⟩ := pr q (hM q List.mem_cons_self)
              have hs := hsq q (hM q List.mem_cons_self)
              rw [e] at hs
              refine .cons ?_ (ih fun q' h' => hM q' (List.mem_cons_of_mem _ h'))
              show DQ K _ (V.ref q.1) (pairD q.2)
              rw [e]
              exact .tup (K0.seqT_same (S.trans S') hs) (.cons (.int a) (.cons (.int b) .nil))
          exact all L' fun q hq' => pm.mem_iff.mp hq'
        · rw [List.pairwise_map]
          have nd' := List.pairwise_map.mp nd
          refine (pw.and nd').imp_of_mem fun {q r} hq' hr' h => ?_
          obtain ⟨a, b, e, h1, h2⟩ := pr q (pm.mem_iff.mp hq')
          obtain ⟨a', b', e', h1', h2'⟩ := pr r (pm.mem_iff.mp hr')
          obtain ⟨le, ne⟩ := h
          show TS.code 1000 q.2 < TS.code 1000 r.2
          rw [e, e', code2, code2] at le ⊢
          rw [e, e'] at ne
          have h3 : a * 1000 + b ≠ a' * 1000 + b' := fun z => ne (by
            have ea : a = a' := by omega
            have eb : b = b' := by omega
            rw [ea, eb])
          omega
        · rw [(pm.map (·.2)).mem_iff, hmem z]
end
end K1
set_option maxHeartbeats 4000000
namespace K1
open PySem L2
def namedOf : PyData → List PyData
  | .tuple [_, _, .tuple (.str x :: r)] => namedD x r
  | _ => []
def spNamedBy (K : PySem.W.Frag) (C : Addr) : Sp := fun vs H Q E => ∃ v d, vs = [v] ∧ DQ K H v d ∧ okOr C (deedD d) v H E
  (∀ p us (ks : List (List Int)) H', Same H H' → H' p = some (.lst us) → DQs K H' us (ks.map pairD) → ks.Pairwise lt1000 → (∀ k, k ∈ ks ↔ k ∈ keysOf (namedOf d)) → Q (.ref p) H')
section
variable {P : Program} {w : World} {K : PySem.W.Frag} {mg : Str → Option Value} {base : Heap}
theorem sc_namedby : FnScope ["deed"] ["deed"] (defScope (top 32)) := ⟨rfl, rfl, rfl, by decide +kernel, rfl, by decide +kernel, by decide +kernel⟩
theorem cl_namedby {C fI aR : Addr} (T : All K mg) (R : Er K mg "NoDeed" C fI) (mR : mg "ROOT" = some (.ref aR)) (tR : ∀ H, SqT K H aR [.int 0, .int 0]) (hsort : mg "sorted" = none) : ClX P w K mg base 11 "named_by" ["deed"] (spNamedBy K C) := by
  obtain ⟨g, fd, D⟩ := T.dn 32 _ _ rfl
  refine D.clX (D.fn.okX sc_namedby (fun vs H Q E h => ?_) (fun cdv A outer s H vs Q E hr h => ?_))
  · obtain ⟨v, d, rfl, _⟩ := h
    rfl
  · obtain ⟨v, d, rfl, hd, k⟩ := h
    refine ⟨_, pss_cons (ps_expr (pe_clX (cl_chkdeed T R) hr (takes_of rfl rfl rfl rfl) (by decide) (pa_cons (pv 0) pa_nil))) (pss_one (ps_ret (pe_cl (cl_names T mR tR hsort) hr (by decide) (pa_cons (pe_ix ix_tup (pv 0) pe_int (fun _ _ => rfl)) pa_nil)))), ?_⟩
    refine ⟨_, rfl, v, d, rfl, hd, fun e H1 S1 => ?_, fun e H1 d1 S1 h1 => k.2 e H1 d1 S1 h1⟩
    obtain ⟨t, j, a, b, c, e', x, r, rfl, _, _, _, hb⟩ := deed_shape e
    obtain ⟨p, ys, u2, rfl, ht, i2, q2⟩ := (hd.to S1).item (i := 2) rfl
    exact ⟨_, rfl, p, ys, _, u2, rfl, rfl, ht, i2, u2, x, r, rfl, q2, hb, fun p' us ks H' S' h1 h2 h3 h4 => k.1 e p' us ks H' (S1.trans S') h1 h2 h3 h4⟩
end
end K1
set_option maxHeartbeats 4000000
/-! the law's drawing -/
namespace K1
open PySem L2
/-- a drawing source at p: two ints, the second one in its range -/
def Src (H : Hp) (p : Addr) : Prop := ∃ a b : Int, H p = some (.lst [.int a, .int b]) ∧ 0 ≤ b ∧ b < 2147483647
def spPool (K : PySem.W.Frag) : Sp := fun vs H Q _ => ∃ (a : Addr) (ns : List Int) (j : Nat), vs = [.ref a, .int (j : Int)] ∧ j ≤ 2 ∧ SqL K H a (ns.map V.int) ∧ ∀ (p : Addr) (A B : Int), H p = none → 0 ≤ B → B < 2147483647 → Q (.ref p) (upd H p (.lst [.int A, .int B]))
def spTake : Sp := fun vs H Q _ => ∃ (p : Addr) (t a b : Int), vs = [.ref p, .int t] ∧ H p = some (.lst [.int a, .int b]) ∧ 0 ≤ b ∧ b < 2147483647 ∧ 0 < t ∧ t.natAbs < 2 ^ 100 ∧
  ∀ r a' b' : Int, 0 ≤ r → r < t → 0 ≤ b' → b' < 2147483647 → Q (.int r) (upd H p (.lst [.int a', .int b']))
structure Nms (mg : Str → Option Value) : Prop where
  len : mg "len" = none
  max : mg "max" = none
  int : mg "int" = none
section
variable {P : Program} {w : World} {K : PySem.W.Frag} {mg : Str → Option Value} {base : Heap}
theorem sc_pool : FnScope ["_law_script", "_law_k", "_law_cell", "_law_big", "_law_mixed"] ["_law_script", "_law_k"] (defScope (top 48)) := ⟨rfl, rfl, rfl, by decide +kernel, rfl, by decide +kernel, by decide +kernel⟩
theorem cl_pool (TT : All K mg) (T : Nms mg) : Cl P w K mg base 1 "_law_pool" ["_law_script", "_law_k"] (spPool K) := by
  obtain ⟨g, fd, D⟩ := TT.dn 48 _ _ rfl
  refine D.cl (D.fn.ok sc_pool (fun vs H Q E h => ?_) (fun cdv A outer s H vs Q E hr h => ?_))
  · obtain ⟨a, ns, j, rfl, _⟩ := h
    rfl
  · obtain ⟨a, ns, j, rfl, hj, hS, k⟩ := h
    refine ⟨_, pss_cons (ps_set (i := 2) sc_pool.nd rfl (Or.inl rfl) pe_int)
      (pss_cons (ps_if (pt_cmpR op_lt (pv 1) (pe_callB call_len_seq (by rfl) T.len PySem.boot_len (pa_cons (pv 0) pa_nil)) (nomark _)) (pss_one (ps_set (i := 2) sc_pool.nd rfl (Or.inl rfl) (pe_ix ix_list (pv 0) (pv 1) (fun _ _ => rfl)))) pss_nil)
      (pss_cons (ps_set (i := 3) sc_pool.nd rfl (Or.inl rfl) (pe_callB (call_max2 rfl) (by rfl) T.max (by decide +kernel) (pa_cons (pe_callTy call_int1 (by rfl) T.int (by decide +kernel) (pa_cons (pv 2) pa_nil)) (pa_cons (pe_callTy call_int1 (by rfl) T.int (by decide +kernel) (pa_cons (pe_op op_sub (pe_un un_neg pe_int) (pv 2)) pa_nil)) pa_nil))))
      (pss_cons (ps_set (i := 4) sc_pool.nd rfl (Or.inl rfl) (pe_op op_modN (pe_callTy call_int1 (by rfl) T.int (by decide +kernel) (pa_cons (pe_op op_mul (pe_op op_add (pe_op op_add (pe_op op_add (pe_op op_modN (pe_callTy call_int1 (by rfl) T.int (by decide +kernel) (pa_cons (pv 3) pa_nil)) pe_int) (pe_op op_mul (pe_op op_mul pe_int (pv 1)) (pv 1))) (pe_op op_mul pe_int (pv 1))) pe_int) pe_int) pa_nil)) pe_int))
      (pss_one (ps_ret (pe_lst (pa_cons (pe_op op_mul (pv 3) (pe_callTy call_int1 (by rfl) T.int (by decide +kernel) (pa_cons (pe_cmpR op_ge (pv 3) (pe_op op_pow pe_int pe_int) (nomark _)) pa_nil))) (pa_cons (pv 4) pa_nil)))))))), ?_⟩
    refine ⟨_, rfl, _, rfl, a, _, rfl, .inl hS, _, _, rfl, rfl, _, rfl, ?_⟩
    have low : ∀ n : Int, ∃ m : Int, ∀ j' : Nat, j' ≤ 2 → True := fun _ => ⟨0, fun _ _ => trivial⟩
    refine ite2 (fun hlt => ?_) (fun hge => ?_)
    · obtain ⟨n, hn⟩ : ∃ n, ns[j]? = some n := by
        have h1 : j < ns.length := by
          rw [List.length_map] at hlt
          have := of_decide_eq_true hlt
          omega
        exact ⟨ns[j], List.getElem?_eq_getElem h1⟩
      have hn' : (ns.map V.int)[j]? = some (V.int n) := by
        rw [List.getElem?_map, hn]
        rfl
      refine ⟨_, rfl, _, rfl, a, _, _, V.int n, rfl, rfl, hS, atI_nat hn', ?_⟩
      obtain rfl | rfl | rfl : j = 0 ∨ j = 1 ∨ j = 2 := by omega
      all_goals
        refine ⟨_, rfl, .inl ⟨_, rfl, _, rfl, _, rfl, _, _, rfl, rfl, .inl ⟨_, rfl, _, _, rfl, ?_⟩⟩⟩
        refine ⟨_, rfl, .inl ⟨_, rfl, _, _, rfl, rfl, (by show (2147483629 : Int) ≠ 0; decide), _, rfl, _, _, rfl, rfl, .inl ⟨by decide, by decide⟩, _, rfl, _, _, rfl, rfl, .inl ⟨by decide, by decide⟩, _, _, rfl, rfl, _, rfl, _, _, rfl, rfl, .inl ⟨by decide, by decide⟩, _, _, rfl, rfl, _, _, rfl, rfl, _, _, rfl, rfl, .inr ⟨by decide, by decide⟩, .inl ⟨_, rfl, _, _, rfl, rfl, (by show (2147483647 : Int) ≠ 0; decide), ?_⟩⟩⟩
        refine ⟨_, rfl, _, rfl, _, _, rfl, rfl, ⟨by decide, by decide, by decide⟩, _, _, rfl, rfl, .inr ⟨_, rfl, _, _, rfl, rfl, .inr (K0.b01 _), _, rfl, (by show 2 ≤ sizeLine; decide), fun l hl => k l _ _ hl (K0.fmod_nn _ (by decide)) (K0.fmod_lt _ (by decide))⟩⟩
    · obtain rfl | rfl | rfl : j = 0 ∨ j = 1 ∨ j = 2 := by omega
      all_goals
        refine ⟨_, rfl, .inl ⟨_, rfl, _, rfl, _, rfl, _, _, rfl, rfl, .inl ⟨_, rfl, _, _, rfl, ?_⟩⟩⟩
        refine ⟨_, rfl, .inl ⟨_, rfl, _, _, rfl, rfl, (by show (2147483629 : Int) ≠ 0; decide), _, rfl, _, _, rfl, rfl, .inl ⟨by decide, by decide⟩, _, rfl, _, _, rfl, rfl, .inl ⟨by decide, by decide⟩, _, _, rfl, rfl, _, rfl, _, _, rfl, rfl, .inl ⟨by decide, by decide⟩, _, _, rfl, rfl, _, _, rfl, rfl, _, _, rfl, rfl, .inr ⟨by decide, by decide⟩, .inl ⟨_, rfl, _, _, rfl, rfl, (by show (2147483647 : Int) ≠ 0; decide), ?_⟩⟩⟩
        refine ⟨_, rfl, _, rfl, _, _, rfl, rfl, ⟨by decide, by decide, by decide⟩, _, _, rfl, rfl, .inr ⟨_, rfl, _, _, rfl, rfl, .inr (K0.b01 _), _, rfl, (by show 2 ≤ sizeLine; decide), fun l hl => k l _ _ hl (K0.fmod_nn _ (by decide)) (K0.fmod_lt _ (by decide))⟩⟩
theorem sc_take : FnScope ["_law_source", "_law_top", "_law_told"] ["_law_source", "_law_top"] (defScope (top 49)) := ⟨rfl, rfl, rfl, by decide +kernel, rfl, by decide +kernel, by decide +kernel⟩
theorem cl_take (TT : All K mg) (T : Nms mg) : Cl P w K mg base 1 "_law_take" ["_law_source", "_law_top"] spTake := by
  obtain ⟨g, fd, D⟩ := TT.dn 49 _ _ rfl
  refine D.cl (D.fn.ok sc_take (fun vs H Q E h => ?_) (fun cdv A outer s H vs Q E hr h => ?_))
  · obtain ⟨p, t, a, b, rfl, _⟩ := h
    rfl
  · obtain ⟨p, t, a, b, rfl, hp, b0, b1, t0, t1, k⟩ := h
    refine ⟨_, pss_cons (ps_if (pt_cmpR op_gt (pe_ix ix_list (pv 0) pe_int (fun _ _ => rfl)) pe_int (nomark _))
        (pss_cons (ps_set (i := 2) sc_take.nd rfl (Or.inl rfl) (pe_op op_modN (pe_callTy call_int1 (by rfl) T.int (by decide +kernel) (pa_cons (pe_ix ix_list (pv 0) pe_int (fun _ _ => rfl)) pa_nil)) (pv 1)))
        (pss_cons (ps_asg (pe_op op_fdivW (pe_ix ix_list (pv 0) pe_int (fun _ _ => rfl)) (pv 1)) (pg_sub (pv 0) pe_int set_list))
        (pss_one (ps_ret (pv 2))))) pss_nil)
      (pss_cons (ps_asg (pe_op op_modN (pe_callTy call_int1 (by rfl) T.int (by decide +kernel) (pa_cons (pe_op op_add (pe_op op_mul (pe_ix ix_list (pv 0) pe_int (fun _ _ => rfl)) pe_int) pe_int) pa_nil)) pe_int) (pg_sub (pv 0) pe_int set_list))
      (pss_one (ps_ret (pe_op op_modN (pe_callTy call_int1 (by rfl) T.int (by decide +kernel) (pa_cons (pe_op op_fdiv (pe_op op_modN (pe_callTy call_int1 (by rfl) T.int (by decide +kernel) (pa_cons (pe_op op_mul (pe_ix ix_list (pv 0) pe_int (fun _ _ => rfl)) (pe_ix ix_list (pv 0) pe_int (fun _ _ => rfl))) pa_nil)) pe_int) pe_int) pa_nil)) (pv 1))))), ?_⟩
    refine ⟨_, rfl, p, _, _, .int a, rfl, rfl, SqL.of hp, atI_nat (j := 0) rfl, _, _, rfl, rfl, _, rfl, ?_⟩
    refine ite2 (fun hlt => ?_) (fun hge => ?_)
    · refine ⟨_, rfl, p, _, _, .int a, rfl, rfl, SqL.of hp, atI_nat (j := 0) rfl, .inl ⟨_, rfl, _, rfl, _, _, rfl, rfl, (by omega), ?_⟩⟩
      refine ⟨_, rfl, p, _, _, .int a, rfl, rfl, SqL.of hp, atI_nat (j := 0) rfl, _, rfl, _, _, rfl, rfl, wide_div t0 t1 (by decide) (by decide), _, rfl, p, _, _, 0, rfl, rfl, hp, rfl, ?_⟩
      exact ⟨_, rfl, k _ _ _ (K0.fmod_nn _ t0) (K0.fmod_lt _ t0) b0 b1⟩
    · refine ⟨_, rfl, p, _, _, .int b, rfl, rfl, SqL.of hp, atI_nat (j := 1) rfl, _, _, rfl, rfl, .inr ⟨by decide, by decide⟩, _, _, rfl, rfl, .inl ⟨_, rfl, _, _, rfl, rfl, (by show (2147483647 : Int) ≠ 0; decide), _, rfl, p, _, _, 1, rfl, rfl, hp, rfl, ?_⟩⟩
      have c0 := K0.fmod_nn (b * 39373 + 7) (b := 2147483647) (by decide)
      have c1 := K0.fmod_lt (b * 39373 + 7) (b := 2147483647) (by decide)
      refine ⟨_, rfl, p, _, _, _, rfl, rfl, SqL.of upd_same, atI_nat (j := 1) rfl, _, rfl, p, _, _, _, rfl, rfl, SqL.of upd_same, atI_nat (j := 1) rfl, _, _, rfl, rfl, .inl ⟨by omega, by omega⟩, .inl ⟨_, rfl, _, _, rfl, rfl, (by show (2147483629 : Int) ≠ 0; decide), _, _, rfl, rfl, ⟨by decide, by decide⟩, .inl ⟨_, rfl, _, rfl, _, _, rfl, rfl, (by omega), ?_⟩⟩⟩
      exact k _ _ _ (K0.fmod_nn _ t0) (K0.fmod_lt _ t0) c0 c1
end
end K1
set_option maxHeartbeats 4000000
namespace K1
open PySem L2
/-- all but the source -/
def hid (p : Addr) (H : Hp) : Hp := fun b => if b = p then none else H b
theorem hid_ne {p b : Addr} {H : Hp} (h : b ≠ p) : hid p H b = H b := if_neg h
theorem hid_at {p b : Addr} {H : Hp} {u : HO} (h : hid p H b = some u) : b ≠ p ∧ H b = some u := by
  unfold hid at h
  by_cases e : b = p
  · rw [if_pos e] at h
    cases h
  · rw [if_neg e] at h
    exact ⟨e, h⟩
theorem hid_same (p : Addr) (H : Hp) : Same (hid p H) H := fun b u e => (hid_at e).2
/-- drawn from the source at p; all else stands -/
structure Bt (p : Addr) (H H' : Hp) : Prop where
  same : Same (hid p H) (hid p H')
  src : Src H' p
theorem Bt.refl {p : Addr} {H : Hp} (h : Src H p) : Bt p H H := ⟨Same.refl _, h⟩
theorem Bt.trans {p : Addr} {H H1 H2 : Hp} (a : Bt p H H1) (b : Bt p H1 H2) : Bt p H H2 := ⟨a.same.trans b.same, b.src⟩
theorem Bt.at {p b : Addr} {H H' : Hp} {u : HO} (h : Bt p H H') (n : b ≠ p) (e : H b = some u) : H' b = some u := (hid_at (h.same b u (by rw [hid_ne n]; exact e))).2
/-- something new beside the source -/
theorem Bt.new {p q : Addr} {H H' : Hp} {o : HO} (h : Bt p H H') (n : H' q = none) : Bt p H (upd H' q o) := by
  obtain ⟨a, b, e, r⟩ := h.src
  have nq : p ≠ q := ne_of_none e n
  refine ⟨h.same.trans fun c u hc => ?_, a, b, by rw [upd_ne nq]; exact e, r⟩
  obtain ⟨c1, c2⟩ := hid_at hc
  rw [hid_ne c1, upd_ne (ne_of_none c2 n)]
  exact c2
theorem Bt.put {p : Addr} {H H' : Hp} (h : Bt p H H') {a b : Int} (b0 : 0 ≤ b) (b1 : b < 2147483647) : Bt p H (upd H' p (.lst [.int a, .int b])) := by
  refine ⟨h.same.trans fun c u hc => ?_, a, b, upd_same, b0, b1⟩
  obtain ⟨c1, c2⟩ := hid_at hc
  rw [hid_ne c1, upd_ne c1]
  exact c2
/-- what is grown, nothing else being changed -/
theorem Bt.grow {p : Addr} {H H1 H2 : Hp} (h : Bt p H H1) (s : Same H1 H2) : Bt p H H2 := by
  obtain ⟨a, b, e, r⟩ := h.src
  refine ⟨h.same.trans fun c u hc => ?_, a, b, s _ _ e, r⟩
  obtain ⟨c1, c2⟩ := hid_at hc
  rw [hid_ne c1]
  exact s _ _ c2
/-- .. of the draws -/
def spTakeB : Sp := fun vs H Q _ => ∃ (p : Addr) (t : Int), vs = [.ref p, .int t] ∧ Src H p ∧ 0 < t ∧ t.natAbs < 2 ^ 100 ∧ ∀ (r : Int) H', 0 ≤ r → r < t → Bt p H H' → Q (.int r) H'
def spOne (K : PySem.W.Frag) : Sp := fun vs H Q _ => ∃ (p l : Addr) (us : List V) (ds : List PyData), vs = [.ref p, .ref l] ∧ Src H p ∧ SqL K (hid p H) l us ∧ DQs K (hid p H) us ds ∧ 0 < ds.length ∧ ds.length < 2 ^ 60 ∧
  ∀ H' u d, d ∈ ds → Bt p H H' → DQ K (hid p H') u d → Q u H'
section
variable {P : Program} {w : World} {K : PySem.W.Frag} {mg : Str → Option Value} {base : Heap}
theorem cl_takeB (TT : All K mg) (T : Nms mg) : Cl P w K mg base 1 "_law_take" ["_law_source", "_law_top"] spTakeB := by
  obtain ⟨g, fd, F, h⟩ := cl_take (P := P) (w := w) (base := base) TT T
  refine ⟨g, fd, F.imp fun vs H Q E q => ?_, h⟩
  obtain ⟨p, t, e, ⟨a, b, hp, b0, b1⟩, t0, t1, k⟩ := q
  exact ⟨p, t, a, b, e, hp, b0, b1, t0, t1, fun r a' b' r0 r1 c0 c1 => k r _ r0 r1 ((Bt.refl ⟨a, b, hp, b0, b1⟩).put c0 c1)⟩
theorem sc_one : FnScope ["_law_source", "_law_things"] ["_law_source", "_law_things"] (defScope (top 50)) := ⟨rfl, rfl, rfl, by decide +kernel, rfl, by decide +kernel, by decide +kernel⟩
theorem cl_one (TT : All K mg) (T : Nms mg) : Cl P w K mg base 2 "_law_one" ["_law_source", "_law_things"] (spOne K) := by
  obtain ⟨g, fd, D⟩ := TT.dn 50 _ _ rfl
  refine D.cl (D.fn.ok sc_one (fun vs H Q E h => ?_) (fun cdv A outer s H vs Q E hr h => ?_))
  · obtain ⟨p, l, us, ds, rfl, _⟩ := h
    rfl
  · obtain ⟨p, l, us, ds, rfl, hsrc, hl, hd, h0, h1, k⟩ := h
    refine ⟨_, pss_one (ps_ret (pe_ix ix_list (pv 1) (pe_cl (cl_takeB TT T) hr (by decide) (pa_cons (pv 0) (pa_cons (pe_callB call_len_seq (by rfl) T.len PySem.boot_len (pa_cons (pv 1) pa_nil)) pa_nil))) (fun _ _ => rfl))), ?_⟩
    have hlen := hd.len
    refine ⟨_, rfl, _, rfl, _, rfl, l, us, rfl, .inl ((hid_same p H).seq hl), p, _, rfl, hsrc, by omega, by omega, fun r H' r0 r1 bt => ?_⟩
    obtain ⟨i, rfl⟩ : ∃ i : Nat, r = (i : Int) := ⟨r.toNat, by omega⟩
    have hi : i < ds.length := by omega
    obtain ⟨u, hu, hq⟩ := hd.get (i := i) (List.getElem?_eq_getElem hi)
    exact ⟨l, us, _, u, rfl, rfl, (hid_same p H').seq (bt.same.seq hl), atI_nat hu, k H' u _ (List.getElem_mem hi) bt (hq.to bt.same)⟩
end
end K1
set_option maxHeartbeats 4000000
namespace K1
open PySem L2
theorem Dn.clG {P : Program} {w : World} {K : PySem.W.Frag} {mg : Str → Option Value} {base : Heap} {k : Nat} {x : Str} {ps : List Str} {st : Stmt} {g : Addr} {fd : FuncData} {sp : Sp} (D : Dn K mg x ps st g fd) (F : FnG P w K mg base k g fd ps sp) : ClG P w K mg base k x ps sp :=
  ⟨g, fd, F, D.mg, D.fn.kp, D.bn⟩
theorem in_four (x : Str) : inV (.str x) [.str "block", .str "let", .str "sum", .str "product"] = holdsD (.str x) := in_holders x
/-- five truths, shown -/
theorem five_shows {K : PySem.W.Frag} {H : Hp} {a : Addr} {b1 b2 b3 b4 b5 : Bool} (h : H a = some (.lst [.bl b1, .bl b2, .bl b3, .bl b4, .bl b5])) : Shows K H (.ref a) (.list [.bool b1, .bool b2, .bool b3, .bool b4, .bool b5]) where
  dq := .lst (SqL.of h) (.cons (.bl _) (.cons (.bl _) (.cons (.bl _) (.cons (.bl _) (.cons (.bl _) .nil)))))
  nl := fun z => by
    revert z
    cases b1 <;> cases b2 <;> cases b3 <;> cases b4 <;> cases b5 <;> decide +kernel
  sh := by cases b1 <;> cases b2 <;> cases b3 <;> cases b4 <;> cases b5 <;> decide +kernel
  dp := by cases b1 <;> cases b2 <;> cases b3 <;> cases b4 <;> cases b5 <;> decide +kernel
  sz := by
    rw [sizeLine_eq]
    cases b1 <;> cases b2 <;> cases b3 <;> cases b4 <;> cases b5 <;> decide +kernel
def spRight (K : PySem.W.Frag) : Sp := fun vs H Q _ => ∃ v d, vs = [v] ∧ DQ K H v d ∧ ∀ H', Same H H' → Q (.bl true) H'
section
variable {P : Program} {w : World} {K : PySem.W.Frag} {mg : Str → Option Value} {base : Heap}
theorem sc_vright : FnScope ["_law_value", "_law_told", "_law_due", "_law_holds"] ["_law_value"] (defScope (top 74)) := ⟨rfl, rfl, rfl, by decide +kernel, rfl, by decide +kernel, by decide +kernel⟩
theorem cl_vright (T : All K mg) (hrep : mg "repr" = none) : ClG P w K mg base 11 "_law_value_right" ["_law_value"] (spRight K) := by
  obtain ⟨g, fd, D⟩ := T.dn 74 _ _ rfl
  refine D.clG (okG D.fn sc_vright (fun vs H Q E h => ?_) (fun cdv A outer s H vs Q E hgd hr h => ?_))
  · obtain ⟨v, d, rfl, _⟩ := h
    rfl
  · obtain ⟨v, d, rfl, hd, k⟩ := h
    refine ⟨_, (pss_cons (ps_set (i := 1) sc_vright.nd rfl (Or.inl rfl) (pe_lst (pa_cons (pe_cl (cl_name T) hr (by decide) (pa_cons (pv 0) pa_nil)) (pa_cons (pe_cl (cl_stamp T) hr (by decide) (pa_cons (pv 0) pa_nil)) (pa_cons (pe_cl (cl_body T) hr (by decide) (pa_cons (pv 0) pa_nil)) (pa_cons (pe_cl (cl_deed T) hr (by decide) (pa_cons (pv 0) pa_nil)) (pa_cons (pe_cl (cl_hold T) hr (by decide) (pa_cons (pv 0) pa_nil)) pa_nil)))))))
      (pss_cons (ps_set (i := 2) sc_vright.nd rfl (Or.inl rfl) (pe_lst (pa_cons (pe_cl (cl_aname T) hr (by decide) (pa_cons (pv 0) pa_nil)) (pa_cons (pe_cl (cl_astamp T) hr (by decide) (pa_cons (pv 0) pa_nil)) (pa_cons (pe_cl (cl_abody T) hr (by decide) (pa_cons (pv 0) pa_nil)) (pa_cons (pe_cl (cl_adeed T) hr (by decide) (pa_cons (pv 0) pa_nil)) pa_nil))))))
      (pss_cons (ps_set (i := 3) sc_vright.nd rfl (Or.inl rfl) (pe_and (pe_callB call_isiD (by rfl) T.bi.isi (by decide +kernel) (pa_cons (pv 0) (pa_cons (pe_bltn (v := .ty "str") (by rfl) T.bi.str (by decide +kernel) rfl) pa_nil))) (pe_one (pe_cmpR op_in_seq (pv 0) (pe_lst (pa_cons pe_str (pa_cons pe_str (pa_cons pe_str (pa_cons pe_str pa_nil))))) rfl))))
      (pss_one (ps_ret (pe_cmpR op_eq (pe_callB (call_reprQ hgd hr.units) (by rfl) hrep (by decide +kernel) (pa_cons (pv 1) pa_nil)) (pe_callB (call_reprQ hgd hr.units) (by rfl) hrep (by decide +kernel) (pa_cons (pe_op op_cat (pv 2) (pe_lst (pa_cons (pv 3) pa_nil))) pa_nil)) (nomark _))))))), ?_⟩
    refine ⟨_, rfl, v, d, rfl, hd, fun H1 S1 => ⟨_, rfl, v, d, rfl, hd.to S1, fun H2 S2 => ⟨_, rfl, v, d, rfl, (hd.to S1).to S2, fun H3 S3 => ⟨_, rfl, v, d, rfl, ((hd.to S1).to S2).to S3, fun H4 S4 => ⟨_, rfl, v, d, rfl, (((hd.to S1).to S2).to S3).to S4, fun H5 S5 => ⟨(by show 5 ≤ sizeLine; rw [sizeLine_eq]; decide), fun p np => ?_⟩⟩⟩⟩⟩⟩
    have Sa := (((S1.trans S2).trans S3).trans S4).trans S5
    have hp := @upd_same H5 p (.lst [.bl (nameD d), .bl (stampD d), .bl (bodyD d), .bl (deedD d), .bl (holdsD d)])
    have Sb := Sa.trans (K0.same_upd (o := .lst [.bl (nameD d), .bl (stampD d), .bl (bodyD d), .bl (deedD d), .bl (holdsD d)]) np)
    generalize upd H5 p (.lst [.bl (nameD d), .bl (stampD d), .bl (bodyD d), .bl (deedD d), .bl (holdsD d)]) = H6 at hp Sb ⊢
    have hd6 := hd.to Sb
    refine ⟨_, rfl, v, d, rfl, hd6, fun I1 T1 => ⟨_, rfl, v, d, rfl, hd6.to T1, fun I2 T2 => ⟨_, rfl, v, d, rfl, (hd6.to T1).to T2, fun I3 T3 => ⟨_, rfl, v, d, rfl, ((hd6.to T1).to T2).to T3, fun I4 T4 => ⟨(by show 4 ≤ sizeLine; rw [sizeLine_eq]; decide), fun q nq => ?_⟩⟩⟩⟩⟩
    have Ta := ((T1.trans T2).trans T3).trans T4
    have hq := @upd_same I4 q (.lst [.bl (nameD d), .bl (stampD d), .bl (bodyD d), .bl (deedD d)])
    have Tb := Ta.trans (K0.same_upd (o := .lst [.bl (nameD d), .bl (stampD d), .bl (bodyD d), .bl (deedD d)]) nq)
    generalize upd I4 q (.lst [.bl (nameD d), .bl (stampD d), .bl (bodyD d), .bl (deedD d)]) = I5 at hq Tb ⊢
    have hd7 := hd6.to Tb
    -- what is asked of the end
    have fin : ∀ J, Same I5 J → ∀ r, J r = none → ∀ J2, Same (upd J r (.lst [.bl (holdsD d)])) J2 → ∀ z, J2 z = none → ∀ Hz, Hz = upd J2 z (.lst [.bl (nameD d), .bl (stampD d), .bl (bodyD d), .bl (deedD d), .bl (holdsD d)]) → Same H Hz := fun J SJ r nr J2 S2 z nz Hz e => by
      subst e
      exact ((((Sb.trans Tb).trans SJ).trans (K0.same_upd nr)).trans S2).trans (K0.same_upd nz)
    have tail : ∀ J, Same I5 J → ∀ (D : Ends), D.rt = Q → (tRet (tOp rEq (tCB (rReprQ K) (tCons (tVar 1) tNil)) (tCB (rReprQ K) (tCons (tOp rCat (tVar 2) (tLst (tCons (tVar 3) tNil))) tNil)))) D [some v, some (.ref p), some (.ref q), some (.bl (holdsD d))] J := fun J SJ D hD => by
      have sh := (five_shows (K := K) hp).to (Tb.trans SJ)
      refine ⟨_, rfl, _, _, rfl, sh.dq, sh.nl, sh.sh, sh.dp, sh.sz, _, rfl, _, rfl, (by show 1 ≤ sizeLine; rw [sizeLine_eq]; decide), fun r nr => ?_⟩
      refine ⟨q, r, _, _, rfl, rfl, ((SJ.trans (K0.same_upd nr)) _ _ hq), upd_same, (by show 4 + 1 ≤ sizeLine; rw [sizeLine_eq]; decide), fun z nz => ?_⟩
      have sh2 := five_shows (K := K) (@upd_same (upd J r (.lst [.bl (holdsD d)])) z (.lst [.bl (nameD d), .bl (stampD d), .bl (bodyD d), .bl (deedD d), .bl (holdsD d)]))
      refine ⟨_, _, rfl, sh2.dq, sh2.nl, sh2.sh, sh2.dp, sh2.sz, rfl, ?_⟩
      rw [decide_eq_true rfl, hD]
      exact k _ (fin J SJ r nr _ (Same.refl _) z nz _ rfl)
    refine ⟨_, rfl, v, d, _, _, rfl, hd7, kit_str d, _, rfl, ?_⟩
    cases hd7 with
    | str x hx =>
      refine iteT ⟨_, rfl, (by show 4 ≤ sizeLine; rw [sizeLine_eq]; decide), fun l nl => ⟨l, _, rfl, .inl (SqL.of upd_same), rfl, rfl, ?_⟩⟩
      have e4 : (if false = true then !inV (V.str x) [.str "block", .str "let", .str "sum", .str "product"] else inV (V.str x) [.str "block", .str "let", .str "sum", .str "product"]) = holdsD (.str x) := by
        rw [if_neg Bool.false_ne_true]
        exact in_four x
      rw [e4]
      exact tail _ (K0.same_upd nl) _ rfl
    | _ => exact iteF (tail _ (Same.refl _) _ rfl)
end
end K1
set_option maxHeartbeats 4000000
/-! written data -/
namespace K1
open PySem L2
/-- what has come since -/
def nw (H H' : Hp) : Hp := fun b => match H b with
  | none => H' b
  | some _ => none
theorem nw_at {H H' : Hp} {b : Addr} {u : HO} (h : nw H H' b = some u) : H b = none ∧ H' b = some u := by
  unfold nw at h
  cases e : H b with
  | none =>
    rw [e] at h
    exact ⟨rfl, h⟩
  | some x =>
    rw [e] at h
    cases h
theorem nw_of {H H' : Hp} {b : Addr} {u : HO} (n : H b = none) (h : H' b = some u) : nw H H' b = some u := by
  unfold nw
  rw [n]
  exact h
theorem nw_in (H H' : Hp) : Same (nw H H') H' := fun b u e => (nw_at e).2
theorem nw_more {H H1 H2 : Hp} (s : Same H1 H2) : Same (nw H H1) (nw H H2) := fun b u e => nw_of (nw_at e).1 (s _ _ (nw_at e).2)
theorem old_none {H H1 : Hp} {b : Addr} (s : Same H H1) (n : H1 b = none) : H b = none := by
  cases e : H b with
  | none => rfl
  | some u =>
    rw [s b u e] at n
    cases n
theorem nw_less {H H1 H2 : Hp} (s : Same H H1) : Same (nw H1 H2) (nw H H2) := fun b u e => nw_of (old_none s (nw_at e).1) (nw_at e).2
theorem nw_hid {p : Addr} {H H' : Hp} (h : Src H p) : Same (nw H H') (hid p H') := fun b u e => by
  obtain ⟨x, y, z, _⟩ := h
  rw [hid_ne (Ne.symm (ne_of_none z (nw_at e).1))]
  exact (nw_at e).2
def tLit (K : PySem.W.Frag) (d : PyData) : TE := fun _ H Q => ∀ H' v, Same H H' → DQ K (nw H H') v d → Q v H'
def tLits (K : PySem.W.Frag) (ds : List PyData) : TA := fun _ H Q => ∀ H' vs, Same H H' → DQs K (nw H H') vs ds → Q vs H'
theorem DQs.to {K : PySem.W.Frag} {H H' : Hp} {vs : List V} {ds : List PyData} (h : DQs K H vs ds) (s : Same H H') : DQs K H' vs ds := DQs.same s ds vs h
/-- a list that is tracked, of written data -/
def tLstL (K : PySem.W.Frag) (ds : List PyData) : TE := fun _ H Q => ∀ H' p vs, Same H H' → H p = none → H' p = some (.lst vs) → DQs K (nw H H') vs ds → Q (.ref p) H'
section
variable {X : Cx}
theorem li_non {j pos} : PE X (.Constant .none j pos) (tLit X.K .none) := K0.pe_imp pe_non fun σ H Q q => q H _ (Same.refl _) .non
theorem li_bl {b j pos} : PE X (.Constant (.bool b) j pos) (tLit X.K (.bool b)) := K0.pe_imp pe_bl fun σ H Q q => q H _ (Same.refl _) (.bl b)
theorem li_int {i j pos} : PE X (.Constant (.int i) j pos) (tLit X.K (.int i)) := K0.pe_imp pe_int fun σ H Q q => q H _ (Same.refl _) (.int i)
theorem li_neg {i j p1 pos} : PE X (.UnaryOp .USub (.Constant (.int i) j p1) pos) (tLit X.K (.int (-i))) := K0.pe_imp (pe_un un_neg pe_int) fun σ H Q q => ⟨i, rfl, q H _ (Same.refl _) (.int _)⟩
theorem li_str {x j pos} (h : x.length ≤ 1000) : PE X (.Constant (.str x) j pos) (tLit X.K (.str x)) := K0.pe_imp pe_str fun σ H Q q => q H _ (Same.refl _) (.str x h)
theorem li_dct {pos} : PE X (.Dict [] [] pos) (tLit X.K (.dict [])) := K0.pe_imp pe_dnewK fun σ H Q q p np => q _ _ (K0.same_upd np) (.dct (nw_of np upd_same))
theorem las_nil : PA X [] (tLits X.K []) := K0.pa_imp pa_nil fun σ H Q q => q H [] (Same.refl _) .nil
theorem las_cons {e : Expr} {es : List Expr} {d : PyData} {ds : List PyData} (h : PE X e (tLit X.K d)) (hs : PA X es (tLits X.K ds)) (he : starEach (e :: es) X.env = (false, eval e X.env) :: starEach es X.env := by rfl) : PA X (e :: es) (tLits X.K (d :: ds)) :=
  K0.pa_imp (pa_cons h hs he) fun σ H Q q H1 v S1 h1 H2 vs S2 h2 => q H2 (v :: vs) (S1.trans S2) (.cons (h1.to (nw_more S2)) (h2.to (nw_less S1)))
theorem li_tup {es : List Expr} {ds : List PyData} {x1 pos} (h : PA X es (tLits X.K ds)) (hl : ds.length ≤ 1000) : PE X (.Tuple es x1 pos) (tLit X.K (.tuple ds)) :=
  K0.pe_imp (pe_tup h) fun σ H Q q H1 vs S1 h1 => ⟨by rw [h1.len, sizeLine_eq]; omega, fun p np => q _ _ (S1.trans (K0.same_upd np)) (.tup (.inl (.inl (nw_of (old_none S1 np) upd_same))) (h1.to (nw_more (K0.same_upd np))))⟩
theorem li_lst {es : List Expr} {ds : List PyData} {pos} (h : PA X es (tLits X.K ds)) (hl : ds.length ≤ 1000) : PE X (.List es pos) (tLit X.K (.list ds)) :=
  K0.pe_imp (pe_lst h) fun σ H Q q H1 vs S1 h1 => ⟨by rw [h1.len, sizeLine_eq]; omega, fun p np => q _ _ (S1.trans (K0.same_upd np)) (.lst (SqL.of (nw_of (old_none S1 np) upd_same)) (h1.to (nw_more (K0.same_upd np))))⟩
theorem li_list {es : List Expr} {ds : List PyData} {pos} (h : PA X es (tLits X.K ds)) (hl : ds.length ≤ 1000) : PE X (.List es pos) (tLstL X.K ds) :=
  K0.pe_imp (pe_lst h) fun σ H Q q H1 vs S1 h1 => ⟨by rw [h1.len, sizeLine_eq]; omega, fun p np => q _ p vs (S1.trans (K0.same_upd np)) (old_none S1 np) upd_same (h1.to (nw_more (K0.same_upd np)))⟩
end
end K1
set_option maxHeartbeats 4000000
namespace K1
open PySem L2
def odd0 : List PyData := [.none, .bool true, .bool false, .int 0, .int 1, .int 4, .int 1000, .int (-1), .str "", .str "x", .str "X", .str "abcde", .str "a1", .str "let", .str "block", .str "make", .str "none"]
def odd1 : List PyData := [.tuple [], .tuple [.int 0, .int 0], .tuple [.int 1, .int 0], .tuple [.int 1, .int 4], .tuple [.int 0, .int 1], .tuple [.bool true, .int 0], .tuple [.int 0, .bool false], .tuple [.int 1000, .int 0], .list [.int 1, .int 0], .tuple [.int 1, .int 0, .int 0]]
def odd2 : List PyData := [.tuple [.str "1", .int 0], .dict []]
def odd3 : List PyData := [.tuple [.int 0, .int 0, .int 0, .int 0], .list [.int 0, .int 0, .int 0, .int 0], .tuple [.int 0, .int 0, .int 0], .tuple [.int 0, .int 0, .int 0, .bool true], .tuple [.str "drop", .tuple [.int 1, .int 0]], .tuple [.str "drop"]]
def oddL : List PyData := ((odd0 ++ odd1) ++ odd2) ++ odd3
def spOdd (K : PySem.W.Frag) : Sp := fun vs H Q _ => ∃ p, vs = [.ref p] ∧ Src H p ∧ ∀ H' u d, d ∈ oddL → Bt p H H' → DQ K (hid p H') u d → Q u H'
theorem DQs.app {K : PySem.W.Frag} {H : Hp} : ∀ {vs us : List V} {ds es : List PyData}, DQs K H vs ds → DQs K H us es → DQs K H (vs ++ us) (ds ++ es)
  | _, _, _, _, .nil, k => k
  | _, _, _, _, .cons r t, k => .cons r (t.app k)
section
variable {P : Program} {w : World} {K : PySem.W.Frag} {mg : Str → Option Value} {base : Heap}
theorem sc_odd : FnScope ["_law_source", "_law_some"] ["_law_source"] (defScope (top 72)) := ⟨rfl, rfl, rfl, by decide +kernel, rfl, by decide +kernel, by decide +kernel⟩
theorem cl_odd (T : All K mg) (N : Nms mg) : Cl P w K mg base 3 "_law_odd" ["_law_source"] (spOdd K) := by
  obtain ⟨g, fd, D⟩ := T.dn 72 _ _ rfl
  refine D.cl (D.fn.ok sc_odd (fun vs H Q E h => ?_) (fun cdv A outer s H vs Q E hr h => ?_))
  · obtain ⟨p, rfl, _⟩ := h
    rfl
  · obtain ⟨p, rfl, hsrc, k⟩ := h
    refine ⟨_, (pss_cons (ps_set (i := 1) sc_odd.nd rfl (Or.inl rfl) (li_list (ds := odd0) (las_cons li_non (las_cons li_bl (las_cons li_bl (las_cons li_int (las_cons li_int (las_cons li_int (las_cons li_int (las_cons li_neg (las_cons (li_str (by decide +kernel)) (las_cons (li_str (by decide +kernel)) (las_cons (li_str (by decide +kernel)) (las_cons (li_str (by decide +kernel)) (las_cons (li_str (by decide +kernel)) (las_cons (li_str (by decide +kernel)) (las_cons (li_str (by decide +kernel)) (las_cons (li_str (by decide +kernel)) (las_cons (li_str (by decide +kernel)) las_nil))))))))))))))))) (by decide)))
      (pss_cons (ps_set (i := 1) sc_odd.nd rfl (Or.inl rfl) (pe_op op_cat (pv 1) (li_list (ds := odd1) (las_cons (li_tup las_nil (by decide)) (las_cons (li_tup (las_cons li_int (las_cons li_int las_nil)) (by decide)) (las_cons (li_tup (las_cons li_int (las_cons li_int las_nil)) (by decide)) (las_cons (li_tup (las_cons li_int (las_cons li_int las_nil)) (by decide)) (las_cons (li_tup (las_cons li_int (las_cons li_int las_nil)) (by decide)) (las_cons (li_tup (las_cons li_bl (las_cons li_int las_nil)) (by decide)) (las_cons (li_tup (las_cons li_int (las_cons li_bl las_nil)) (by decide)) (las_cons (li_tup (las_cons li_int (las_cons li_int las_nil)) (by decide)) (las_cons (li_lst (las_cons li_int (las_cons li_int las_nil)) (by decide)) (las_cons (li_tup (las_cons li_int (las_cons li_int (las_cons li_int las_nil))) (by decide)) las_nil)))))))))) (by decide))))
      (pss_cons (ps_set (i := 1) sc_odd.nd rfl (Or.inl rfl) (pe_op op_cat (pv 1) (li_list (ds := odd2) (las_cons (li_tup (las_cons (li_str (by decide +kernel)) (las_cons li_int las_nil)) (by decide)) (las_cons li_dct las_nil)) (by decide))))
      (pss_cons (ps_set (i := 1) sc_odd.nd rfl (Or.inl rfl) (pe_op op_cat (pv 1) (li_list (ds := odd3) (las_cons (li_tup (las_cons li_int (las_cons li_int (las_cons li_int (las_cons li_int las_nil)))) (by decide)) (las_cons (li_lst (las_cons li_int (las_cons li_int (las_cons li_int (las_cons li_int las_nil)))) (by decide)) (las_cons (li_tup (las_cons li_int (las_cons li_int (las_cons li_int las_nil))) (by decide)) (las_cons (li_tup (las_cons li_int (las_cons li_int (las_cons li_int (las_cons li_bl las_nil)))) (by decide)) (las_cons (li_tup (las_cons (li_str (by decide +kernel)) (las_cons (li_tup (las_cons li_int (las_cons li_int las_nil)) (by decide)) las_nil)) (by decide)) (las_cons (li_tup (las_cons (li_str (by decide +kernel)) las_nil) (by decide)) las_nil)))))) (by decide))))
      (pss_one (ps_ret (pe_cl (cl_one T N) hr (by decide) (pa_cons (pv 0) (pa_cons (pv 1) pa_nil))))))))), ?_⟩
    have cat : ∀ {H0 : Hp} {l b : Addr} {xs ys : List V} {ds es : List PyData}, DQs K (nw H H0) xs ds → DQs K (nw H H0) ys es → ds.length + es.length ≤ 1000 → xs.length + ys.length ≤ sizeLine := fun h1 h2 h3 => by
      rw [h1.len, h2.len, sizeLine_eq]
      omega
    refine fun H1 p1 x1 S1 n1 e1 d1 => ⟨_, rfl, fun H2 p2 x2 S2 n2 e2 d2 => ?_⟩
    have d1' := d1.to (nw_more (H := H) S2)
    have d2' := d2.to (nw_less (H2 := H2) S1)
    refine ⟨p1, p2, x1, x2, rfl, rfl, S2 _ _ e1, e2, cat (l := p1) (b := p2) d1' d2' (by decide), fun p3 n3 => ?_⟩
    have S3 := K0.same_upd (o := .lst (x1 ++ x2)) n3
    have e3 := @upd_same H2 p3 (.lst (x1 ++ x2))
    have d3 := (d1'.app d2').to (nw_more (H := H) S3)
    generalize upd H2 p3 (.lst (x1 ++ x2)) = H3 at S3 e3 d3 ⊢
    have T3 := (S1.trans S2).trans S3
    refine ⟨_, rfl, fun H4 p4 x4 S4 n4 e4 d4 => ?_⟩
    have d3' := d3.to (nw_more (H := H) S4)
    have d4' := d4.to (nw_less (H2 := H4) T3)
    refine ⟨p3, p4, _, x4, rfl, rfl, S4 _ _ e3, e4, cat (l := p3) (b := p4) d3' d4' (by decide), fun p5 n5 => ?_⟩
    have S5 := K0.same_upd (o := .lst ((x1 ++ x2) ++ x4)) n5
    have e5 := @upd_same H4 p5 (.lst ((x1 ++ x2) ++ x4))
    have d5 := (d3'.app d4').to (nw_more (H := H) S5)
    generalize upd H4 p5 (.lst ((x1 ++ x2) ++ x4)) = H5 at S5 e5 d5 ⊢
    have T5 := (T3.trans S4).trans S5
    refine ⟨_, rfl, fun H6 p6 x6 S6 n6 e6 d6 => ?_⟩
    have d5' := d5.to (nw_more (H := H) S6)
    have d6' := d6.to (nw_less (H2 := H6) T5)
    refine ⟨p5, p6, _, x6, rfl, rfl, S6 _ _ e5, e6, cat (l := p5) (b := p6) d5' d6' (by decide), fun p7 n7 => ?_⟩
    have S7 := K0.same_upd (o := .lst (((x1 ++ x2) ++ x4) ++ x6)) n7
    have e7 := @upd_same H6 p7 (.lst (((x1 ++ x2) ++ x4) ++ x6))
    have d7 := (d5'.app d6').to (nw_more (H := H) S7)
    have m7 := old_none (T5.trans S6) n7
    generalize upd H6 p7 (.lst (((x1 ++ x2) ++ x4) ++ x6)) = H7 at S7 e7 d7 ⊢
    have T7 := (T5.trans S6).trans S7
    have bt : Bt p H H7 := (Bt.refl hsrc).grow T7
    exact ⟨_, rfl, _, rfl, p, p7, _, oddL, rfl, bt.src, SqL.of (nw_hid hsrc _ _ (nw_of m7 e7)), d7.to (nw_hid hsrc), by decide, by decide, fun H' u d hd b q => k H' u d hd (bt.trans b) q⟩
end
end K1
set_option maxHeartbeats 4000000
namespace K1
open PySem L2
def cutD (ds : List PyData) (lo hi : Option Int) : List PyData := (ds.drop (HT.sIx ds.length 0 lo)).take (HT.sIx ds.length ds.length hi - HT.sIx ds.length 0 lo)
theorem DQs.drop {K : PySem.W.Frag} {H : Hp} : ∀ (n : Nat) {vs : List V} {ds : List PyData}, DQs K H vs ds → DQs K H (vs.drop n) (ds.drop n)
  | 0, _, _, h => h
  | n + 1, _, _, .nil => .nil
  | n + 1, _, _, .cons _ t => t.drop n
theorem DQs.take {K : PySem.W.Frag} {H : Hp} : ∀ (n : Nat) {vs : List V} {ds : List PyData}, DQs K H vs ds → DQs K H (vs.take n) (ds.take n)
  | 0, _, _, _ => .nil
  | n + 1, _, _, .nil => .nil
  | n + 1, _, _, .cons r t => .cons r (t.take n)
theorem hid_none {p q : Addr} {H : Hp} (n : H q = none) : hid p H q = none := by
  unfold hid
  by_cases e : q = p
  · rw [if_pos e]
  · rw [if_neg e]
    exact n
theorem slice_ask {K : PySem.W.Frag} {p : Addr} {H : Hp} {v : V} {ds : List PyData} {lo hi : Option Int} {Q : VK} (src : Src H p) (h : DQ K (hid p H) v (.tuple ds)) (k : ∀ H' u, Bt p H H' → DQ K (hid p H') u (.tuple (cutD ds lo hi)) → Q u H') : rSlA K v lo hi H Q := by
  have h0 := h
  cases h with
  | @tup a xs _ h1 h2 =>
    have hl := h2.len
    refine ⟨a, xs, rfl, K0.seqT_same (hid_same p H) h1, fun w => k H _ (Bt.refl src) ?_, fun w q nq => ?_⟩
    · have e : cutD ds lo hi = ds := by
        unfold cutD
        rw [← hl, w.1, w.2, List.drop_zero, Nat.sub_zero, hl, List.take_length]
      rw [e]
      exact h0
    · have bt := (Bt.refl src).new (o := .tup (cutV xs lo hi)) nq
      have nqp : q ≠ p := fun e => by
        obtain ⟨x, y, z, _⟩ := src
        rw [e, z] at nq
        cases nq
      have e : DQs K (hid p H) (cutV xs lo hi) (cutD ds lo hi) := by
        unfold cutV cutD
        rw [hl]
        exact (h2.drop _).take _
      exact k _ _ bt (.tup (.inl (.inl (by rw [hid_ne nqp, upd_same]))) (e.to bt.same))
theorem cat_ask {K : PySem.W.Frag} {p : Addr} {H : Hp} {v u : V} {ds es : List PyData} {Q : VK} (src : Src H p) (h : DQ K (hid p H) v (.tuple ds)) (g : DQ K (hid p H) u (.tuple es)) (hl : ds.length + es.length ≤ 1000) (k : ∀ H' z, Bt p H H' → DQ K (hid p H') z (.tuple (ds ++ es)) → Q z H') : rCatA K v u H Q := by
  have h0 := h
  have g0 := g
  cases h with
  | @tup a xs _ h1 h2 =>
    cases g with
    | @tup b ys _ g1 g2 =>
      have l1 := h2.len
      have l2 := g2.len
      refine ⟨a, b, xs, ys, rfl, rfl, K0.seqT_same (hid_same p H) h1, K0.seqT_same (hid_same p H) g1, by rw [sizeLine_eq]; omega, fun e => ?_, fun _ e => ?_, fun _ _ q nq => ?_⟩
      · subst e
        cases h2
        exact k H _ (Bt.refl src) g0
      · subst e
        cases g2
        refine k H _ (Bt.refl src) ?_
        rw [List.append_nil]
        exact h0
      · have bt := (Bt.refl src).new (o := .tup (xs ++ ys)) nq
        have nqp : q ≠ p := fun e => by
          obtain ⟨x, y, z, _⟩ := src
          rw [e, z] at nq
          cases nq
        exact k _ _ bt (.tup (.inl (.inl (by rw [hid_ne nqp, upd_same]))) ((h2.app g2).to bt.same))
/-- the thing with something odd in it, or a place less -/
def Bent (ds es : List PyData) : Prop := (∃ o ∈ oddL, ∀ e ∈ es, e ∈ ds ∨ e = o) ∧ es.length ≤ ds.length + 1
def spBent (K : PySem.W.Frag) : Sp := fun vs H Q _ => ∃ p v ds, vs = [.ref p, v] ∧ Src H p ∧ DQ K (hid p H) v (.tuple ds) ∧ 0 < ds.length ∧ ds.length ≤ 100 ∧ ∀ H' u es, Bent ds es → Bt p H H' → DQ K (hid p H') u (.tuple es) → Q u H'
section
variable {P : Program} {w : World} {K : PySem.W.Frag} {mg : Str → Option Value} {base : Heap}
theorem one_new {p q : Addr} {H H1 : Hp} {u : V} {d : PyData} (bt : Bt p H H1) (hq : DQ K (hid p H1) u d) (nq : H1 q = none) : Bt p H (upd H1 q (.tup [u])) ∧ DQ K (hid p (upd H1 q (.tup [u]))) (.ref q) (.tuple [d]) := by
  have nqp : q ≠ p := fun e => by
    obtain ⟨x, y, z, _⟩ := bt.src
    rw [e, z] at nq
    cases nq
  have b3 := (Bt.refl bt.src).new (o := .tup [u]) nq
  exact ⟨bt.new (o := .tup [u]) nq, .tup (.inl (.inl (by rw [hid_ne nqp, upd_same]))) (.cons (hq.to b3.same) .nil)⟩
theorem sc_bent : FnScope ["_law_source", "_law_thing", "_law_way", "_law_at"] ["_law_source", "_law_thing"] (defScope (top 73)) := ⟨rfl, rfl, rfl, by decide +kernel, rfl, by decide +kernel, by decide +kernel⟩
theorem cl_bent (T : All K mg) (N : Nms mg) : Cl P w K mg base 4 "_law_bent" ["_law_source", "_law_thing"] (spBent K) := by
  obtain ⟨g, fd, D⟩ := T.dn 73 _ _ rfl
  refine D.cl (D.fn.ok sc_bent (fun vs H Q E h => ?_) (fun cdv A outer s H vs Q E hr h => ?_))
  · obtain ⟨p, v, ds, rfl, _⟩ := h
    rfl
  · obtain ⟨p, v, ds, rfl, hsrc, hd, l0, l1, k⟩ := h
    refine ⟨_, (pss_cons (ps_set (i := 2) sc_bent.nd rfl (Or.inl rfl) (pe_cl (cl_takeB T N) hr (by decide) (pa_cons (pv 0) (pa_cons pe_int pa_nil))))
      (pss_cons (ps_if (pt_cmpR op_eq (pv 2) pe_int (nomark _)) (pss_one (ps_ret (pe_op op_catA (pv 1) (pe_tup (pa_cons (pe_cl (cl_odd T N) hr (by decide) (pa_cons (pv 0) pa_nil)) pa_nil))))) pss_nil)
      (pss_cons (ps_if (pt_cmpR op_eq (pv 2) pe_int (nomark _)) (pss_one (ps_ret (pe_slice sl_tupA (pv 1) po_none (po_some (pe_un un_neg pe_int))))) pss_nil)
      (pss_cons (ps_set (i := 3) sc_bent.nd rfl (Or.inl rfl) (pe_cl (cl_takeB T N) hr (by decide) (pa_cons (pv 0) (pa_cons (pe_callB call_len_seq (by rfl) N.len PySem.boot_len (pa_cons (pv 1) pa_nil)) pa_nil))))
      (pss_one (ps_ret (pe_op op_catA (pe_op op_catA (pe_slice sl_tupA (pv 1) po_none (po_some (pv 3))) (pe_tup (pa_cons (pe_cl (cl_odd T N) hr (by decide) (pa_cons (pv 0) pa_nil)) pa_nil))) (pe_slice sl_tupA (pv 1) (po_some (pe_op op_add (pv 3) pe_int)) po_none)))))))), ?_⟩
    refine ⟨_, rfl, p, 4, rfl, hsrc, by decide, by decide, fun r H1 r0 r1 b1 => ?_⟩
    have d1 := hd.to b1.same
    refine ⟨_, rfl, rfl, _, rfl, ?_⟩
    refine ite2 (fun _ => ?_) (fun _ => ?_)
    · refine ⟨_, rfl, _, rfl, p, rfl, b1.src, fun H2 u d hd2 b2 q2 => ⟨(by show 1 ≤ sizeLine; rw [sizeLine_eq]; decide), fun q nq => ?_⟩⟩
      obtain ⟨b3, q3⟩ := one_new b2 q2 nq
      have b13 := b1.trans b3
      refine cat_ask b13.src (hd.to b13.same) q3 (by show ds.length + 1 ≤ 1000; omega) fun H4 y b4 q4 => ?_
      refine k H4 y _ ⟨⟨d, hd2, fun e he => ?_⟩, by rw [List.length_append]; exact Nat.le_refl _⟩ (b13.trans b4) q4
      rcases List.mem_append.mp he with z' | z'
      · exact .inl z'
      · exact .inr (List.mem_singleton.mp z')
    · refine ⟨_, rfl, rfl, _, rfl, ?_⟩
      refine ite2 (fun _ => ?_) (fun _ => ?_)
      · refine ⟨_, rfl, _, rfl, _, rfl, slice_ask b1.src d1 fun H2 u b2 q2 => k H2 u _ ⟨⟨.none, List.mem_append_left _ (List.mem_append_left _ (List.mem_append_left _ List.mem_cons_self)), fun e he => .inl (List.mem_of_mem_drop (List.mem_of_mem_take he))⟩, ?_⟩ (b1.trans b2) q2⟩
        rw [List.length_take, List.length_drop]
        omega
      · obtain ⟨a, xs, e, ht, hx⟩ : ∃ a xs, v = .ref a ∧ SqT K (hid p H1) a xs ∧ xs.length = ds.length := by
          cases d1 with
          | tup h1 h2 => exact ⟨_, _, rfl, h1, h2.len⟩
        subst e
        refine ⟨_, rfl, _, rfl, a, xs, rfl, .inr (K0.seqT_same (hid_same p H1) ht), p, _, rfl, b1.src, by rw [hx]; omega, by rw [hx]; omega, fun at' H2 a0 a1 b2 => ?_⟩
        have b12 := b1.trans b2
        refine ⟨_, rfl, _, rfl, _, rfl, slice_ask b2.src (hd.to b12.same) fun H3 u3 b3 q3 => ?_⟩
        have b13 := b12.trans b3
        refine ⟨_, rfl, p, rfl, b13.src, fun H4 u4 d4 hd4 b4 q4 => ⟨(by show 1 ≤ sizeLine; rw [sizeLine_eq]; decide), fun q nq => ?_⟩⟩
        obtain ⟨b5, q5⟩ := one_new b4 q4 nq
        have b15 := b13.trans b5
        have cl : ∀ lo hi, (cutD ds lo hi).length ≤ ds.length := fun lo hi => by
          unfold cutD
          rw [List.length_take, List.length_drop]
          omega
        have cm : ∀ lo hi, ∀ e ∈ cutD ds lo hi, e ∈ ds := fun lo hi e he => List.mem_of_mem_drop (List.mem_of_mem_take he)
        refine cat_ask b15.src (q3.to b5.same) q5 (by have := cl none (some at'); show (cutD ds none (some at')).length + 1 ≤ 1000; omega) fun H6 u6 b6 q6 => ?_
        have b16 := b15.trans b6
        refine ⟨_, rfl, _, rfl, _, _, rfl, rfl, _, rfl, ?_⟩
        dsimp only [tNoPart]
        refine slice_ask b16.src (hd.to b16.same) fun H7 u7 b7 q7 => ?_
        have b17 := b16.trans b7
        have c1 := cl none (some at')
        have c2 := cl (some (at' + 1)) none
        have c3 : (cutD ds none (some at') ++ [d4]).length + (cutD ds (some (at' + 1)) none).length ≤ ds.length + 1 := by
          obtain ⟨n, rfl⟩ : ∃ n : Nat, at' = (n : Int) := ⟨at'.toNat, by omega⟩
          have e2 : ((n : Int) + 1) = ((n + 1 : Nat) : Int) := by omega
          unfold cutD
          rw [e2, HT.sIx_nat, HT.sIx_nat, HT.sIx_none, HT.sIx_none, List.length_append, List.length_take, List.length_drop, List.length_take, List.length_drop]
          show _ + 1 + _ ≤ _
          omega
        refine cat_ask b17.src (q6.to b7.same) q7 (by omega) fun H8 u8 b8 q8 => ?_
        refine k H8 u8 _ ⟨⟨d4, hd4, fun e he => ?_⟩, by rw [List.length_append]; exact c3⟩ (b17.trans b8) q8
        rcases List.mem_append.mp he with z | z
        · rcases List.mem_append.mp z with z | z
          · exact .inl (cm _ _ e z)
          · exact .inr (List.mem_singleton.mp z)
        · exact .inl (cm _ _ e z)
end
end K1
set_option maxHeartbeats 4000000
/-! what repr tells of small data -/
namespace K1
open PySem L2
/-- small data: nested k deep at most, of weight W at most -/
structure Nice (k W : Nat) (d : PyData) : Prop where
  sh : d.showable = true
  dp : d.depth ≤ k
  lv : d.leavesShort 13 = true
  wt : d.weight ≤ W
theorem Nice.mono {k k' W W' : Nat} {d : PyData} (h : Nice k W d) (a : k ≤ k') (b : W ≤ W') : Nice k' W' d := ⟨h.sh, Nat.le_trans h.dp a, h.lv, Nat.le_trans h.wt b⟩
theorem nice_all {k W : Nat} : ∀ {ds : List PyData}, (∀ d ∈ ds, Nice k W d) → PyData.showableAll ds = true ∧ PyData.depthAll ds ≤ k ∧ PyData.leavesShortAll 13 ds = true ∧ PyData.weightAll ds ≤ ds.length * (W + 1)
  | [], _ => ⟨rfl, Nat.zero_le _, rfl, by simp [PyData.weightAll]⟩
  | d :: ds, h => by
    obtain ⟨h1, h2, h3, h4⟩ := nice_all fun e he => h e (List.mem_cons_of_mem _ he)
    have g := h d List.mem_cons_self
    refine ⟨?_, ?_, ?_, ?_⟩
    · show (d.showable && PyData.showableAll ds) = true
      rw [g.sh, h1]
      rfl
    · show max d.depth (PyData.depthAll ds) ≤ k
      exact Nat.max_le.mpr ⟨g.dp, h2⟩
    · show (d.leavesShort 13 && PyData.leavesShortAll 13 ds) = true
      rw [g.lv, h3]
      rfl
    · show d.weight + 1 + PyData.weightAll ds ≤ (ds.length + 1) * (W + 1)
      rw [Nat.succ_mul]
      have := g.wt
      omega
theorem Nice.tuple {k W : Nat} {ds : List PyData} (h : ∀ d ∈ ds, Nice k W d) : Nice (k + 1) (ds.length * (W + 1)) (.tuple ds) := by
  obtain ⟨h1, h2, h3, h4⟩ := nice_all h
  exact ⟨h1, Nat.succ_le_succ h2, h3, h4⟩
theorem Nice.list {k W : Nat} {ds : List PyData} (h : ∀ d ∈ ds, Nice k W d) : Nice (k + 1) (ds.length * (W + 1)) (.list ds) := by
  obtain ⟨h1, h2, h3, h4⟩ := nice_all h
  exact ⟨h1, Nat.succ_le_succ h2, h3, h4⟩
theorem nice_int {i : Int} (h : i.natAbs < 10000) : Nice 0 14 (.int i) := by
  have lg : i.natAbs.log2 < 14 := by
    by_cases z : i.natAbs = 0
    · rw [z]
      decide
    · exact (Nat.log2_lt z).mpr (by omega)
  refine ⟨?_, Nat.zero_le _, ?_, ?_⟩
  · show decide (i.natAbs.log2 < 1920) = true
    exact decide_eq_true (by omega)
  · show decide ((PyData.shown (.int i)).length ≤ 13) = true
    have e := int_text_length_le10 (a := i) (k := 4) (by decide) h
    refine decide_eq_true ?_
    show (Str.ofString (toString i)).length ≤ 13
    rw [PySem.ofString_length]
    omega
  · show (if i == 0 then 0 else i.natAbs.log2 + 1) ≤ 14
    split <;> omega
theorem nice_none : Nice 0 0 .none := ⟨rfl, Nat.le_refl _, rfl, Nat.le_refl _⟩
theorem nice_str {x : Str} {n : Nat} (h : x.length ≤ n) (hc : x.cps.toList.all (fun c => decide (c < 16 ^ 8)) = true) : Nice 0 n (.str x) := ⟨rfl, Nat.le_refl _, hc, h⟩
theorem nice_thing {d : PyData} (h : thingD d = true) : Nice 1 30 d := by
  obtain ⟨a, b, rfl, ha, hb⟩ := thing_int h
  refine (Nice.tuple (k := 0) (W := 14) fun d hd => ?_).mono (Nat.le_refl _) (by show 2 * (14 + 1) ≤ 30; decide)
  rcases List.mem_cons.mp hd with z | z
  · rw [z]
    exact nice_int (by omega)
  · rw [List.mem_singleton.mp z]
    exact nice_int (by omega)
theorem nice_name {d : PyData} (h : nameD d = true) : Nice 1 30 d := by
  cases d with
  | str x =>
    have e : (decide (1 ≤ x.length) && decide (x.length ≤ 4) && x.cps.toList.all letter) = true := h
    rw [Bool.and_eq_true, Bool.and_eq_true, decide_eq_true_eq, decide_eq_true_eq] at e
    refine (nice_str e.1.2 (List.all_eq_true.mpr fun c hc => ?_)).mono (by decide) (by decide)
    have q := List.all_eq_true.mp e.2 c hc
    unfold letter at q
    rw [Bool.and_eq_true, decide_eq_true_eq, decide_eq_true_eq] at q
    exact decide_eq_true (by omega)
  | _ => cases h
theorem nice_binder {d : PyData} (h : binderD d = true) : Nice 1 30 d := by
  cases e : noneD d with
  | true =>
    cases d with
    | none => exact nice_none.mono (by decide) (by decide)
    | _ => cases e
  | false =>
    rw [binder_some e] at h
    exact nice_thing h
theorem nice_from {lo hi : Int} {d : PyData} (h : fromD lo hi d = true) (h1 : 0 ≤ lo) (h2 : hi ≤ 999) : Nice 1 30 d := by
  obtain ⟨i, rfl, h3, h4⟩ := from_int h
  exact (nice_int (by omega)).mono (by decide) (by decide)
theorem nice_content {k c : PyData} (h : contentD k c = true) : Nice 1 30 k ∧ Nice 1 30 c := by
  cases k with
  | str x =>
    have e : (if x = "let" then nameD c else if x = "use" then binderD c else if x = "number" then fromD 0 99 c else holdsD (.str x) && noneD c) = true := h
    by_cases c1 : x = "let"
    · rw [if_pos c1] at e
      subst c1
      exact ⟨(nice_str (n := 7) (by decide +kernel) (by decide +kernel)).mono (by decide) (by decide), nice_name e⟩
    · rw [if_neg c1] at e
      by_cases c2 : x = "use"
      · rw [if_pos c2] at e
        subst c2
        exact ⟨(nice_str (n := 7) (by decide +kernel) (by decide +kernel)).mono (by decide) (by decide), nice_binder e⟩
      · rw [if_neg c2] at e
        by_cases c3 : x = "number"
        · rw [if_pos c3] at e
          subst c3
          exact ⟨(nice_str (n := 7) (by decide +kernel) (by decide +kernel)).mono (by decide) (by decide), nice_from e (by decide) (by decide)⟩
        · rw [if_neg c3, Bool.and_eq_true] at e
          have hn : Nice 1 30 c := by
            cases c with
            | none => exact nice_none.mono (by decide) (by decide)
            | _ => cases e.2
          have hh : (x == ("block" : Str) || x == ("let" : Str) || x == ("sum" : Str) || x == ("product" : Str)) = true := e.1
          simp only [Bool.or_eq_true, beq_iff_eq] at hh
          refine ⟨?_, hn⟩
          rcases hh with ((z | z) | z) | z <;>
            · rw [z]
              exact (nice_str (n := 7) (by decide +kernel) (by decide +kernel)).mono (by decide) (by decide)
  | _ => cases h
theorem nice_write {x : Str} {c : PyData} (h : writeD (.str x) c = true) : Nice 1 30 (.str x) ∧ Nice 1 30 c := by
  have e : (if x = "wish" then nameD c else if x = "point" then binderD c else decide (x = "set") && fromD 0 99 c) = true := h
  by_cases c1 : x = "wish"
  · rw [if_pos c1] at e
    subst c1
    exact ⟨(nice_str (n := 7) (by decide +kernel) (by decide +kernel)).mono (by decide) (by decide), nice_name e⟩
  · rw [if_neg c1] at e
    by_cases c2 : x = "point"
    · rw [if_pos c2] at e
      subst c2
      exact ⟨(nice_str (n := 7) (by decide +kernel) (by decide +kernel)).mono (by decide) (by decide), nice_binder e⟩
    · rw [if_neg c2, Bool.and_eq_true, decide_eq_true_eq] at e
      obtain ⟨z, f⟩ := e
      subst z
      exact ⟨(nice_str (n := 7) (by decide +kernel) (by decide +kernel)).mono (by decide) (by decide), nice_from f (by decide) (by decide)⟩
theorem nice_word {x : Str} (h : x.length ≤ 7) (hc : x.cps.toList.all (fun c => decide (c < 16 ^ 8)) = true) : Nice 1 30 (.str x) := (nice_str h hc).mono (by decide) (by decide)
/-- a right body's items -/
theorem nice_body {x : Str} {r : List PyData} (h : bodyR x r = true) : (∀ e ∈ PyData.str x :: r, Nice 1 30 e) ∧ r.length ≤ 4 := by
  have two : ∀ {a b : PyData} {l : List PyData}, Nice 1 30 a → (∀ e ∈ l, Nice 1 30 e) → ∀ e ∈ a :: l, Nice 1 30 e := fun h1 h2 e he => by
    rcases List.mem_cons.mp he with z | z
    · rw [z]
      exact h1
    · exact h2 e z
  have no : ∀ e ∈ ([] : List PyData), Nice 1 30 e := fun e he => absurd he List.not_mem_nil
  unfold bodyR at h
  by_cases c1 : x = "make"
  · rw [if_pos c1] at h
    have z : r.length = 4 := Classical.byContradiction fun z => by
      rw [makeR_ne z] at h
      cases h
    obtain ⟨d1, d2, d3, d4, rfl⟩ := list4 z
    have em : makeR [d1, d2, d3, d4] = (thingD d2 && (fromD 0 999 d3 && contentD d1 d4)) := rfl
    rw [em, Bool.and_eq_true, Bool.and_eq_true] at h
    obtain ⟨n1, n4⟩ := nice_content h.2.2
    subst c1
    exact ⟨two (b := .none) (nice_word (by decide +kernel) (by decide +kernel)) (two (b := .none) n1 (two (b := .none) (nice_thing h.1) (two (b := .none) (nice_from h.2.1 (by decide) (by decide)) (two (b := .none) n4 no)))), Nat.le_of_eq z⟩
  · rw [if_neg c1] at h
    by_cases c2 : x = "move"
    · rw [if_pos c2] at h
      have z : r.length = 3 := Classical.byContradiction fun z => by
        rw [moveR_ne z] at h
        cases h
      obtain ⟨d1, d2, d3, rfl⟩ := list3 z
      have em : moveR [d1, d2, d3] = (thingD d1 && (thingD d2 && fromD 0 999 d3)) := rfl
      rw [em, Bool.and_eq_true, Bool.and_eq_true] at h
      subst c2
      exact ⟨two (b := .none) (nice_word (by decide +kernel) (by decide +kernel)) (two (b := .none) (nice_thing h.1) (two (b := .none) (nice_thing h.2.1) (two (b := .none) (nice_from h.2.2 (by decide) (by decide)) no))), by omega⟩
    · rw [if_neg c2] at h
      by_cases c3 : x = "drop"
      · rw [if_pos c3] at h
        have z : r.length = 1 := Classical.byContradiction fun z => by
          rw [dropR_ne z] at h
          cases h
        obtain ⟨d1, rfl⟩ := list1 z
        subst c3
        exact ⟨two (b := .none) (nice_word (by decide +kernel) (by decide +kernel)) (two (b := .none) (nice_thing h) no), by omega⟩
      · rw [if_neg c3] at h
        by_cases c4 : x = "undo" ∨ x = "redo"
        · rw [if_pos c4] at h
          have z : r.length = 1 := Classical.byContradiction fun z => by
            rw [markR_ne z] at h
            cases h
          obtain ⟨d1, rfl⟩ := list1 z
          have hs : stampD d1 = true := h
          have ht : thingD d1 = true := by
            unfold thingD
            rw [hs, Bool.true_or]
          have hw : Nice 1 30 (.str x) := by
            rcases c4 with z | z <;>
              · rw [z]
                exact nice_word (by decide +kernel) (by decide +kernel)
          exact ⟨two (b := .none) hw (two (b := .none) (nice_thing ht) no), by omega⟩
        · rw [if_neg c4] at h
          have z : r.length = 2 := Classical.byContradiction fun z => by
            rw [writeR_ne z] at h
            cases h
          obtain ⟨d1, d2, rfl⟩ := list2 z
          have em : writeR x [d1, d2] = (thingD d1 && writeD (.str x) d2) := rfl
          rw [em, Bool.and_eq_true] at h
          obtain ⟨n1, n2⟩ := nice_write h.2
          exact ⟨two (b := .none) n1 (two (b := .none) (nice_thing h.1) (two (b := .none) n2 no)), by omega⟩
/-- a right deed's three items, and itself -/
theorem nice_deed {d : PyData} (h : deedD d = true) : ∃ s k b, d = .tuple [s, k, b] ∧ Nice 1 30 s ∧ Nice 1 60 k ∧ Nice 2 160 b := by
  obtain ⟨t, j, a, b, c, e, x, r, rfl, ht, hj, hk, hb⟩ := deed_shape h
  refine ⟨_, _, _, rfl, ?_, ?_, ?_⟩
  · refine (Nice.tuple (k := 0) (W := 14) fun d hd => ?_).mono (Nat.le_refl _) (by show 2 * (14 + 1) ≤ 30; decide)
    rcases List.mem_cons.mp hd with z | z
    · rw [z]
      exact nice_int (by omega)
    · rw [List.mem_singleton.mp z]
      exact nice_int (by omega)
  · refine (Nice.tuple (k := 0) (W := 14) fun d hd => ?_).mono (Nat.le_refl _) (by show 4 * (14 + 1) ≤ 60; decide)
    obtain ⟨i, rfl, h3, h4⟩ := from_int (List.all_eq_true.mp hk d hd)
    exact nice_int (by omega)
  · obtain ⟨h1, h2⟩ := nice_body hb
    refine (Nice.tuple h1).mono (Nat.le_refl _) ?_
    show (r.length + 1) * (30 + 1) ≤ 160
    omega
end K1
set_option maxHeartbeats 4000000
namespace K1
open PySem L2
theorem shows_of {K : PySem.W.Frag} {H : Hp} {v : V} {d : PyData} {k W : Nat} (h : DQ K H v d) (n : Nice k W d) (hk : k ≤ 8) (hW : W ≤ 2 ^ 20) (p : d.hasDict = true → noList d = true) : Shows K H v d :=
  ⟨h, p, n.sh, Nat.le_trans n.dp hk, PyData.shown_fits (B := 13) (by decide) (by decide) n.lv (Nat.le_trans n.wt hW)⟩
/-- neither dicts nor lists -/
def Pure (d : PyData) : Prop := d.hasDict = false ∧ noList d = true
theorem pure_all : ∀ {ds : List PyData}, (∀ d ∈ ds, Pure d) → PyData.hasDictAll ds = false ∧ noListAll ds = true
  | [], _ => ⟨rfl, rfl⟩
  | d :: ds, h => by
    obtain ⟨h1, h2⟩ := pure_all fun e he => h e (List.mem_cons_of_mem _ he)
    obtain ⟨g1, g2⟩ := h d List.mem_cons_self
    refine ⟨?_, ?_⟩
    · show (d.hasDict || PyData.hasDictAll ds) = false
      rw [g1, h1]
      rfl
    · show (noList d && noListAll ds) = true
      rw [g2, h2]
      rfl
theorem Pure.tuple {ds : List PyData} (h : ∀ d ∈ ds, Pure d) : Pure (.tuple ds) := pure_all h
theorem pure_int (i : Int) : Pure (.int i) := ⟨rfl, rfl⟩
theorem pure_str (x : Str) : Pure (.str x) := ⟨rfl, rfl⟩
theorem pure_none : Pure .none := ⟨rfl, rfl⟩
theorem pure_thing {d : PyData} (h : thingD d = true) : Pure d := by
  obtain ⟨a, b, rfl, _⟩ := thing_int h
  exact ⟨rfl, rfl⟩
theorem pure_name {d : PyData} (h : nameD d = true) : Pure d := by
  cases d with
  | str x => exact pure_str x
  | _ => cases h
theorem pure_from {lo hi : Int} {d : PyData} (h : fromD lo hi d = true) : Pure d := by
  obtain ⟨i, rfl, _⟩ := from_int h
  exact pure_int i
theorem pure_noneD {d : PyData} (h : noneD d = true) : Pure d := by
  cases d with
  | none => exact pure_none
  | _ => cases h
theorem pure_binder {d : PyData} (h : binderD d = true) : Pure d := by
  cases e : noneD d with
  | true => exact pure_noneD e
  | false =>
    rw [binder_some e] at h
    exact pure_thing h
theorem pure_content {k c : PyData} (h : contentD k c = true) : Pure k ∧ Pure c := by
  cases k with
  | str x =>
    refine ⟨pure_str x, ?_⟩
    have e : (if x = "let" then nameD c else if x = "use" then binderD c else if x = "number" then fromD 0 99 c else holdsD (.str x) && noneD c) = true := h
    by_cases c1 : x = "let"
    · rw [if_pos c1] at e
      exact pure_name e
    · rw [if_neg c1] at e
      by_cases c2 : x = "use"
      · rw [if_pos c2] at e
        exact pure_binder e
      · rw [if_neg c2] at e
        by_cases c3 : x = "number"
        · rw [if_pos c3] at e
          exact pure_from e
        · rw [if_neg c3, Bool.and_eq_true] at e
          exact pure_noneD e.2
  | _ => cases h
theorem pure_write {x : Str} {c : PyData} (h : writeD (.str x) c = true) : Pure c := by
  have e : (if x = "wish" then nameD c else if x = "point" then binderD c else decide (x = "set") && fromD 0 99 c) = true := h
  by_cases c1 : x = "wish"
  · rw [if_pos c1] at e
    exact pure_name e
  · rw [if_neg c1] at e
    by_cases c2 : x = "point"
    · rw [if_pos c2] at e
      exact pure_binder e
    · rw [if_neg c2, Bool.and_eq_true] at e
      exact pure_from e.2
theorem pure_body {x : Str} {r : List PyData} (h : bodyR x r = true) : ∀ e ∈ PyData.str x :: r, Pure e := by
  have two : ∀ {a : PyData} {l : List PyData}, Pure a → (∀ e ∈ l, Pure e) → ∀ e ∈ a :: l, Pure e := fun h1 h2 e he => by
    rcases List.mem_cons.mp he with z | z
    · rw [z]
      exact h1
    · exact h2 e z
  have no : ∀ e ∈ ([] : List PyData), Pure e := fun e he => absurd he List.not_mem_nil
  refine two (pure_str x) ?_
  unfold bodyR at h
  by_cases c1 : x = "make"
  · rw [if_pos c1] at h
    have z : r.length = 4 := Classical.byContradiction fun z => by
      rw [makeR_ne z] at h
      cases h
    obtain ⟨d1, d2, d3, d4, rfl⟩ := list4 z
    have em : makeR [d1, d2, d3, d4] = (thingD d2 && (fromD 0 999 d3 && contentD d1 d4)) := rfl
    rw [em, Bool.and_eq_true, Bool.and_eq_true] at h
    obtain ⟨n1, n4⟩ := pure_content h.2.2
    exact two n1 (two (pure_thing h.1) (two (pure_from h.2.1) (two n4 no)))
  · rw [if_neg c1] at h
    by_cases c2 : x = "move"
    · rw [if_pos c2] at h
      have z : r.length = 3 := Classical.byContradiction fun z => by
        rw [moveR_ne z] at h
        cases h
      obtain ⟨d1, d2, d3, rfl⟩ := list3 z
      have em : moveR [d1, d2, d3] = (thingD d1 && (thingD d2 && fromD 0 999 d3)) := rfl
      rw [em, Bool.and_eq_true, Bool.and_eq_true] at h
      exact two (pure_thing h.1) (two (pure_thing h.2.1) (two (pure_from h.2.2) no))
    · rw [if_neg c2] at h
      by_cases c3 : x = "drop"
      · rw [if_pos c3] at h
        have z : r.length = 1 := Classical.byContradiction fun z => by
          rw [dropR_ne z] at h
          cases h
        obtain ⟨d1, rfl⟩ := list1 z
        exact two (pure_thing h) no
      · rw [if_neg c3] at h
        by_cases c4 : x = "undo" ∨ x = "redo"
        · rw [if_pos c4] at h
          have z : r.length = 1 := Classical.byContradiction fun z => by
            rw [markR_ne z] at h
            cases h
          obtain ⟨d1, rfl⟩ := list1 z
          have hs : stampD d1 = true := h
          refine two (pure_thing ?_) no
          unfold thingD
          rw [hs, Bool.true_or]
        · rw [if_neg c4] at h
          have z : r.length = 2 := Classical.byContradiction fun z => by
            rw [writeR_ne z] at h
            cases h
          obtain ⟨d1, d2, rfl⟩ := list2 z
          have em : writeR x [d1, d2] = (thingD d1 && writeD (.str x) d2) := rfl
          rw [em, Bool.and_eq_true] at h
          exact two (pure_thing h.1) (two (pure_write h.2) no)
theorem pure_deed {d : PyData} (h : deedD d = true) : ∃ s k b, d = .tuple [s, k, b] ∧ Pure s ∧ Pure k ∧ Pure b := by
  obtain ⟨t, j, a, b, c, e, x, r, rfl, ht, hj, hk, hb⟩ := deed_shape h
  refine ⟨_, _, _, rfl, ⟨rfl, rfl⟩, Pure.tuple fun d hd => pure_from (List.all_eq_true.mp hk d hd), Pure.tuple (pure_body hb)⟩
/-- the odd ones, each small, none with a dict and a list -/
def oddOk (d : PyData) : Bool := d.showable && decide (d.depth ≤ 2) && d.leavesShort 13 && decide (d.weight ≤ 60) && (!d.hasDict || noList d)
theorem odd_ok : oddL.all oddOk = true := by decide +kernel
theorem odd_nice {d : PyData} (h : d ∈ oddL) : Nice 2 60 d ∧ (d.hasDict = true → noList d = true) := by
  have z := List.all_eq_true.mp odd_ok d h
  unfold oddOk at z
  simp only [Bool.and_eq_true, decide_eq_true_eq] at z
  refine ⟨⟨z.1.1.1.1, z.1.1.1.2, z.1.1.2, z.1.2⟩, fun q => ?_⟩
  have y := z.2
  rw [q] at y
  exact y
/-- a bent thing is told by repr -/
theorem bent_nice {ds es : List PyData} {k W : Nat} (b : Bent ds es) (hn : ∀ d ∈ ds, Nice k W d) (hp : ∀ d ∈ ds, Pure d) (h2 : 2 ≤ k) (hW : 60 ≤ W) : Nice (k + 1) ((ds.length + 1) * (W + 1)) (.tuple es) ∧ ((PyData.tuple es).hasDict = true → noList (.tuple es) = true) := by
  obtain ⟨⟨o, ho, all⟩, hl⟩ := b
  obtain ⟨no, po⟩ := odd_nice ho
  refine ⟨(Nice.tuple fun d hd => ?_).mono (Nat.le_refl _) (Nat.mul_le_mul_right _ hl), fun hd => ?_⟩
  · rcases all d hd with z | z
    · exact hn d z
    · rw [z]
      exact no.mono h2 hW
  · cases e : o.hasDict with
    | true =>
      have on := po e
      have each : ∀ {l : List PyData}, (∀ d ∈ l, d ∈ ds ∨ d = o) → noListAll l = true := by
        intro l
        induction l with
        | nil => exact fun _ => rfl
        | cons d l ih =>
          intro hl
          show (noList d && noListAll l) = true
          rw [ih fun x hx => hl x (List.mem_cons_of_mem _ hx), Bool.and_true]
          rcases hl d List.mem_cons_self with z | z
          · exact (hp d z).2
          · rw [z]
            exact on
      exact each all
    | false =>
      have each : ∀ {l : List PyData}, (∀ d ∈ l, d ∈ ds ∨ d = o) → PyData.hasDictAll l = false := by
        intro l
        induction l with
        | nil => exact fun _ => rfl
        | cons d l ih =>
          intro hl
          show (d.hasDict || PyData.hasDictAll l) = false
          rw [ih fun x hx => hl x (List.mem_cons_of_mem _ hx), Bool.or_false]
          rcases hl d List.mem_cons_self with z | z
          · exact (hp d z).1
          · rw [z]
            exact e
      have z : PyData.hasDictAll es = true := hd
      rw [each all] at z
      cases z
end K1
set_option maxHeartbeats 4000000
namespace K1
open PySem L2
structure Nm2 (mg : Str → Option Value) : Prop where
  len : mg "len" = none
  max : mg "max" = none
  min : mg "min" = none
  list : mg "list" = none
  range : mg "range" = none
/-- the rounds: 0 .. n - 1, n from one to three -/
def spRounds (K : PySem.W.Frag) : Sp := fun vs H Q _ => ∃ (a : Addr) (xs : List V), vs = [.ref a] ∧ SqL K H a xs ∧ ∀ (n : Nat) p, n ≤ 3 → H p = none → Q (.ref p) (upd H p (.lst ((List.range n).map fun i : Nat => V.int (i : Int))))
section
variable {P : Program} {w : World} {K : PySem.W.Frag} {mg : Str → Option Value} {base : Heap}
theorem sc_rounds : FnScope ["_law_script"] ["_law_script"] (defScope (top 51)) := ⟨rfl, rfl, rfl, by decide +kernel, rfl, by decide +kernel, by decide +kernel⟩
theorem cl_rounds (T : All K mg) (N : Nm2 mg) : Cl P w K mg base 1 "_law_rounds" ["_law_script"] (spRounds K) := by
  obtain ⟨g, fd, D⟩ := T.dn 51 _ _ rfl
  refine D.cl (D.fn.ok sc_rounds (fun vs H Q E h => ?_) (fun cdv A outer s H vs Q E hr h => ?_))
  · obtain ⟨a, xs, rfl, _⟩ := h
    rfl
  · obtain ⟨a, xs, rfl, hS, k⟩ := h
    refine ⟨_, pss_one (ps_ret (pe_listRg rfl (by rfl) N.list (prg_1 (by rfl) N.range (pe_callB (call_max2 rfl) (by rfl) N.max (by decide +kernel) (pa_cons pe_int (pa_cons (pe_callB (call_min2 rfl) (by rfl) N.min (by decide +kernel) (pa_cons (pe_callB call_len_seq (by rfl) N.len PySem.boot_len (pa_cons (pv 0) pa_nil)) (pa_cons pe_int pa_nil))) pa_nil)))))), ?_⟩
    refine ⟨_, rfl, a, xs, rfl, .inl hS, _, _, rfl, _, _, rfl, _, rfl, ?_⟩
    generalize hm : (if (if (3 : Int) < (xs.length : Int) then (3 : Int) else (xs.length : Int)) > 1 then (if (3 : Int) < (xs.length : Int) then (3 : Int) else (xs.length : Int)) else 1) = m
    have hb : 0 ≤ m ∧ m ≤ 3 := by
      rw [← hm]
      split <;> split <;> omega
    refine ⟨RgOk.of_le (by decide) (by omega) (by decide) hb.1, fun q nq => ?_⟩
    have e : rgV 0 m = (List.range m.toNat).map fun i : Nat => V.int (i : Int) := by
      unfold rgV
      rw [Int.sub_zero]
      refine List.map_congr_left fun i _ => ?_
      rw [Int.zero_add]
    rw [e]
    exact k m.toNat q (by omega) nq
end
end K1
set_option maxHeartbeats 4000000
namespace K1
open PySem L2
mutual
/-- data without dicts, for the hand layer's rules of == -/
theorem DQ.dp {K : PySem.W.Frag} {H : Hp} : ∀ (d : PyData) (v : V), d.hasDict = false → DQ K H v d → Dp K H v d
  | .none, _, _, h => by
    cases h
    exact .non
  | .bool b, _, _, h => by
    cases h
    exact .bl b
  | .int i, _, _, h => by
    cases h
    exact .int i
  | .str x, _, _, h => by
    cases h
    exact .str x
  | .list ds, _, n, h => by
    cases h with
    | lst h1 h2 => exact .lst h1 (DQs.dp ds _ n h2)
  | .tuple ds, _, n, h => by
    cases h with
    | tup h1 h2 => exact .tup h1 (DQs.dp ds _ n h2)
  | .dict _, _, n, _ => by cases n
theorem DQs.dp {K : PySem.W.Frag} {H : Hp} : ∀ (ds : List PyData) (vs : List V), PyData.hasDictAll ds = false → DQs K H vs ds → DpAll K H vs ds
  | [], _, _, h => by
    cases h
    exact .nil
  | d :: ds, _, n, h => by
    have z : (d.hasDict || PyData.hasDictAll ds) = false := n
    rw [Bool.or_eq_false_iff] at z
    cases h with
    | cons h1 h2 => exact .cons (DQ.dp d _ z.1 h1) (DQs.dp ds _ z.2 h2)
end
/-- pairs of ints in a list: equal to themselves -/
theorem pairs_shaped : ∀ {ks : List (List Int)}, (∀ k ∈ ks, ∃ a b : Int, k = [a, b]) → SeqAt.shaped (.list (ks.map pairD)) = true := by
  intro ks h
  have z : PyData.canLayAll0 (ks.map pairD) = true ∧ PyData.depthAll (ks.map pairD) ≤ 1 := by
    induction ks with
    | nil => exact ⟨rfl, by decide⟩
    | cons k ks ih =>
      obtain ⟨a, b, rfl⟩ := h k List.mem_cons_self
      obtain ⟨h1, h2⟩ := ih fun x hx => h x (List.mem_cons_of_mem _ hx)
      refine ⟨?_, ?_⟩
      · show ((pairD [a, b]).canLay0 && PyData.canLayAll0 (ks.map pairD)) = true
        rw [h1]
        rfl
      · show max (pairD [a, b]).depth (PyData.depthAll (ks.map pairD)) ≤ 1
        exact Nat.max_le.mpr ⟨Nat.le_refl _, h2⟩
  show (PyData.canLay0 (.list (ks.map pairD)) && decide (PyData.depth (.list (ks.map pairD)) ≤ 64)) = true
  have e1 : PyData.canLay0 (.list (ks.map pairD)) = true := z.1
  have e2 : PyData.depth (.list (ks.map pairD)) ≤ 64 := by
    show PyData.depthAll (ks.map pairD) + 1 ≤ 64
    omega
  rw [e1, decide_eq_true e2]
  rfl
/-- two answers in order, of the same pairs, are equal -/
theorem keys_unique {ks ls : List (List Int)} {S : List (List Int)} (h1 : ks.Pairwise lt1000) (h2 : ls.Pairwise lt1000) (m1 : ∀ k, k ∈ ks ↔ k ∈ S) (m2 : ∀ k, k ∈ ls ↔ k ∈ S) : ks = ls :=
  rising_unique (TS.code 1000) h1 h2 fun x => (m1 x).trans (m2 x).symm
end K1
set_option maxHeartbeats 4000000
namespace K1
open PySem L2
/-- right deeds in a list at a, beside the source -/
structure Some (K : PySem.W.Frag) (p : Addr) (H : Hp) (a : Addr) (us : List V) (ds : List PyData) : Prop where
  src : Src H p
  seq : SqL K (hid p H) a us
  all : DQs K (hid p H) us ds
  right : ∀ d ∈ ds, deedD d = true
  few : ds.length ≤ 30
theorem Some.to {K : PySem.W.Frag} {p : Addr} {H H' : Hp} {a : Addr} {us : List V} {ds : List PyData} (h : Some K p H a us ds) (b : Bt p H H') : Some K p H' a us ds := ⟨b.src, b.same.seq h.seq, h.all.to b.same, h.right, h.few⟩
/-- a list of data at q, beside the source -/
structure LstOf (K : PySem.W.Frag) (p : Addr) (H : Hp) (q : Addr) (vs : List V) (es : List PyData) : Prop where
  at_ : H q = some (.lst vs)
  ne : q ≠ p
  all : DQs K (hid p H) vs es
theorem LstOf.to {K : PySem.W.Frag} {p : Addr} {H H' : Hp} {q : Addr} {vs : List V} {es : List PyData} (h : LstOf K p H q vs es) (b : Bt p H H') : LstOf K p H' q vs es := ⟨b.at h.ne h.at_, h.ne, h.all.to b.same⟩
theorem Bt.ne {p q : Addr} {H H' : Hp} (b : Bt p H H') (n : H' q = none) : q ≠ p := fun e => by
  obtain ⟨x, y, z, _⟩ := b.src
  rw [e, z] at n
  cases n
/-- the parts of a right deed -/
theorem deed_parts {K : PySem.W.Frag} {H : Hp} {v : V} {d : PyData} (h : DQ K H v d) (r : deedD d = true) : ∃ (a : Addr) (xs : List V) (us ub : V) (s k : PyData) (x : Str) (l : List PyData), v = .ref a ∧ SqT K H a xs ∧ atI xs 0 = some us ∧ atI xs 2 = some ub ∧ DQ K H us s ∧ stampD s = true ∧ DQ K H ub (.tuple (.str x :: l)) ∧ bodyR x l = true ∧ d = .tuple [s, k, .tuple (.str x :: l)] := by
  obtain ⟨t, j, a, b, c, e, x, l, rfl, ht, hj, hk, hb⟩ := deed_shape r
  cases h with
  | tup h1 h2 =>
    cases h2 with
    | cons q1 h2 =>
      cases h2 with
      | cons q2 h2 =>
        cases h2 with
        | cons q3 h2 =>
          refine ⟨_, _, _, _, _, _, x, l, rfl, h1, atI_nat (j := 0) rfl, atI_nat (j := 2) rfl, q1, ?_, q3, hb, rfl⟩
          rw [stamp_of]
          show ((decide (1 ≤ t) && decide (t ≤ 999)) && (decide (0 ≤ j) && decide (j ≤ 3))) = true
          rw [decide_eq_true ht.1, decide_eq_true ht.2, decide_eq_true hj.1, decide_eq_true hj.2]
          rfl
theorem stamp_thing {d : PyData} (h : stampD d = true) : thingD d = true := by
  unfold thingD
  rw [h, Bool.true_or]
/-- the kind of a right make -/
theorem make_kind {l : List PyData} (h : bodyR "make" l = true) : ∃ y u k c, l = [.str y, u, k, c] ∧ thingD u = true ∧ fromD 0 999 k = true ∧ contentD (.str y) c = true := by
  have hm : makeR l = true := h
  have z : l.length = 4 := Classical.byContradiction fun z => by
    rw [makeR_ne z] at hm
    cases hm
  obtain ⟨d1, d2, d3, d4, rfl⟩ := list4 z
  have em : makeR [d1, d2, d3, d4] = (thingD d2 && (fromD 0 999 d3 && contentD d1 d4)) := rfl
  rw [em, Bool.and_eq_true, Bool.and_eq_true] at hm
  cases d1 with
  | str y => exact ⟨y, d2, d3, d4, rfl, hm.1, hm.2.1, hm.2.2⟩
  | _ => cases hm.2.2
/-- the list that is being made, one more in it -/
theorem Bt.over {p D : Addr} {H H' : Hp} {o : HO} (b : Bt p H H') (n : H D = none) (ne : D ≠ p) : Bt p H (upd H' D o) := by
  obtain ⟨x, y, e, r⟩ := b.src
  refine ⟨fun c u hc => ?_, x, y, by rw [upd_ne (Ne.symm ne)]; exact e, r⟩
  obtain ⟨c1, c2⟩ := hid_at hc
  rw [hid_ne c1, upd_ne (ne_of_none c2 n)]
  exact b.at c1 c2
def spHolders (K : PySem.W.Frag) : Sp := fun vs H Q _ => ∃ p a us ds, vs = [.ref a] ∧ Some K p H a us ds ∧ ∀ H' q vs' es, Bt p H H' → LstOf K p H' q vs' es → (∀ e ∈ es, thingD e = true) → 0 < es.length → es.length ≤ ds.length + 1 → Q (.ref q) H'
section
variable {P : Program} {w : World} {K : PySem.W.Frag} {mg : Str → Option Value} {base : Heap}
theorem sc_hold2 : FnScope ["_law_some", "_law_kinds", "_law_deed"] ["_law_some"] (defScope (top 57)) := ⟨rfl, rfl, rfl, by decide +kernel, rfl, by decide +kernel, by decide +kernel⟩
theorem cl_holders (T : All K mg) : Cl P w K mg base 1 "_law_holders" ["_law_some"] (spHolders K) := by
  obtain ⟨g, fd, D⟩ := T.dn 57 _ _ rfl
  refine D.cl (D.fn.ok sc_hold2 (fun vs H Q E h => ?_) (fun cdv A outer s H vs Q E hr h => ?_))
  · obtain ⟨p, a, us, ds, rfl, _⟩ := h
    rfl
  · obtain ⟨p, a, us, ds, rfl, hs, k⟩ := h
    refine ⟨_, (pss_cons (ps_set (i := 1) sc_hold2.nd rfl (Or.inr rfl) (pe_lst (pa_cons pe_str (pa_cons pe_str (pa_cons pe_str (pa_cons pe_str pa_nil))))))
      (pss_one (ps_ret (pe_op op_cat (pe_lst (pa_cons (pe_tup (pa_cons pe_int (pa_cons pe_int pa_nil))) pa_nil)) (pe_lc (own := [("_law_deed", 2)]) (g := gName 2) (te := tOp (rIxT K) (tVar 2) (tC (.int 0))) (tt := tAnd (tTest (tOp rEq (tOp (rIxT K) (tOp (rIxT K) (tVar 2) (tC (.int 2))) (tC (.int 0))) (tC (.str "make")))) (tTest (tOp (rIn K false) (tOp (rIxT K) (tOp (rIxT K) (tVar 2) (tC (.int 2))) (tC (.int 1))) (tVar 1)))) rfl sc_hold2.nd (pi_list (pv 0)) (blkOk_by (own := [("_law_deed", 2)]) (N := [("_law_some" : Str), ("_law_kinds" : Str), ("_law_deed" : Str)]) (sc := defScope (top 57)) (by decide +kernel)) (fun _ _ _ _ _ => pg_name (i := 2) sc_hold2.nd rfl (Or.inl rfl)) (fun _ _ _ _ _ => pts_one (PW.pt (pw_and (pt_cmpR op_eq (pe_ix ix_tup (pe_ix ix_tup (pv 2) pe_int (fun _ _ => rfl)) pe_int (fun _ _ => rfl)) pe_str (nomark _)) (pw_and1 (pt_cmpR op_in_seq (pe_ix ix_tup (pe_ix ix_tup (pv 2) pe_int (fun _ _ => rfl)) pe_int (fun _ _ => rfl)) (pv 1) rfl))))) (fun _ _ _ _ _ => (pe_ix ix_tup (pv 2) pe_int (fun _ _ => rfl)))))))), ?_⟩
    refine ⟨(by show 4 ≤ sizeLine; rw [sizeLine_eq]; decide), fun q1 n1 => ?_⟩
    have b1 := (Bt.refl hs.src).new (o := .lst [.str "block", .str "let", .str "sum", .str "product"]) n1
    have e1 := @upd_same H q1 (.lst [.str "block", .str "let", .str "sum", .str "product"])
    generalize upd H q1 (.lst [.str "block", .str "let", .str "sum", .str "product"]) = H1 at b1 e1 ⊢
    have ne1 := (Bt.refl hs.src).ne n1
    refine ⟨(by show 2 ≤ sizeLine; rw [sizeLine_eq]; decide), fun q2 n2 => ⟨(by show 1 ≤ sizeLine; rw [sizeLine_eq]; decide), fun q3 n3 => ?_⟩⟩
    have b2 := b1.new (o := .tup [.int 0, .int 0]) n2
    have e2 := @upd_same H1 q2 (.tup [.int 0, .int 0])
    have ne2 := b1.ne n2
    have c12 := (Bt.refl b1.src).new (o := .tup [.int 0, .int 0]) n2
    generalize upd H1 q2 (.tup [.int 0, .int 0]) = H2 at b2 e2 c12 n3 ⊢
    have b3 := b2.new (o := .lst [.ref q2]) n3
    have e3 := @upd_same H2 q3 (.lst [.ref q2])
    have ne3 := b2.ne n3
    have c23 := (Bt.refl b2.src).new (o := .lst [.ref q2]) n3
    generalize upd H2 q3 (.lst [.ref q2]) = H3 at b3 e3 c23 ⊢
    have k3 : H3 q1 = some (.lst [.str "block", .str "let", .str "sum", .str "product"]) := c23.at ne1 (c12.at ne1 e1)
    have t3 : H3 q2 = some (.tup [.int 0, .int 0]) := c23.at ne2 e2
    have s3 := hs.to b3
    refine ⟨_, rfl, a, rfl, ⟨us, (hid_same p H3).seq s3.seq⟩, fun Dd nD => ?_⟩
    have neD := b3.ne nD
    refine lc_list (K := K) (a := a) (xs := us) (fun i H' => Bt p H3 H' ∧ ∃ acc es, H' Dd = some (.lst acc) ∧ DQs K (hid p H3) acc es ∧ (∀ e ∈ es, thingD e = true) ∧ es.length ≤ i) ⟨(Bt.refl b3.src).new nD, [], [], upd_same, .nil, fun e he => absurd he List.not_mem_nil, Nat.le_refl _⟩
      (fun i H' _ ⟨b, _⟩ => (hid_same p H').seq (b.same.seq s3.seq)) ?_ ?_
    · rintro i u H' hu ⟨b, acc, es, hl, hes, hth, hlen⟩
      refine ⟨rfl, ?_⟩
      obtain ⟨d, hd, hq⟩ := s3.all.at hu
      have hi := (List.getElem?_eq_some_iff.mp hu).1
      have lu := s3.all.len
      have hf := s3.few
      have hr := s3.right d (List.mem_of_getElem? hd)
      obtain ⟨ad, xs, uS, uB, sd, kd, x, l, rfl, ht, i0, i2, qs, st, qb, hb, ed⟩ := deed_parts hq hr
      have Sv := b.same.trans (hid_same p H')
      have ht' := K0.seqT_same Sv ht
      obtain ⟨ab, ys, u0, rfl, hy, j0, qx⟩ := (qb.to Sv).item (i := 0) rfl
      cases qx
      refine ⟨_, rfl, ad, xs, _, _, rfl, rfl, ht', i2, ab, ys, _, _, rfl, rfl, hy, j0, rfl, _, rfl, ?_⟩
      rw [dec_str]
      have stay : Bt p H3 H' ∧ ∃ acc es, H' Dd = some (.lst acc) ∧ DQs K (hid p H3) acc es ∧ (∀ e ∈ es, thingD e = true) ∧ es.length ≤ i + 1 := ⟨b, acc, es, hl, hes, hth, Nat.le_succ_of_le hlen⟩
      by_cases c1 : x = "make"
      · rw [decide_eq_true c1]
        subst c1
        obtain ⟨y, tu, ky, cc, rfl, _⟩ := make_kind hb
        obtain ⟨ab', ys', u1, e', hy', j1, qk⟩ := (qb.to Sv).item (i := 1) rfl
        cases e'
        cases qk
        refine iteT ⟨_, rfl, ad, xs, _, _, rfl, rfl, ht', i2, ab, ys', _, _, rfl, rfl, hy', j1, _, rfl, q1, _, rfl, .inl (SqL.of (b.at ne1 k3)), rfl, rfl, _, rfl, ?_⟩
        refine ite2 (fun _ => ?_) (fun _ => stay)
        refine ⟨_, rfl, ad, xs, _, _, rfl, rfl, ht', i0, acc, hl, by rw [hes.len, sizeLine_eq]; omega, b.over nD neD, _, es ++ [sd], upd_same, hes.app (.cons qs .nil), fun e he => ?_, by rw [List.length_append]; exact Nat.succ_le_succ hlen⟩
        rcases List.mem_append.mp he with z | z
        · exact hth e z
        · rw [List.mem_singleton.mp z]
          exact stamp_thing st
      · rw [decide_eq_false c1]
        exact iteF stay
    · rintro H' ⟨b, acc, es, hl, hes, hth, hlen⟩
      have lu := s3.all.len
      have hf := s3.few
      refine ⟨q3, Dd, _, acc, rfl, rfl, b.at ne3 e3, hl, by rw [hes.len, sizeLine_eq]; show 1 + es.length ≤ _; omega, fun q4 n4 => ?_⟩
      have b4 := (b3.trans b).new (o := .lst ([.ref q2] ++ acc)) n4
      have c4 := b.new (o := .lst ([.ref q2] ++ acc)) n4
      refine k _ q4 _ (.tuple [.int 0, .int 0] :: es) b4 ⟨upd_same, b.ne n4, .cons (.tup (.inl (.inl ?_)) (.cons (.int 0) (.cons (.int 0) .nil))) (hes.to c4.same)⟩ (fun e he => ?_) (Nat.succ_pos _) (by show es.length + 1 ≤ ds.length + 1; omega)
      · rw [hid_ne ne2]
        exact c4.at ne2 t3
      · rcases List.mem_cons.mp he with z | z
        · rw [z]
          decide +kernel
        · exact hth e z
end
end K1
set_option maxHeartbeats 4000000
namespace K1
open PySem L2
/-- the first two items of a right body: plain, for == -/
def two (x : Str) (l : List PyData) : PyData := .tuple ((PyData.str x :: l).take 2)
theorem shaped_two {x : Str} {d : PyData} {l : List PyData} (h1 : PyData.strOk x = true) (h2 : d.canLay0 = true) (h3 : d.depth ≤ 3) : SeqAt.shaped (two x (d :: l)) = true := by
  show (PyData.canLay0 (.tuple [.str x, d]) && decide (PyData.depth (.tuple [.str x, d]) ≤ 64)) = true
  have e1 : PyData.canLay0 (.tuple [.str x, d]) = true := by
    show (PyData.strOk x && (d.canLay0 && true)) = true
    rw [h1, h2]
    rfl
  have e2 : PyData.depth (.tuple [.str x, d]) ≤ 64 := by
    show max 0 (max d.depth 0) + 1 ≤ 64
    omega
  rw [e1, decide_eq_true e2]
  rfl
theorem lay_thing {d : PyData} (h : thingD d = true) : d.canLay0 = true ∧ d.depth ≤ 3 ∧ d.hasDict = false := by
  obtain ⟨a, b, rfl, _⟩ := thing_int h
  exact ⟨rfl, by show 1 ≤ 3; decide, rfl⟩
theorem lay_kind {y : Str} {c : PyData} (h : contentD (.str y) c = true) : PyData.strOk y = true := by
  have e : (if y = "let" then nameD c else if y = "use" then binderD c else if y = "number" then fromD 0 99 c else holdsD (.str y) && noneD c) = true := h
  by_cases c1 : y = "let"
  · rw [c1]
    decide +kernel
  · rw [if_neg c1] at e
    by_cases c2 : y = "use"
    · rw [c2]
      decide +kernel
    · rw [if_neg c2] at e
      by_cases c3 : y = "number"
      · rw [c3]
        decide +kernel
      · rw [if_neg c3, Bool.and_eq_true] at e
        have hh : (y == ("block" : Str) || y == ("let" : Str) || y == ("sum" : Str) || y == ("product" : Str)) = true := e.1
        simp only [Bool.or_eq_true, beq_iff_eq] at hh
        rcases hh with ((z | z) | z) | z <;>
          · rw [z]
            decide +kernel
/-- .. of any right body -/
theorem two_ok {x : Str} {l : List PyData} (h : bodyR x l = true) : SeqAt.shaped (two x l) = true ∧ (two x l).hasDict = false := by
  have pure : (two x l).hasDict = false := (Pure.tuple fun d hd => pure_body h d (List.mem_of_mem_take hd)).1
  refine ⟨?_, pure⟩
  unfold bodyR at h
  by_cases c1 : x = "make"
  · subst c1
    rw [if_pos rfl] at h
    obtain ⟨y, u, k, c, rfl, h1, h2, h3⟩ := make_kind (by unfold bodyR; rw [if_pos rfl]; exact h)
    exact shaped_two (by decide +kernel) (lay_kind h3) (by show 0 ≤ 3; decide)
  · rw [if_neg c1] at h
    by_cases c2 : x = "move"
    · rw [if_pos c2] at h
      have z : l.length = 3 := Classical.byContradiction fun z => by
        rw [moveR_ne z] at h
        cases h
      obtain ⟨d1, d2, d3, rfl⟩ := list3 z
      have em : moveR [d1, d2, d3] = (thingD d1 && (thingD d2 && fromD 0 999 d3)) := rfl
      rw [em, Bool.and_eq_true, Bool.and_eq_true] at h
      obtain ⟨q1, q2, _⟩ := lay_thing h.1
      exact shaped_two (by rw [c2]; decide +kernel) q1 q2
    · rw [if_neg c2] at h
      by_cases c3 : x = "drop"
      · rw [if_pos c3] at h
        have z : l.length = 1 := Classical.byContradiction fun z => by
          rw [dropR_ne z] at h
          cases h
        obtain ⟨d1, rfl⟩ := list1 z
        have ht : thingD d1 = true := h
        obtain ⟨q1, q2, _⟩ := lay_thing ht
        exact shaped_two (by rw [c3]; decide +kernel) q1 q2
      · rw [if_neg c3] at h
        by_cases c4 : x = "undo" ∨ x = "redo"
        · rw [if_pos c4] at h
          have z : l.length = 1 := Classical.byContradiction fun z => by
            rw [markR_ne z] at h
            cases h
          obtain ⟨d1, rfl⟩ := list1 z
          have hs : stampD d1 = true := h
          obtain ⟨q1, q2, _⟩ := lay_thing (stamp_thing hs)
          refine shaped_two ?_ q1 q2
          rcases c4 with z | z <;>
            · rw [z]
              decide +kernel
        · rw [if_neg c4] at h
          have z : l.length = 2 := Classical.byContradiction fun z => by
            rw [writeR_ne z] at h
            cases h
          obtain ⟨d1, d2, rfl⟩ := list2 z
          have em : writeR x [d1, d2] = (thingD d1 && writeD (.str x) d2) := rfl
          rw [em, Bool.and_eq_true] at h
          obtain ⟨q1, q2, _⟩ := lay_thing h.1
          refine shaped_two ?_ q1 q2
          have e : (if x = "wish" then nameD d2 else if x = "point" then binderD d2 else decide (x = "set") && fromD 0 99 d2) = true := h.2
          by_cases c5 : x = "wish"
          · rw [c5]
            decide +kernel
          · rw [if_neg c5] at e
            by_cases c6 : x = "point"
            · rw [c6]
              decide +kernel
            · rw [if_neg c6, Bool.and_eq_true, decide_eq_true_eq] at e
              rw [e.1]
              decide +kernel
end K1
set_option maxHeartbeats 4000000
namespace K1
open PySem L2
/-- a comprehension of the stamps of deeds, by any test -/
theorem lc_stamps {K : PySem.W.Frag} {p a : Addr} {us : List V} {ds : List PyData} {tt : TT} {j : Nat} {σ : St} {H3 : Hp} {D : Addr} {Qd : Hp → Prop} (s3 : Some K p H3 a us ds) (nD : H3 D = none) (hw : ∀ x, wipe ((wipe σ [j]).set j (some x)) [j] = wipe σ [j])
    (hget : ∀ u, ((wipe σ [j]).set j (some u))[j]? = some (some u))
    (ht : ∀ (u : V) (d : PyData) (H' : Hp) (Qb : Bool → Hp → Prop), (d ∈ ds ∧ deedD d = true) → DQ K (hid p H3) u d → Bt p H3 H' → (∀ b H'', Bt p H' H'' → Qb b H'') → tt ((wipe σ [j]).set j (some u)) H' Qb)
    (hd : ∀ H' acc es, Bt p H3 H' → H' D = some (.lst acc) → DQs K (hid p H3) acc es → (∀ e ∈ es, stampD e = true) → es.length ≤ ds.length → Qd H') :
    ∃ W : Nat → Nat → Hp → Prop, (∃ m, W 0 m (upd H3 D (.lst []))) ∧ ∀ i m H, W i m H →
      ((Itl K a).stop i H ∧ Qd H) ∨ ((Itl K a).go i H ∧ ∃ Nx : Hp → Prop, (∀ H', Nx H' → ∃ m', m' < m ∧ W (i + 1) m' H') ∧ ∀ x H', (Itl K a).yld i H x H' → (gName j) x (wipe σ [j]) H' fun σ2 H2 => wipe σ2 [j] = wipe σ [j] ∧ tt σ2 H2 fun b H3 =>
        if b = true then (tOp (rIxT K) (tVar j) (tC (.int 0))) σ2 H3 fun y H4 => ∃ acc, H4 D = some (.lst acc) ∧ acc.length < sizeLine ∧ Nx (upd H4 D (.lst (acc ++ [y]))) else Nx H3) := by
  have b3 := Bt.refl s3.src
  have neD := b3.ne nD
  refine lc_list (K := K) (a := a) (xs := us) (fun i H' => Bt p H3 H' ∧ ∃ acc es, H' D = some (.lst acc) ∧ DQs K (hid p H3) acc es ∧ (∀ e ∈ es, stampD e = true) ∧ es.length ≤ i) ⟨b3.new nD, [], [], upd_same, .nil, fun e he => absurd he List.not_mem_nil, Nat.le_refl _⟩
    (fun i H' _ ⟨b, _⟩ => (hid_same p H').seq (b.same.seq s3.seq)) ?_ (fun H' ⟨b, acc, es, h1, h2, h3, h4⟩ => hd H' acc es b h1 h2 h3 (by rw [← s3.all.len]; exact h4))
  rintro i u H' hu ⟨b, acc, es, hl, hes, hth, hlen⟩
  obtain ⟨d, hdi, hq⟩ := s3.all.at hu
  have hi := (List.getElem?_eq_some_iff.mp hu).1
  have lu := s3.all.len
  have hf := s3.few
  have hr := s3.right d (List.mem_of_getElem? hdi)
  refine ⟨hw u, ht u d H' _ ⟨List.mem_of_getElem? hdi, hr⟩ hq b fun b' H'' b2 => ?_⟩
  have b13 := b.trans b2
  have hl2 := b2.at neD hl
  refine ite2 (fun _ => ?_) (fun _ => ⟨b13, acc, es, hl2, hes, hth, Nat.le_succ_of_le hlen⟩)
  obtain ⟨ad, xs, uS, uB, sd, kd, x, l, rfl, ht', i0, i2, qs, st, qb, hb, ed⟩ := deed_parts hq hr
  refine ⟨_, hget _, ad, xs, _, _, rfl, rfl, K0.seqT_same (b13.same.trans (hid_same p H'')) ht', i0, acc, hl2, by rw [hes.len, sizeLine_eq]; omega, b13.over nD neD, _, es ++ [sd], upd_same, hes.app (.cons qs .nil), fun e he => ?_, by rw [List.length_append]; exact Nat.succ_le_succ hlen⟩
  rcases List.mem_append.mp he with z | z
  · exact hth e z
  · rw [List.mem_singleton.mp z]
    exact st
/-- whether a body begins so: the answer does not matter -/
theorem begins {K : PySem.W.Frag} {p : Addr} {H' : Hp} {u : V} {d : PyData} {Q : VK} (src : Src H' p) (hr : deedD d = true) (hq : DQ K (hid p H') u d) (k : ∀ b H'', Bt p H' H'' → Q (.bl b) H'') :
    ∃ a xs m z, u = .ref a ∧ V.int 2 = .int m ∧ SqT K H' a xs ∧ atI xs m = some z ∧ rSlA K z none (some 2) H' fun y H1 => [V.str "make", V.str "let"].length ≤ sizeLine ∧ ∀ q, H1 q = none → rEqD K y (.ref q) (upd H1 q (.tup [.str "make", .str "let"])) Q := by
  obtain ⟨ad, xs, uS, uB, sd, kd, x, l, rfl, ht', i0, i2, qs, st, qb, hb, ed⟩ := deed_parts hq hr
  refine ⟨ad, xs, _, uB, rfl, rfl, K0.seqT_same (hid_same p H') ht', i2, slice_ask src qb fun H1 y b1 qy => ⟨(by show 2 ≤ sizeLine; rw [sizeLine_eq]; decide), fun q nq => ?_⟩⟩
  have b2 := b1.new (o := .tup [.str "make", .str "let"]) nq
  have c2 := (Bt.refl b1.src).new (o := .tup [.str "make", .str "let"]) nq
  have et : PyData.tuple (cutD (.str x :: l) none (some 2)) = two x l := by
    unfold cutD two
    rw [HT.sIx_none, List.drop_zero, Nat.sub_zero, show (2 : Int) = ((2 : Nat) : Int) from rfl, HT.sIx_nat]
    congr 1
    rcases l with _ | ⟨e, l⟩ <;> simp
  rw [et] at qy
  obtain ⟨sh, pu⟩ := two_ok hb
  exact ⟨_, .tuple [.str "make", .str "let"], K0.dp_same (c2.same.trans (hid_same p _)) _ _ (DQ.dp _ _ pu qy), .tup (.inl (.inl upd_same)) (.cons (.str _) (.cons (.str _) .nil)), sh, by decide +kernel, k _ _ b2⟩
end K1
set_option maxHeartbeats 4000000
namespace K1
open PySem L2
/-- what the law draws as a content of a kind -/
def contF (y : Str) (d : PyData) : Bool := if y = "let" then nameD d else if y = "number" then fromD 0 99 d else if y = "use" then binderD d else noneD d
def spContent (K : PySem.W.Frag) : Sp := fun vs H Q _ => ∃ p y a us ds, vs = [.ref p, .str y, .ref a] ∧ Some K p H a us ds ∧ ∀ H' u d, contF y d = true → Bt p H H' → DQ K (hid p H') u d → Q u H'
section
variable {P : Program} {w : World} {K : PySem.W.Frag} {mg : Str → Option Value} {base : Heap}
theorem one_lit {p q : Addr} {H H' : Hp} {vs : List V} {ds : List PyData} {Q : VK} {E : XK} (src : Src H p) (S : Same H H') (n : H q = none) (e : H' q = some (.lst vs)) (d : DQs K (nw H H') vs ds) (h0 : 0 < ds.length) (h1 : ds.length ≤ 1000)
    (k : ∀ H'' u x, x ∈ ds → Bt p H H'' → DQ K (hid p H'') u x → Q u H'') : spOne K [.ref p, .ref q] H' Q E := by
  have b := (Bt.refl src).grow S
  exact ⟨p, q, vs, ds, rfl, b.src, SqL.of (nw_hid src _ _ (nw_of n e)), d.to (nw_hid src), h0, by omega, fun H'' u x hx b2 hq => k H'' u x hx (b.trans b2) hq⟩
theorem sc_content : FnScope [("_law_source" : Str), ("_law_kind" : Str), ("_law_some" : Str), ("_law_lets" : Str), ("_law_odd_here" : Str), ("_law_deed" : Str)] ["_law_source", "_law_kind", "_law_some"] (defScope (top 56)) := ⟨rfl, rfl, rfl, by decide +kernel, rfl, by decide +kernel, by decide +kernel⟩
theorem cl_content (T : All K mg) (M : Nms mg) : Cl P w K mg base 3 "_law_content" ["_law_source", "_law_kind", "_law_some"] (spContent K) := by
  obtain ⟨g, fd, D⟩ := T.dn 56 _ _ rfl
  refine D.cl (D.fn.ok sc_content (fun vs H Q E h => ?_) (fun cdv A outer s H vs Q E hr h => ?_))
  · obtain ⟨p, y, a, us, ds, rfl, _⟩ := h
    rfl
  · obtain ⟨p, y, a, us, ds, rfl, hs, k⟩ := h
    refine ⟨_, (pss_cons (ps_if (pt_cmpR op_eq (pv 1) pe_str (nomark _)) (pss_one (ps_ret (pe_cl (cl_one T M) hr (by decide) (pa_cons (pv 0) (pa_cons (li_list (ds := [.str "x", .str "x", .str "y", .str "abcd"]) (las_cons (li_str (by decide +kernel)) (las_cons (li_str (by decide +kernel)) (las_cons (li_str (by decide +kernel)) (las_cons (li_str (by decide +kernel)) las_nil)))) (by decide)) pa_nil))))) pss_nil)
      (pss_cons (ps_if (pt_cmpR op_eq (pv 1) pe_str (nomark _)) (pss_one (ps_ret (pe_cl (cl_one T M) hr (by decide) (pa_cons (pv 0) (pa_cons (li_list (ds := [.int 0, .int 1, .int 2, .int 7, .int 99]) (las_cons li_int (las_cons li_int (las_cons li_int (las_cons li_int (las_cons li_int las_nil))))) (by decide)) pa_nil))))) pss_nil)
      (pss_cons (ps_if (pt_cmpR op_eq (pv 1) pe_str (nomark _)) (pss_cons (ps_setLc (i := 3) (own := [("_law_deed", 5)]) (g := gName 5) (te := tOp (rIxT K) (tVar 5) (tC (.int 0))) (tt := tTest (tOp (rEqD K) (tSl (rSlA K) (tOp (rIxT K) (tVar 5) (tC (.int 2))) tNoPart (tPart (tC (.int 2)))) (tTup (tCons (tC (.str "make")) (tCons (tC (.str "let")) tNil))))) rfl sc_content.nd rfl rfl (sw_true rfl rfl rfl (by decide +kernel)) (pi_list (pv 2)) (blkOk_by (own := [("_law_deed", 5)]) (N := [("_law_source" : Str), ("_law_kind" : Str), ("_law_some" : Str), ("_law_lets" : Str), ("_law_odd_here" : Str), ("_law_deed" : Str)]) (sc := defScope (top 56)) (by decide +kernel)) (fun _ _ _ _ _ => pg_name (i := 5) sc_content.nd rfl (Or.inl rfl)) (fun _ _ _ _ _ => pts_one (pt_cmpR (op_eqD hr.units) (pe_slice sl_tupA (pe_ix ix_tup (pv 5) pe_int (fun _ _ => rfl)) po_none (po_some pe_int)) (pe_tup (pa_cons pe_str (pa_cons pe_str pa_nil))) (nomark _))) (fun _ _ _ _ _ => (pe_ix ix_tup (pv 5) pe_int (fun _ _ => rfl))))
      (pss_cons (ps_set (i := 4) sc_content.nd rfl (Or.inl rfl) (pe_op op_cat (li_list (ds := [.none, .tuple [.int 0, .int 0]]) (las_cons li_non (las_cons (li_tup (las_cons li_int (las_cons li_int las_nil)) (by decide)) las_nil)) (by decide)) (pe_slice sl_list (pe_lc (own := [("_law_deed", 5)]) (g := gName 5) (te := tOp (rIxT K) (tVar 5) (tC (.int 0))) (tt := tYes) rfl sc_content.nd (pi_list (pv 2)) (blkOk_by (own := [("_law_deed", 5)]) (N := [("_law_source" : Str), ("_law_kind" : Str), ("_law_some" : Str), ("_law_lets" : Str), ("_law_odd_here" : Str), ("_law_deed" : Str)]) (sc := defScope (top 56)) (by decide +kernel)) (fun _ _ _ _ _ => pg_name (i := 5) sc_content.nd rfl (Or.inl rfl)) (fun _ _ _ _ _ => pts_nil) (fun _ _ _ _ _ => (pe_ix ix_tup (pv 5) pe_int (fun _ _ => rfl)))) po_none (po_some pe_int))))
      (pss_one (ps_ret (pe_cl (cl_one T M) hr (by decide) (pa_cons (pv 0) (pa_cons (pe_op op_cat (pe_op op_cat (pe_op op_cat (pv 3) (pv 3)) (pv 3)) (pv 4)) pa_nil))))))) pss_nil)
      (pss_one (ps_ret pe_non))))), ?_⟩
    unfold contF at k
    refine ⟨_, rfl, rfl, _, rfl, ?_⟩
    rw [dec_str]
    by_cases c1 : y = "let"
    · simp only [if_pos c1] at k
      rw [decide_eq_true c1]
      refine iteT ⟨_, rfl, fun H1 q1 v1 S1 n1 e1 d1 => one_lit (E := E0) hs.src S1 n1 e1 d1 (by decide) (by decide) fun H2 u x hx b hq => k H2 u x (List.all_eq_true.mp (show ([.str "x", .str "x", .str "y", .str "abcd"] : List PyData).all nameD = true by decide +kernel) x hx) b hq⟩
    · simp only [if_neg c1] at k
      rw [decide_eq_false c1]
      refine iteF ⟨_, rfl, rfl, _, rfl, ?_⟩
      rw [dec_str]
      by_cases c2 : y = "number"
      · simp only [if_pos c2] at k
        rw [decide_eq_true c2]
        refine iteT ⟨_, rfl, fun H1 q1 v1 S1 n1 e1 d1 => one_lit (E := E0) hs.src S1 n1 e1 d1 (by decide) (by decide) fun H2 u x hx b hq => k H2 u x (List.all_eq_true.mp (show ([.int 0, .int 1, .int 2, .int 7, .int 99] : List PyData).all (fromD 0 99) = true by decide +kernel) x hx) b hq⟩
      · simp only [if_neg c2] at k
        rw [decide_eq_false c2]
        refine iteF ⟨_, rfl, rfl, _, rfl, ?_⟩
        rw [dec_str]
        by_cases c3 : y = "use"
        · simp only [if_pos c3] at k
          rw [decide_eq_true c3]
          refine iteT ⟨_, rfl, a, rfl, ⟨us, (hid_same p H).seq hs.seq⟩, fun D1 nD1 => ?_⟩
          refine lc_stamps (j := 5) hs nD1 (fun _ => rfl) (fun _ => rfl) (fun u d H' Qb hr' hq b kb => ?_) (fun H1 acc1 es1 b1 e1 q1 st1 l1 => ?_)
          · obtain ⟨a', xs, m, z, rfl, hm, ht, hi, hsl⟩ := begins (Q := fun v H'' => ∃ c, v = .bl c ∧ Qb c H'') b.src hr'.2 (hq.to b.same) (fun c H'' b2 => ⟨c, rfl, kb c H'' b2⟩)
            exact ⟨_, rfl, a', xs, m, z, rfl, hm, ht, hi, _, rfl, hsl⟩
          · have ne1 := (Bt.refl hs.src).ne nD1
            refine fun H2 q2 v2 S2 n2 e2 d2 => ?_
            have b2 := b1.grow S2
            have src2 := b2.src
            have hs2 := hs.to b2
            refine ⟨_, rfl, a, rfl, ⟨us, (hid_same p H2).seq hs2.seq⟩, fun D2 nD2 => ?_⟩
            refine lc_stamps (j := 5) hs2 nD2 (fun _ => rfl) (fun _ => rfl) (fun u d H' Qb hr' hq b kb => kb true H' (Bt.refl b.src)) (fun H3 acc3 es3 b3 e3 q3 st3 l3 => ?_)
            have c13 := b2.trans b3
            refine ⟨_, rfl, D2, acc3, rfl, SqL.of e3, fun p3 n3 => ?_⟩
            have b4 := b3.new (o := .lst (cutV acc3 none (some 1))) n3
            have e4 := @upd_same H3 p3 (.lst (cutV acc3 none (some 1)))
            have ecut : cutV acc3 none (some 1) = acc3.take 1 := by
              unfold cutV
              rw [HT.sIx_none, List.drop_zero, Nat.sub_zero, show (1 : Int) = ((1 : Nat) : Int) from rfl, HT.sIx_nat]
              rcases acc3 with _ | ⟨x, l⟩ <;> simp
            rw [ecut] at b4 e4 ⊢
            have ne2 := b2.ne nD2
            have ne3 := b3.ne n3
            have nq2 : q2 ≠ p := b1.ne n2
            generalize upd H3 p3 (.lst (acc3.take 1)) = H4 at b4 e4 ⊢
            have d14 := b2.trans b4
            have k2 : H4 q2 = some (.lst v2) := b4.at nq2 e2
            have f1 : H4 D1 = some (.lst acc1) := b4.at ne1 (S2 _ _ e1)
            have all2 : DQs K (hid p H4) v2 [.none, .tuple [.int 0, .int 0]] := (d2.to (nw_hid b1.src)).to b4.same
            have all3 : DQs K (hid p H4) (acc3.take 1) (es3.take 1) := (q3.take 1).to b4.same
            have all1 : DQs K (hid p H4) acc1 es1 := q1.to d14.same
            have few := hs.few
            have L1 := all1.len
            have L2 := all2.len
            have L3 := all3.len
            have l31 : (es3.take 1).length ≤ 1 := by
              rw [List.length_take]
              omega
            have L2' : v2.length = 2 := L2
            refine ⟨q2, p3, v2, _, rfl, rfl, k2, e4, by rw [sizeLine_eq]; omega, fun p5 n5 => ?_⟩
            have b5 := d14.new (o := .lst (v2 ++ acc3.take 1)) n5
            have c5 := (Bt.refl d14.src).new (o := .lst (v2 ++ acc3.take 1)) n5
            have e5 := @upd_same H4 p5 (.lst (v2 ++ acc3.take 1))
            have ne5 := d14.ne n5
            have f1' := c5.at ne1 f1
            have all5 := (all2.app all3).to c5.same
            have all1' := all1.to c5.same
            generalize upd H4 p5 (.lst (v2 ++ acc3.take 1)) = H5 at b5 e5 f1' all5 all1' ⊢
            refine ⟨_, rfl, _, rfl, _, rfl, D1, D1, acc1, acc1, rfl, rfl, f1', f1', by rw [sizeLine_eq]; omega, fun p6 n6 => ?_⟩
            have b6 := b5.new (o := .lst (acc1 ++ acc1)) n6
            have c6 := (Bt.refl b5.src).new (o := .lst (acc1 ++ acc1)) n6
            have e6 := @upd_same H5 p6 (.lst (acc1 ++ acc1))
            have f6 := c6.at ne1 f1'
            have k6 := c6.at ne5 e5
            generalize upd H5 p6 (.lst (acc1 ++ acc1)) = H6 at b6 c6 e6 f6 k6 ⊢
            refine ⟨_, rfl, p6, D1, _, acc1, rfl, rfl, e6, f6, by rw [List.length_append, sizeLine_eq]; omega, fun p7 n7 => ?_⟩
            have b7 := b6.new (o := .lst ((acc1 ++ acc1) ++ acc1)) n7
            have c7 := c6.new (o := .lst ((acc1 ++ acc1) ++ acc1)) n7
            have e7 := @upd_same H6 p7 (.lst ((acc1 ++ acc1) ++ acc1))
            have x7 := (Bt.refl b6.src).new (o := .lst ((acc1 ++ acc1) ++ acc1)) n7
            have k7 := x7.at ne5 k6
            generalize upd H6 p7 (.lst ((acc1 ++ acc1) ++ acc1)) = H7 at b7 c7 e7 k7 ⊢
            refine ⟨_, rfl, p7, p5, _, _, rfl, rfl, e7, k7, by rw [List.length_append, List.length_append, List.length_append, sizeLine_eq]; omega, fun p8 n8 => ?_⟩
            have b8 := b7.new (o := .lst (((acc1 ++ acc1) ++ acc1) ++ (v2 ++ acc3.take 1))) n8
            have c8 := c7.new (o := .lst (((acc1 ++ acc1) ++ acc1) ++ (v2 ++ acc3.take 1))) n8
            have ne8 := b7.ne n8
            have a1 := all1'.to c8.same
            have a5 := all5.to c8.same
            refine ⟨p, p8, _, _, rfl, b8.src, SqL.of (by rw [hid_ne ne8]; exact upd_same), ((a1.app a1).app a1).app a5, ?_, ?_, fun H9 u x hx b9 hq => k H9 u x ?_ (b8.trans b9) hq⟩
            · simp only [List.length_append, List.length_cons]
              omega
            · simp only [List.length_append, List.length_cons, List.length_nil]
              omega
            · have stb : ∀ e, stampD e = true → binderD e = true := fun e he => by
                obtain ⟨t, j, rfl, _⟩ := stamp_int he
                exact stamp_thing he
              rcases List.mem_append.mp hx with z | z
              · have z' : x ∈ es1 := by
                  rcases List.mem_append.mp z with z | z
                  · rcases List.mem_append.mp z with z | z <;> exact z
                  · exact z
                exact stb x (st1 x z')
              · rcases List.mem_append.mp z with z | z
                · rcases List.mem_cons.mp z with z | z
                  · rw [z]
                    rfl
                  · rw [List.mem_singleton.mp z]
                    decide +kernel
                · exact stb x (st3 x (List.mem_of_mem_take z))
        · simp only [if_neg c3] at k
          rw [decide_eq_false c3]
          exact iteF (k H _ _ rfl (Bt.refl hs.src) .non)
end
end K1
set_option maxHeartbeats 4000000
namespace K1
open PySem L2
def kindL : List PyData := [.str "let", .str "let", .str "use", .str "use", .str "number", .str "block", .str "sum", .str "product"]
theorem kind_cont {d : PyData} (h : d ∈ kindL) : ∃ y : Str, d = .str y ∧ ∀ c, contF y c = true → contentD (.str y) c = true := by
  have go : ∀ y : Str, (y = "let" ∨ y = "use" ∨ y = "number" ∨ holdsD (.str y) = true) → ∀ c, contF y c = true → contentD (.str y) c = true := fun y hy c hc => by
    unfold contF at hc
    show (if y = "let" then nameD c else if y = "use" then binderD c else if y = "number" then fromD 0 99 c else holdsD (.str y) && noneD c) = true
    by_cases c1 : y = "let"
    · rw [if_pos c1] at hc ⊢
      exact hc
    · rw [if_neg c1] at hc ⊢
      by_cases c2 : y = "use"
      · rw [if_pos c2]
        have n : ¬ y = "number" := by
          rw [c2]
          decide +kernel
        rw [if_neg n, if_pos c2] at hc
        exact hc
      · rw [if_neg c2]
        by_cases c3 : y = "number"
        · rw [if_pos c3] at hc ⊢
          exact hc
        · rw [if_neg c3] at hc ⊢
          rw [if_neg c2] at hc
          rw [hc, Bool.and_true]
          rcases hy with z | z | z | z
          · exact absurd z c1
          · exact absurd z c2
          · exact absurd z c3
          · exact z
  have each : ∀ d ∈ kindL, ∃ y : Str, d = .str y ∧ (y = "let" ∨ y = "use" ∨ y = "number" ∨ holdsD (.str y) = true) := fun d h => by
    unfold kindL at h
    simp only [List.mem_cons, List.not_mem_nil, or_false] at h
    rcases h with z | z | z | z | z | z | z | z
    · exact ⟨_, z, .inl rfl⟩
    · exact ⟨_, z, .inl rfl⟩
    · exact ⟨_, z, .inr (.inl rfl)⟩
    · exact ⟨_, z, .inr (.inl rfl)⟩
    · exact ⟨_, z, .inr (.inr (.inl rfl))⟩
    · exact ⟨_, z, .inr (.inr (.inr (by decide +kernel)))⟩
    · exact ⟨_, z, .inr (.inr (.inr (by decide +kernel)))⟩
    · exact ⟨_, z, .inr (.inr (.inr (by decide +kernel)))⟩
  obtain ⟨y, e, hy⟩ := each d h
  exact ⟨y, e, go y hy⟩
def spMadeBody (K : PySem.W.Frag) : Sp := fun vs H Q _ => ∃ p a us ds, vs = [.ref p, .ref a] ∧ Some K p H a us ds ∧ ∀ H' u x l, bodyR x l = true → Bt p H H' → DQ K (hid p H') u (.tuple (.str x :: l)) → Q u H'
section
variable {P : Program} {w : World} {K : PySem.W.Frag} {mg : Str → Option Value} {base : Heap}
theorem sc_made : FnScope ["_law_source", "_law_some", "_law_kind", "_law_under"] ["_law_source", "_law_some"] (defScope (top 58)) := ⟨rfl, rfl, rfl, by decide +kernel, rfl, by decide +kernel, by decide +kernel⟩
theorem cl_made (T : All K mg) (M : Nms mg) : Cl P w K mg base 4 "_law_made_body" ["_law_source", "_law_some"] (spMadeBody K) := by
  obtain ⟨g, fd, D⟩ := T.dn 58 _ _ rfl
  refine D.cl (D.fn.ok sc_made (fun vs H Q E h => ?_) (fun cdv A outer s H vs Q E hr h => ?_))
  · obtain ⟨p, a, us, ds, rfl, _⟩ := h
    rfl
  · obtain ⟨p, a, us, ds, rfl, hs, k⟩ := h
    refine ⟨_, (pss_cons (ps_set (i := 2) sc_made.nd rfl (Or.inl rfl) (pe_cl (cl_one T M) hr (by decide) (pa_cons (pv 0) (pa_cons (li_list (ds := [.str "let", .str "let", .str "use", .str "use", .str "number", .str "block", .str "sum", .str "product"]) (las_cons (li_str (by decide +kernel)) (las_cons (li_str (by decide +kernel)) (las_cons (li_str (by decide +kernel)) (las_cons (li_str (by decide +kernel)) (las_cons (li_str (by decide +kernel)) (las_cons (li_str (by decide +kernel)) (las_cons (li_str (by decide +kernel)) (las_cons (li_str (by decide +kernel)) las_nil)))))))) (by decide)) pa_nil))))
      (pss_cons (ps_set (i := 3) sc_made.nd rfl (Or.inl rfl) (pe_cl (cl_one T M) hr (by decide) (pa_cons (pv 0) (pa_cons (pe_op op_cat (pe_cl (cl_holders T) hr (by decide) (pa_cons (pv 1) pa_nil)) (li_list (ds := [.tuple [.int 0, .int 0]]) (las_cons (li_tup (las_cons li_int (las_cons li_int las_nil)) (by decide)) las_nil) (by decide))) pa_nil))))
      (pss_one (ps_ret (pe_tup (pa_cons pe_str (pa_cons (pv 2) (pa_cons (pv 3) (pa_cons (pe_cl (cl_one T M) hr (by decide) (pa_cons (pv 0) (pa_cons (li_list (ds := [.int 0, .int 1, .int 2, .int 2, .int 5, .int 999]) (las_cons li_int (las_cons li_int (las_cons li_int (las_cons li_int (las_cons li_int (las_cons li_int las_nil)))))) (by decide)) pa_nil))) (pa_cons (pe_cl (cl_content T M) hr (by decide) (pa_cons (pv 0) (pa_cons (pv 2) (pa_cons (pv 1) pa_nil)))) pa_nil)))))))))), ?_⟩
    refine ⟨_, rfl, fun H1 q1 v1 S1 n1 e1 d1 => one_lit (E := E0) hs.src S1 n1 e1 d1 (by decide) (by decide) fun H2 uk dk hk b2 qk => ?_⟩
    obtain ⟨y, rfl, hc⟩ := kind_cont hk
    cases qk
    refine ⟨_, rfl, _, rfl, p, a, us, ds, rfl, hs.to b2, fun H3 q3 v3 es3 b3 l3 h3 h30 h31 => fun H4 q4 v4 S4 n4 e4 d4 => ?_⟩
    have b34 := b3.grow S4
    have c4 := (Bt.refl b3.src).grow S4
    have f3 : H4 q3 = some (.lst v3) := S4 _ _ l3.at_
    have a3 := l3.all.to c4.same
    have a4 := d4.to (nw_hid (H' := H4) b3.src)
    have few := hs.few
    have L3 := a3.len
    have L4 : v4.length = 1 := d4.len
    refine ⟨q3, q4, v3, v4, rfl, rfl, f3, e4, by rw [sizeLine_eq]; omega, fun q5 n5 => ?_⟩
    have b5 := b34.new (o := .lst (v3 ++ v4)) n5
    have c5 := (Bt.refl b34.src).new (o := .lst (v3 ++ v4)) n5
    have ne5 := b34.ne n5
    refine ⟨p, q5, _, _, rfl, b5.src, SqL.of (by rw [hid_ne ne5]; exact upd_same), (a3.app a4).to c5.same, by rw [List.length_append]; exact Nat.lt_of_lt_of_le h30 (Nat.le_add_right _ _), by rw [List.length_append]; show es3.length + 1 < _; omega, fun H6 u6 x6 hx6 b6 q6 => ?_⟩
    have hth : thingD x6 = true := by
      rcases List.mem_append.mp hx6 with z | z
      · exact h3 x6 z
      · rw [List.mem_singleton.mp z]
        decide +kernel
    have b26 := b5.trans b6
    have bH6 := b2.trans b26
    refine ⟨_, rfl, _, rfl, _, rfl, fun H7 q7 v7 S7 n7 e7 d7 => one_lit (E := E0) b26.src S7 n7 e7 d7 (by decide) (by decide) fun H8 u8 x8 hx8 b8 q8 => ?_⟩
    have bH8 := bH6.trans b8
    have hkey : fromD 0 999 x8 = true := List.all_eq_true.mp (show ([.int 0, .int 1, .int 2, .int 2, .int 5, .int 999] : List PyData).all (fromD 0 999) = true by decide +kernel) x8 hx8
    refine ⟨_, rfl, _, rfl, _, rfl, p, y, a, us, ds, rfl, hs.to bH8, fun H9 u9 x9 hx9 b9 q9 => ⟨(by show 5 ≤ sizeLine; rw [sizeLine_eq]; decide), fun q10 n10 => ?_⟩⟩
    have b10 := (bH8.trans b9).new (o := .tup [.str "make", .str y, u6, u8, u9]) n10
    have c10 := (Bt.refl b9.src).new (o := .tup [.str "make", .str y, u6, u8, u9]) n10
    have ne10 := b9.ne n10
    refine k _ _ "make" [.str y, x6, x8, x9] ?_ b10 (.tup (.inl (.inl (by rw [hid_ne ne10]; exact upd_same))) (.cons (.str _ (by decide +kernel)) (.cons (.str _ ?_) (.cons ((q6.to b8.same).to (b9.same.trans c10.same)) (.cons (q8.to (b9.same.trans c10.same)) (.cons (q9.to c10.same) .nil))))))
    · show makeR [.str y, x6, x8, x9] = true
      show (thingD x6 && (fromD 0 999 x8 && contentD (.str y) x9)) = true
      rw [hth, hkey, hc x9 hx9]
      rfl
    · assumption
end
end K1
set_option maxHeartbeats 4000000
namespace K1
open PySem L2
/-- a comprehension of some of the deeds themselves: those of which R is known -/
theorem lc_deeds {K : PySem.W.Frag} {p a : Addr} {us : List V} {ds : List PyData} {tt : TT} {j : Nat} {σ : St} {H3 : Hp} {D : Addr} {Qd : Hp → Prop} (R : PyData → Prop) (s3 : Some K p H3 a us ds) (nD : H3 D = none) (hw : ∀ x, wipe ((wipe σ [j]).set j (some x)) [j] = wipe σ [j])
    (hget : ∀ u, ((wipe σ [j]).set j (some u))[j]? = some (some u))
    (ht : ∀ (u : V) (d : PyData) (H' : Hp) (Qb : Bool → Hp → Prop), deedD d = true → DQ K (hid p H3) u d → Bt p H3 H' → (∀ b H'', Bt p H' H'' → (b = true → R d) → Qb b H'') → tt ((wipe σ [j]).set j (some u)) H' Qb)
    (hd : ∀ H' acc es, Bt p H3 H' → H' D = some (.lst acc) → DQs K (hid p H3) acc es → (∀ e ∈ es, e ∈ ds ∧ R e) → es.length ≤ ds.length → Qd H') :
    ∃ W : Nat → Nat → Hp → Prop, (∃ m, W 0 m (upd H3 D (.lst []))) ∧ ∀ i m H, W i m H →
      ((Itl K a).stop i H ∧ Qd H) ∨ ((Itl K a).go i H ∧ ∃ Nx : Hp → Prop, (∀ H', Nx H' → ∃ m', m' < m ∧ W (i + 1) m' H') ∧ ∀ x H', (Itl K a).yld i H x H' → (gName j) x (wipe σ [j]) H' fun σ2 H2 => wipe σ2 [j] = wipe σ [j] ∧ tt σ2 H2 fun b H3 =>
        if b = true then (tVar j) σ2 H3 fun y H4 => ∃ acc, H4 D = some (.lst acc) ∧ acc.length < sizeLine ∧ Nx (upd H4 D (.lst (acc ++ [y]))) else Nx H3) := by
  have b3 := Bt.refl s3.src
  have neD := b3.ne nD
  refine lc_list (K := K) (a := a) (xs := us) (fun i H' => Bt p H3 H' ∧ ∃ acc es, H' D = some (.lst acc) ∧ DQs K (hid p H3) acc es ∧ (∀ e ∈ es, e ∈ ds ∧ R e) ∧ es.length ≤ i) ⟨b3.new nD, [], [], upd_same, .nil, fun e he => absurd he List.not_mem_nil, Nat.le_refl _⟩
    (fun i H' _ ⟨b, _⟩ => (hid_same p H').seq (b.same.seq s3.seq)) ?_ (fun H' ⟨b, acc, es, h1, h2, h3, h4⟩ => hd H' acc es b h1 h2 h3 (by rw [← s3.all.len]; exact h4))
  rintro i u H' hu ⟨b, acc, es, hl, hes, hth, hlen⟩
  obtain ⟨d, hdi, hq⟩ := s3.all.at hu
  have hi := (List.getElem?_eq_some_iff.mp hu).1
  have lu := s3.all.len
  have hf := s3.few
  have hm := List.mem_of_getElem? hdi
  refine ⟨hw u, ht u d H' _ (s3.right d hm) hq b fun b' H'' b2 hR => ?_⟩
  have b13 := b.trans b2
  have hl2 := b2.at neD hl
  refine ite2 (fun e => ?_) (fun _ => ⟨b13, acc, es, hl2, hes, hth, Nat.le_succ_of_le hlen⟩)
  refine ⟨_, hget _, acc, hl2, by rw [hes.len, sizeLine_eq]; omega, b13.over nD neD, _, es ++ [d], upd_same, hes.app (.cons hq .nil), fun x hx => ?_, by rw [List.length_append]; exact Nat.succ_le_succ hlen⟩
  rcases List.mem_append.mp hx with z | z
  · exact hth x z
  · rw [List.mem_singleton.mp z]
    exact ⟨hm, hR e⟩
/-- a make -/
def IsMake (d : PyData) : Prop := ∃ s k l, d = .tuple [s, k, .tuple (.str "make" :: l)]
/-- a list of right deeds is one again, what was made of it stands beside the source -/
theorem Some.sub {K : PySem.W.Frag} {p D : Addr} {H H' : Hp} {acc : List V} {ds es : List PyData} (b : Bt p H H') (nD : H D = none) (ne : D ≠ p) (h : H' D = some (.lst acc)) (hes : DQs K (hid p H) acc es) (sub : ∀ e ∈ es, deedD e = true) (few : es.length ≤ 30) : Some K p H' D acc es :=
  ⟨b.src, SqL.of (by rw [hid_ne ne]; exact h), hes.to b.same, sub, few⟩
end K1
set_option maxHeartbeats 4000000
namespace K1
open PySem L2
def wordL : List PyData := [.str "make", .str "make", .str "make", .str "make", .str "move", .str "move", .str "drop", .str "wish", .str "point", .str "set", .str "undo", .str "redo"]
/-- the stamps of all deeds -/
theorem lc_stampsA {K : PySem.W.Frag} {p a : Addr} {us : List V} {ds : List PyData} {j : Nat} {σ : St} {H3 : Hp} {D : Addr} {Qd : Hp → Prop} (s3 : Some K p H3 a us ds) (nD : H3 D = none) (hw : ∀ x, wipe ((wipe σ [j]).set j (some x)) [j] = wipe σ [j])
    (hget : ∀ u, ((wipe σ [j]).set j (some u))[j]? = some (some u))
    (hd : ∀ H' acc es, Bt p H3 H' → H' D = some (.lst acc) → DQs K (hid p H3) acc es → (∀ e ∈ es, stampD e = true) → es.length = ds.length → Qd H') :
    ∃ W : Nat → Nat → Hp → Prop, (∃ m, W 0 m (upd H3 D (.lst []))) ∧ ∀ i m H, W i m H →
      ((Itl K a).stop i H ∧ Qd H) ∨ ((Itl K a).go i H ∧ ∃ Nx : Hp → Prop, (∀ H', Nx H' → ∃ m', m' < m ∧ W (i + 1) m' H') ∧ ∀ x H', (Itl K a).yld i H x H' → (gName j) x (wipe σ [j]) H' fun σ2 H2 => wipe σ2 [j] = wipe σ [j] ∧ tYes σ2 H2 fun b H3 =>
        if b = true then (tOp (rIxT K) (tVar j) (tC (.int 0))) σ2 H3 fun y H4 => ∃ acc, H4 D = some (.lst acc) ∧ acc.length < sizeLine ∧ Nx (upd H4 D (.lst (acc ++ [y]))) else Nx H3) := by
  have b3 := Bt.refl s3.src
  have neD := b3.ne nD
  refine lc_list (K := K) (a := a) (xs := us) (fun i H' => Bt p H3 H' ∧ ∃ acc es, H' D = some (.lst acc) ∧ DQs K (hid p H3) acc es ∧ (∀ e ∈ es, stampD e = true) ∧ es.length = i) ⟨b3.new nD, [], [], upd_same, .nil, fun e he => absurd he List.not_mem_nil, rfl⟩
    (fun i H' _ ⟨b, _⟩ => (hid_same p H').seq (b.same.seq s3.seq)) ?_ (fun H' ⟨b, acc, es, h1, h2, h3, h4⟩ => hd H' acc es b h1 h2 h3 (by rw [← s3.all.len]; exact h4))
  rintro i u H' hu ⟨b, acc, es, hl, hes, hth, hlen⟩
  obtain ⟨d, hdi, hq⟩ := s3.all.at hu
  have hi := (List.getElem?_eq_some_iff.mp hu).1
  have lu := s3.all.len
  have hf := s3.few
  have hr := s3.right d (List.mem_of_getElem? hdi)
  obtain ⟨ad, xs, uS, uB, sd, kd, x, l, rfl, ht', i0, i2, qs, st, qb, hb, ed⟩ := deed_parts hq hr
  refine ⟨hw _, ?_⟩
  unfold tYes
  dsimp only
  rw [if_pos rfl]
  refine ⟨_, hget _, ad, xs, _, _, rfl, rfl, K0.seqT_same (b.same.trans (hid_same p H')) ht', i0, acc, hl, by rw [hes.len, sizeLine_eq]; omega, b.over nD neD, _, es ++ [sd], upd_same, hes.app (.cons qs .nil), fun e he => ?_, by rw [List.length_append, hlen]; rfl⟩
  rcases List.mem_append.mp he with z | z
  · exact hth e z
  · rw [List.mem_singleton.mp z]
    exact st
theorem word_of {d : PyData} (h : d ∈ wordL) : ∃ x : Str, d = .str x ∧ (x = "make" ∨ x = "undo" ∨ x = "redo" ∨ x = "move" ∨ x = "drop" ∨ x = "wish" ∨ x = "point" ∨ x = "set") := by
  unfold wordL at h
  simp only [List.mem_cons, List.not_mem_nil, or_false] at h
  rcases h with z | z | z | z | z | z | z | z | z | z | z | z
  all_goals exact ⟨_, z, by simp⟩
section
variable {P : Program} {w : World} {K : PySem.W.Frag} {mg : Str → Option Value} {base : Heap}
theorem sc_lbody : FnScope [("_law_source" : Str), ("_law_some" : Str), ("_law_makes" : Str), ("_law_words" : Str), ("_law_word" : Str), ("_law_kind" : Str), ("_law_things" : Str), ("_law_odd_here" : Str), ("_law_thing" : Str), ("_law_under" : Str), ("_law_deed" : Str)] ["_law_source", "_law_some"] (defScope (top 59)) := ⟨rfl, rfl, rfl, by decide +kernel, rfl, by decide +kernel, by decide +kernel⟩
theorem cl_lbody (T : All K mg) (M : Nms mg) : Cl P w K mg base 5 "_law_body" ["_law_source", "_law_some"] (spMadeBody K) := by
  obtain ⟨g, fd, D⟩ := T.dn 59 _ _ rfl
  refine D.cl (D.fn.ok sc_lbody (fun vs H Q E h => ?_) (fun cdv A outer s H vs Q E hr h => ?_))
  · obtain ⟨p, a, us, ds, rfl, _⟩ := h
    rfl
  · obtain ⟨p, a, us, ds, rfl, hs, k⟩ := h
    refine ⟨_, (pss_cons (ps_setLc (i := 2) (own := [("_law_deed", 10)]) (g := gName 10) (te := tVar 10) (tt := tTest (tOp rEq (tOp (rIxT K) (tOp (rIxT K) (tVar 10) (tC (.int 2))) (tC (.int 0))) (tC (.str "make")))) rfl sc_lbody.nd rfl rfl (sw_true rfl rfl rfl (by decide +kernel)) (pi_list (pv 1)) (blkOk_by (own := [("_law_deed", 10)]) (N := [("_law_source" : Str), ("_law_some" : Str), ("_law_makes" : Str), ("_law_words" : Str), ("_law_word" : Str), ("_law_kind" : Str), ("_law_things" : Str), ("_law_odd_here" : Str), ("_law_thing" : Str), ("_law_under" : Str), ("_law_deed" : Str)]) (sc := defScope (top 59)) (by decide +kernel)) (fun _ _ _ _ _ => pg_name (i := 10) sc_lbody.nd rfl (Or.inl rfl)) (fun _ _ _ _ _ => pts_one (pt_cmpR op_eq (pe_ix ix_tup (pe_ix ix_tup (pv 10) pe_int (fun _ _ => rfl)) pe_int (fun _ _ => rfl)) pe_str (nomark _))) (fun _ _ _ _ _ => pv 10))
      (pss_cons (ps_set (i := 3) sc_lbody.nd rfl (Or.inl rfl) (li_list (ds := wordL) (las_cons (li_str (by decide +kernel)) (las_cons (li_str (by decide +kernel)) (las_cons (li_str (by decide +kernel)) (las_cons (li_str (by decide +kernel)) (las_cons (li_str (by decide +kernel)) (las_cons (li_str (by decide +kernel)) (las_cons (li_str (by decide +kernel)) (las_cons (li_str (by decide +kernel)) (las_cons (li_str (by decide +kernel)) (las_cons (li_str (by decide +kernel)) (las_cons (li_str (by decide +kernel)) (las_cons (li_str (by decide +kernel)) las_nil)))))))))))) (by decide)))
      (pss_cons (ps_set (i := 4) sc_lbody.nd rfl (Or.inl rfl) (pe_cl (cl_one T M) hr (by decide) (pa_cons (pv 0) (pa_cons (pv 3) pa_nil))))
      (pss_cons (ps_if (PW.pt (pw_or (pt_cmpR op_eq (pv 4) pe_str (nomark _)) (pw_or1 (pt_cmpR (op_eqE hr.units) (pv 2) (pe_lst pa_nil) (nomark _))))) (pss_one (ps_ret (pe_cl (cl_made T M) hr (by decide) (pa_cons (pv 0) (pa_cons (pv 1) pa_nil))))) pss_nil)
      (pss_cons (ps_if (pt_cmpR op_in_seq (pv 4) (pe_lst (pa_cons pe_str (pa_cons pe_str pa_nil))) rfl) (pss_one (ps_ret (pe_tup (pa_cons (pv 4) (pa_cons (pe_cl (cl_one T M) hr (by decide) (pa_cons (pv 0) (pa_cons (pe_lc (own := [("_law_deed", 10)]) (g := gName 10) (te := tOp (rIxT K) (tVar 10) (tC (.int 0))) (tt := tYes) rfl sc_lbody.nd (pi_list (pv 1)) (blkOk_by (own := [("_law_deed", 10)]) (N := [("_law_source" : Str), ("_law_some" : Str), ("_law_makes" : Str), ("_law_words" : Str), ("_law_word" : Str), ("_law_kind" : Str), ("_law_things" : Str), ("_law_odd_here" : Str), ("_law_thing" : Str), ("_law_under" : Str), ("_law_deed" : Str)]) (sc := defScope (top 59)) (by decide +kernel)) (fun _ _ _ _ _ => pg_name (i := 10) sc_lbody.nd rfl (Or.inl rfl)) (fun _ _ _ _ _ => pts_nil) (fun _ _ _ _ _ => (pe_ix ix_tup (pv 10) pe_int (fun _ _ => rfl)))) pa_nil))) pa_nil))))) pss_nil)
      (pss_cons (ps_set (i := 5) sc_lbody.nd rfl (Or.inr rfl) (pe_dget2 (hu_of hr) (pe_disp (pps_cons pe_str pe_str (pps_cons pe_str pe_str (pps_cons pe_str pe_str pps_nil))) (by rfl) (by rfl) (fun z => by cases z) (by decide)) (pv 4) pe_non ⟨by rfl, by rfl, by rfl, by rfl⟩))
      (pss_cons (ps_setLc (i := 6) (own := [("_law_deed", 10)]) (g := gName 10) (te := tOp (rIxT K) (tVar 10) (tC (.int 0))) (tt := tOr (tTest (tOp rIsN (tVar 5) (tC .non))) (tTest (tOp rEq (tOp (rIxT K) (tOp (rIxT K) (tVar 10) (tC (.int 2))) (tC (.int 1))) (tVar 5)))) rfl sc_lbody.nd rfl rfl (sw_true rfl rfl rfl (by decide +kernel)) (pi_list (pv 2)) (blkOk_by (own := [("_law_deed", 10)]) (N := [("_law_source" : Str), ("_law_some" : Str), ("_law_makes" : Str), ("_law_words" : Str), ("_law_word" : Str), ("_law_kind" : Str), ("_law_things" : Str), ("_law_odd_here" : Str), ("_law_thing" : Str), ("_law_under" : Str), ("_law_deed" : Str)]) (sc := defScope (top 59)) (by decide +kernel)) (fun _ _ _ _ _ => pg_name (i := 10) sc_lbody.nd rfl (Or.inl rfl)) (fun _ _ _ _ _ => pts_one (PW.pt (pw_or (pt_cmpR op_isN1 (pv 5) pe_non (nomark _)) (pw_or1 (pt_cmpR op_eq (pe_ix ix_tup (pe_ix ix_tup (pv 10) pe_int (fun _ _ => rfl)) pe_int (fun _ _ => rfl)) (pv 5) (nomark _)))))) (fun _ _ _ _ _ => (pe_ix ix_tup (pv 10) pe_int (fun _ _ => rfl))))
      (pss_cons (ps_set (i := 7) sc_lbody.nd rfl (Or.inl rfl) (pe_op op_cat (li_list (ds := [.tuple [.int 0, .int 0]]) (las_cons (li_tup (las_cons li_int (las_cons li_int las_nil)) (by decide)) las_nil) (by decide)) (pe_lc (own := [("_law_deed", 10)]) (g := gName 10) (te := tOp (rIxT K) (tVar 10) (tC (.int 0))) (tt := tYes) rfl sc_lbody.nd (pi_list (pv 1)) (blkOk_by (own := [("_law_deed", 10)]) (N := [("_law_source" : Str), ("_law_some" : Str), ("_law_makes" : Str), ("_law_words" : Str), ("_law_word" : Str), ("_law_kind" : Str), ("_law_things" : Str), ("_law_odd_here" : Str), ("_law_thing" : Str), ("_law_under" : Str), ("_law_deed" : Str)]) (sc := defScope (top 59)) (by decide +kernel)) (fun _ _ _ _ _ => pg_name (i := 10) sc_lbody.nd rfl (Or.inl rfl)) (fun _ _ _ _ _ => pts_nil) (fun _ _ _ _ _ => (pe_ix ix_tup (pv 10) pe_int (fun _ _ => rfl))))))
      (pss_cons (ps_set (i := 8) sc_lbody.nd rfl (Or.inl rfl) (pe_cl (cl_one T M) hr (by decide) (pa_cons (pv 0) (pa_cons (pe_ifExp (PW.pt (pw_and (pt_cmpR (op_neE hr.units) (pv 6) (pe_lst pa_nil) (nomark _)) (pw_and1 (pt_cmpR op_gt (pe_cl (cl_takeB T M) hr (by decide) (pa_cons (pv 0) (pa_cons pe_int pa_nil))) pe_int (nomark _))))) (pv 6) (pv 7)) pa_nil))))
      (pss_cons (ps_if (pt_cmpR op_eq (pv 4) pe_str (nomark _)) (pss_one (ps_ret (pe_tup (pa_cons (pv 4) (pa_cons (pv 8) pa_nil))))) pss_nil)
      (pss_cons (ps_if (pt_cmpR op_eq (pv 4) pe_str (nomark _)) (pss_cons (ps_set (i := 9) sc_lbody.nd rfl (Or.inl rfl) (pe_cl (cl_one T M) hr (by decide) (pa_cons (pv 0) (pa_cons (pe_ifExp (pt_cmpR op_gt (pe_cl (cl_takeB T M) hr (by decide) (pa_cons (pv 0) (pa_cons pe_int pa_nil))) pe_int (nomark _)) (pe_cl (cl_holders T) hr (by decide) (pa_cons (pv 1) pa_nil)) (pv 7)) pa_nil))))
      (pss_one (ps_ret (pe_tup (pa_cons (pv 4) (pa_cons (pv 8) (pa_cons (pv 9) (pa_cons (pe_cl (cl_one T M) hr (by decide) (pa_cons (pv 0) (pa_cons (li_list (ds := [.int 0, .int 1, .int 2, .int 5, .int 999]) (las_cons li_int (las_cons li_int (las_cons li_int (las_cons li_int (las_cons li_int las_nil))))) (by decide)) pa_nil))) pa_nil)))))))) pss_nil)
      (pss_one (ps_ret (pe_tup (pa_cons (pv 4) (pa_cons (pv 8) (pa_cons (pe_cl (cl_content T M) hr (by decide) (pa_cons (pv 0) (pa_cons (pv 5) (pa_cons (pv 1) pa_nil)))) pa_nil))))))))))))))))), ?_⟩
    have few := hs.few
    refine ⟨_, rfl, a, rfl, ⟨us, (hid_same p H).seq hs.seq⟩, fun D1 nD1 => ?_⟩
    refine lc_deeds (j := 10) IsMake hs nD1 (fun _ => rfl) (fun _ => rfl) (fun u d H' Qb hr' hq b kb => ?_) (fun H1 acc1 es1 b1 e1 q1 st1 l1 => ?_)
    · obtain ⟨ad, xs, uS, uB, sd, kd, x, l, rfl, ht, i0, i2, qs, st, qb, hb, ed⟩ := deed_parts hq hr'
      have Sv := b.same.trans (hid_same p H')
      obtain ⟨ab, ys, u0, rfl, hy, j0, qx⟩ := (qb.to Sv).item (i := 0) rfl
      cases qx
      refine ⟨_, rfl, ad, xs, _, _, rfl, rfl, K0.seqT_same Sv ht, i2, ab, ys, _, _, rfl, rfl, hy, j0, rfl, _, rfl, kb _ H' (Bt.refl b.src) fun e => ?_⟩
      rw [dec_str, decide_eq_true_eq] at e
      subst e
      exact ⟨_, _, _, ed⟩
    · have ne1 := (Bt.refl hs.src).ne nD1
      have mk1 : Some K p H1 D1 acc1 es1 := Some.sub (ds := ds) b1 nD1 ne1 e1 q1 (fun e he => hs.right e (st1 e he).1) (by omega)
      refine fun H2 q2 v2 S2 n2 e2 d2 => ?_
      have b2 := b1.grow S2
      have ne2 := b1.ne n2
      refine ⟨_, rfl, _, rfl, p, q2, v2, wordL, rfl, b2.src, SqL.of (by rw [hid_ne ne2]; exact e2), d2.to (nw_hid b1.src), by decide, by decide, fun H3 u3 d3 hx b3 q3 => ?_⟩
      obtain ⟨x, rfl, hw⟩ := word_of hx
      cases q3
      have bH3 := b2.trans b3
      have made : ∀ J, Bt p H J → ∀ (Dn : Ends), Dn.rt = Q → ∃ p' a' us' ds', [V.ref p, V.ref a] = [.ref p', .ref a'] ∧ Some K p' J a' us' ds' ∧ ∀ H' u x l, bodyR x l = true → Bt p' J H' → DQ K (hid p' H') u (.tuple (.str x :: l)) → Dn.rt u H' := fun J bJ Dn hD =>
        ⟨p, a, us, ds, rfl, hs.to bJ, fun H' u x l hb b q => by rw [hD]; exact k H' u x l hb (bJ.trans b) q⟩
      refine ⟨_, rfl, rfl, _, rfl, ?_⟩
      rw [dec_str]
      by_cases c1 : x = "make"
      · rw [decide_eq_true c1]
        exact iteT (iteT ⟨_, rfl, _, rfl, made H3 bH3 _ rfl⟩)
      · rw [decide_eq_false c1]
        have f3 : H3 D1 = some (.lst acc1) := b3.at ne1 (S2 _ _ e1)
        refine iteF ⟨_, rfl, Nat.zero_le _, fun q4 n4 => ⟨D1, q4, acc1, rfl, rfl, .inl ⟨SqL.of ((upd_ne (ne_of_none f3 n4)).trans f3), SqL.of upd_same⟩, _, rfl, ?_⟩⟩
        have b4 := bH3.new (o := .lst []) n4
        have f4 : upd H3 q4 (.lst []) D1 = some (.lst acc1) := (upd_ne (ne_of_none f3 n4)).trans f3
        have mk4 := (mk1.to (Bt.refl b1.src |>.grow S2)).to b3
        have c34 := (Bt.refl b3.src).new (o := .lst []) n4
        have mk5 := mk4.to c34
        generalize upd H3 q4 (.lst []) = H4 at b4 f4 mk5 ⊢
        cases em : acc1.isEmpty with
        | true => exact iteT ⟨_, rfl, _, rfl, made H4 b4 _ rfl⟩
        | false =>
          have pos : 0 < ds.length := by
            have z : acc1 ≠ [] := fun z => by
              rw [z] at em
              cases em
            have y := mk5.all.len
            have := List.length_pos_iff.mpr z
            omega
          refine iteF ⟨_, rfl, (by show 2 ≤ sizeLine; rw [sizeLine_eq]; decide), fun q5 n5 => ⟨q5, _, rfl, .inl (SqL.of upd_same), rfl, rfl, _, rfl, ?_⟩⟩
          have b5 := b4.new (o := .lst [.str "undo", .str "redo"]) n5
          have mk6 := mk5.to ((Bt.refl b4.src).new (o := .lst [.str "undo", .str "redo"]) n5)
          generalize upd H4 q5 (.lst [.str "undo", .str "redo"]) = H5 at b5 mk6 ⊢
          have hs5 := hs.to b5
          show if inV (.str x) _ = true then _ else _
          rw [in_marks]
          by_cases c2 : x = "undo" ∨ x = "redo"
          · rw [decide_eq_true c2]
            refine iteT ⟨_, rfl, _, rfl, _, rfl, a, rfl, ⟨us, (hid_same p H5).seq hs5.seq⟩, fun D2 nD2 => ?_⟩
            refine lc_stampsA (j := 10) hs5 nD2 (fun _ => rfl) (fun _ => rfl) (fun H6 acc6 es6 b6 e6 q6 st6 l6 => ?_)
            have ne6 := b5.ne nD2
            refine ⟨p, D2, acc6, es6, rfl, b6.src, SqL.of (by rw [hid_ne ne6]; exact e6), q6.to b6.same, by omega, by omega, fun H7 u7 d7 h7 b7 q7 => ⟨(by show 2 ≤ sizeLine; rw [sizeLine_eq]; decide), fun q8 n8 => ?_⟩⟩
            have b8 := ((b5.trans b6).trans b7).new (o := .tup [.str x, u7]) n8
            have c8 := (Bt.refl b7.src).new (o := .tup [.str x, u7]) n8
            have ne8 := b7.ne n8
            refine k _ _ x [d7] ?_ b8 (.tup (.inl (.inl (by rw [hid_ne ne8]; exact upd_same))) (.cons (.str _ ?_) (.cons (q7.to c8.same) .nil)))
            · unfold bodyR
              rw [if_neg c1]
              have n1 : ¬ x = "move" := fun z => by
                rw [z] at c2
                revert c2
                decide +kernel
              have n2 : ¬ x = "drop" := fun z => by
                rw [z] at c2
                revert c2
                decide +kernel
              rw [if_neg n1, if_neg n2, if_pos c2]
              exact st6 d7 h7
            · rcases c2 with z | z <;>
                · rw [z]
                  decide +kernel
          · rw [decide_eq_false c2]
            refine iteF (fun pd nd => ⟨upd_same, [((.inr "wish" : Key), V.str "let"), (.inr "point", .str "use"), (.inr "set", .str "number")], rfl, by decide, ?_⟩)
            refine ⟨pd, rfl, .inl ⟨_, .inl upd_same⟩, _, rfl, valV (mergeK [] [((.inr "wish" : Key), V.str "let"), (.inr "point", .str "use"), (.inr "set", .str "number")]) (.inr x), .inl ⟨_, .inr x, .inl upd_same, rfl, rfl⟩, ?_⟩
            have nepd := b5.ne nd
            have c6 := ((Bt.refl b5.src).over (o := .dK []) nd nepd).over (o := .dK (mergeK [] [((.inr "wish" : Key), V.str "let"), (.inr "point", .str "use"), (.inr "set", .str "number")])) nd nepd
            have hkv : ((valV (mergeK [] [((.inr "wish" : Key), V.str "let"), (.inr "point", .str "use"), (.inr "set", .str "number")]) (.inr x)).getD .non = .non ∧ (x = "move" ∨ x = "drop")) ∨
                ∃ y : Str, (valV (mergeK [] [((.inr "wish" : Key), V.str "let"), (.inr "point", .str "use"), (.inr "set", .str "number")]) (.inr x)).getD .non = .str y ∧ ((x = "wish" ∧ y = "let") ∨ (x = "point" ∧ y = "use") ∨ (x = "set" ∧ y = "number")) := by
              rcases hw with z | z | z | z | z | z | z | z
              · exact absurd z c1
              · exact absurd (.inl z) c2
              · exact absurd (.inr z) c2
              · exact .inl ⟨by rw [z]; decide +kernel, .inl z⟩
              · exact .inl ⟨by rw [z]; decide +kernel, .inr z⟩
              · exact .inr ⟨"let", by rw [z]; decide +kernel, .inl ⟨z, rfl⟩⟩
              · exact .inr ⟨"use", by rw [z]; decide +kernel, .inr (.inl ⟨z, rfl⟩)⟩
              · exact .inr ⟨"number", by rw [z]; decide +kernel, .inr (.inr ⟨z, rfl⟩)⟩
            generalize (valV (mergeK [] [((.inr "wish" : Key), V.str "let"), (.inr "point", .str "use"), (.inr "set", .str "number")]) (.inr x)).getD .non = kv at hkv ⊢
            generalize upd (upd H5 pd (.dK [])) pd (.dK (mergeK [] [((.inr "wish" : Key), V.str "let"), (.inr "point", .str "use"), (.inr "set", .str "number")])) = H6 at c6 ⊢
            have b6 := b5.trans c6
            have mk7 := mk6.to c6
            refine ⟨_, rfl, D1, rfl, ⟨acc1, (hid_same p H6).seq mk7.seq⟩, fun D3 nD3 => ?_⟩
            refine lc_stamps (j := 10) mk7 nD3 (fun _ => rfl) (fun _ => rfl) (fun u d H' Qb hr' hq b kb => ?_) (fun H7 acc7 es7 b7 e7 q7 st7 l7 => ?_)
            · refine ⟨_, rfl, rfl, _, rfl, ?_⟩
              rcases hkv with ⟨z, _⟩ | ⟨y, z, _⟩
              · rw [z, decide_eq_true rfl]
                exact iteT (kb true H' (Bt.refl b.src))
              · rw [z, decide_eq_false (fun e => by cases e)]
                obtain ⟨s0, k0, l0, ed0⟩ := (st1 d hr'.1).2
                obtain ⟨ad, xs, uS, uB, sd, kd, x', l', rfl, ht, i0, i2, qs, st, qb, hb, ed⟩ := deed_parts hq hr'.2
                have e2 := ed.symm.trans ed0
                simp only [PyData.tuple.injEq, List.cons.injEq, PyData.str.injEq, and_true] at e2
                obtain ⟨_, _, e3, _⟩ := e2
                subst e3
                obtain ⟨y', u', k', c', rfl, _⟩ := make_kind hb
                have Sv := b.same.trans (hid_same p H')
                obtain ⟨ab, ys, u1, rfl, hy, j1, qx⟩ := (qb.to Sv).item (i := 1) rfl
                cases qx
                exact iteF ⟨_, rfl, ad, xs, _, _, rfl, rfl, K0.seqT_same Sv ht, i2, ab, ys, _, _, rfl, rfl, hy, j1, _, rfl, rfl, _, rfl, kb _ H' (Bt.refl b.src)⟩
            · have ne7 := b6.ne nD3
              have b67 := b6.trans b7
              refine fun H8 q8 v8 S8 n8 e8 d8 => ?_
              have b8 := b67.grow S8
              have c8 := (Bt.refl b7.src).grow S8
              have hs8 := hs.to b8
              have ne8 := b67.ne n8
              refine ⟨_, rfl, a, rfl, ⟨us, (hid_same p H8).seq hs8.seq⟩, fun D4 nD4 => ?_⟩
              refine lc_stampsA (j := 10) hs8 nD4 (fun _ => rfl) (fun _ => rfl) (fun H9 acc9 es9 b9 e9 q9 st9 l9 => ?_)
              have b89 := b8.trans b9
              have a8 := (d8.to (nw_hid b67.src)).to b9.same
              have a9 := q9.to b9.same
              have L8 : v8.length = 1 := d8.len
              have L9 := a9.len
              refine ⟨q8, D4, v8, acc9, rfl, rfl, b9.at ne8 e8, e9, by rw [sizeLine_eq]; omega, fun q10 n10 => ?_⟩
              have b10 := b89.new (o := .lst (v8 ++ acc9)) n10
              have c10 := (Bt.refl b89.src).new (o := .lst (v8 ++ acc9)) n10
              have ne10 := b89.ne n10
              have lo : LstOf K p (upd H9 q10 (.lst (v8 ++ acc9))) q10 (v8 ++ acc9) ([.tuple [.int 0, .int 0]] ++ es9) := ⟨upd_same, ne10, (a8.app a9).to c10.same⟩
              have lt7 : LstOf K p (upd H9 q10 (.lst (v8 ++ acc9))) D3 acc7 es7 := ⟨c10.at ne7 (b9.at ne7 (S8 _ _ e7)), ne7, (((q7.to b7.same).to c8.same).to b9.same).to c10.same⟩
              generalize upd H9 q10 (.lst (v8 ++ acc9)) = H10 at b10 lo lt7 ⊢
              have ho : ∀ e ∈ ([.tuple [.int 0, .int 0]] ++ es9 : List PyData), thingD e = true := fun e he => by
                rcases List.mem_append.mp he with z | z
                · rw [List.mem_singleton.mp z]
                  decide +kernel
                · exact stamp_thing (st9 e z)
              have lo1 : ([.tuple [.int 0, .int 0]] ++ es9 : List PyData).length ≤ 100 := by
                rw [List.length_append]
                show 1 + es9.length ≤ 100
                omega
              have lo0 : 0 < ([.tuple [.int 0, .int 0]] ++ es9 : List PyData).length := by
                rw [List.length_append]
                show 0 < 1 + es9.length
                omega
              have oneR : ∀ (J : Hp) (l : Addr) (vs : List V) (es : List PyData) (QQ : VK), LstOf K p J l vs es → Src J p → (∀ e ∈ es, thingD e = true) → 0 < es.length → es.length ≤ 100 → (∀ J' u d, thingD d = true → Bt p J J' → DQ K (hid p J') u d → QQ u J') → spOne K [.ref p, .ref l] J QQ E0 :=
                fun J l vs es QQ h1 h2 h3 h4 h5 h6 => ⟨p, l, vs, es, rfl, h2, SqL.of (by rw [hid_ne h1.ne]; exact h1.at_), h1.all, h4, by omega, fun J' u d hd bJ hq => h6 J' u d (h3 d hd) bJ hq⟩
              refine ⟨_, rfl, _, rfl, Nat.zero_le _, fun q11 n11 => ⟨D3, q11, acc7, rfl, rfl, SqL.of ((upd_ne (ne_of_none lt7.at_ n11)).trans lt7.at_), SqL.of upd_same, _, rfl, ?_⟩⟩
              have b11 := b10.new (o := .lst []) n11
              have c11 := (Bt.refl b10.src).new (o := .lst []) n11
              have lo' := lo.to c11
              have lt' := lt7.to c11
              generalize upd H10 q11 (.lst []) = H11 at b11 lo' lt' ⊢
              have L7 := lt'.all.len
              have word : PyData.strOk x = true ∧ x.length ≤ 1000 := by
                rcases hw with z | z | z | z | z | z | z | z <;>
                  · rw [z]
                    exact ⟨by decide +kernel, by decide +kernel⟩
              cases e7' : acc7.isEmpty with
              | true =>
                refine iteF ⟨_, rfl, oneR H11 q10 _ _ _ lo' b11.src ho lo0 lo1 fun J uJ dJ tJ bJ hJ => ?_⟩
                have bHJ := b11.trans bJ
                have loJ := lo'.to bJ
                refine ⟨_, rfl, rfl, _, rfl, ?_⟩
                rw [dec_str]
                by_cases c3 : x = "drop"
                · rw [decide_eq_true c3]
                  refine iteT ⟨_, rfl, _, rfl, (by show 2 ≤ sizeLine; rw [sizeLine_eq]; decide), fun r n => ?_⟩
                  have bq := bHJ.new (o := .tup [.str x, uJ]) n
                  have cq := (Bt.refl bHJ.src).new (o := .tup [.str x, uJ]) n
                  have neq := bHJ.ne n
                  refine k _ _ x [dJ] ?_ bq (.tup (.inl (.inl (by rw [hid_ne neq]; exact upd_same))) (.cons (.str _ word.2) (.cons (hJ.to cq.same) .nil)))
                  unfold bodyR
                  have n1 : ¬ x = "move" := by
                    rw [c3]
                    decide +kernel
                  rw [if_neg c1, if_neg n1, if_pos c3]
                  exact tJ
                · rw [decide_eq_false c3]
                  refine iteF ⟨_, rfl, rfl, _, rfl, ?_⟩
                  rw [dec_str]
                  by_cases c4 : x = "move"
                  · rw [decide_eq_true c4]
                    refine iteT ⟨_, rfl, _, rfl, p, 9, rfl, bHJ.src, by decide, by decide, fun r J2 r0 r1 b2 => ⟨_, _, rfl, rfl, _, rfl, ?_⟩⟩
                    refine ite2 (fun _ => ?_) (fun _ => ?_)
                    · refine ⟨_, rfl, p, a, us, ds, rfl, hs.to (bHJ.trans b2), fun J3 l3 vs3 es3 b3' lst3 h3 h30 h31 => oneR J3 l3 vs3 es3 _ lst3 b3'.src h3 h30 (by omega) fun J4 uK dK tK b4' hK => ?_⟩
                      have bK := (b2.trans b3').trans b4'
                      refine ⟨_, rfl, _, rfl, _, rfl, _, rfl, fun N1 r1 w1 T1 m1 f1 g1 => one_lit (E := E0) bK.src T1 m1 f1 g1 (by decide) (by decide) fun N2 u5 x5 hx5 bN2 q5 => ⟨(by show 4 ≤ sizeLine; rw [sizeLine_eq]; decide), fun r n => ?_⟩⟩
                      have bq := ((bHJ.trans bK).trans bN2).new (o := .tup [.str x, uJ, uK, u5]) n
                      have cq := (Bt.refl bN2.src).new (o := .tup [.str x, uJ, uK, u5]) n
                      have neq := bN2.ne n
                      have hkey : fromD 0 999 x5 = true := List.all_eq_true.mp (show ([.int 0, .int 1, .int 2, .int 5, .int 999] : List PyData).all (fromD 0 999) = true by decide +kernel) x5 hx5
                      refine k _ _ x [dJ, dK, x5] ?_ bq (.tup (.inl (.inl (by rw [hid_ne neq]; exact upd_same))) (.cons (.str _ word.2) (.cons ((hJ.to bK.same).to (bN2.same.trans cq.same)) (.cons (hK.to (bN2.same.trans cq.same)) (.cons (q5.to cq.same) .nil)))))
                      unfold bodyR
                      rw [if_neg c1, if_pos c4]
                      show (thingD dJ && (thingD dK && fromD 0 999 x5)) = true
                      rw [tJ, tK, hkey]
                      rfl
                    · refine ⟨_, rfl, oneR J2 q10 _ _ _ (loJ.to b2) b2.src ho lo0 lo1 fun J4 uK dK tK b4' hK => ?_⟩
                      have bK := b2.trans b4'
                      refine ⟨_, rfl, _, rfl, _, rfl, _, rfl, fun N1 r1 w1 T1 m1 f1 g1 => one_lit (E := E0) bK.src T1 m1 f1 g1 (by decide) (by decide) fun N2 u5 x5 hx5 bN2 q5 => ⟨(by show 4 ≤ sizeLine; rw [sizeLine_eq]; decide), fun r n => ?_⟩⟩
                      have bq := ((bHJ.trans bK).trans bN2).new (o := .tup [.str x, uJ, uK, u5]) n
                      have cq := (Bt.refl bN2.src).new (o := .tup [.str x, uJ, uK, u5]) n
                      have neq := bN2.ne n
                      have hkey : fromD 0 999 x5 = true := List.all_eq_true.mp (show ([.int 0, .int 1, .int 2, .int 5, .int 999] : List PyData).all (fromD 0 999) = true by decide +kernel) x5 hx5
                      refine k _ _ x [dJ, dK, x5] ?_ bq (.tup (.inl (.inl (by rw [hid_ne neq]; exact upd_same))) (.cons (.str _ word.2) (.cons ((hJ.to bK.same).to (bN2.same.trans cq.same)) (.cons (hK.to (bN2.same.trans cq.same)) (.cons (q5.to cq.same) .nil)))))
                      unfold bodyR
                      rw [if_neg c1, if_pos c4]
                      show (thingD dJ && (thingD dK && fromD 0 999 x5)) = true
                      rw [tJ, tK, hkey]
                      rfl
                  · rw [decide_eq_false c4]
                    rcases hkv with ⟨_, z | z⟩ | ⟨y, z, hy⟩
                    · exact absurd z c4
                    · exact absurd z c3
                    · subst z
                      refine iteF ⟨_, rfl, _, rfl, _, rfl, _, rfl, _, rfl, p, y, a, us, ds, rfl, hs.to bHJ, fun J4 uK dK tK bK hK => ⟨(by show 3 ≤ sizeLine; rw [sizeLine_eq]; decide), fun r n => ?_⟩⟩
                      have bq := (bHJ.trans bK).new (o := .tup [.str x, uJ, uK]) n
                      have cq := (Bt.refl bK.src).new (o := .tup [.str x, uJ, uK]) n
                      have neq := bK.ne n
                      refine k _ _ x [dJ, dK] ?_ bq (.tup (.inl (.inl (by rw [hid_ne neq]; exact upd_same))) (.cons (.str _ word.2) (.cons ((hJ.to bK.same).to cq.same) (.cons (hK.to cq.same) .nil))))
                      unfold bodyR
                      rw [if_neg c1, if_neg c4, if_neg c3, if_neg c2]
                      show (thingD dJ && writeD (.str x) dK) = true
                      rw [tJ, Bool.true_and]
                      show (if x = "wish" then nameD dK else if x = "point" then binderD dK else decide (x = "set") && fromD 0 99 dK) = true
                      unfold contF at tK
                      rcases hy with ⟨z1, z2⟩ | ⟨z1, z2⟩ | ⟨z1, z2⟩
                      · subst z1
                        subst z2
                        exact tK
                      · subst z1
                        subst z2
                        exact tK
                      · subst z1
                        subst z2
                        exact tK
              | false =>
                have pos7 : 0 < es7.length := by
                  have z : acc7 ≠ [] := fun z => by
                    rw [z] at e7'
                    cases e7'
                  have := List.length_pos_iff.mpr z
                  omega
                refine iteT ⟨_, rfl, p, 9, rfl, b11.src, by decide, by decide, fun r J1 r0 r1 bJ1 => ⟨_, _, rfl, rfl, _, rfl, ?_⟩⟩
                refine ite2 (fun _ => ?_) (fun _ => ?_)
                · refine ⟨_, rfl, oneR J1 D3 _ _ _ (lt'.to bJ1) bJ1.src (fun e he => stamp_thing (st7 e he)) pos7 (by have := mk7.few; omega) fun J uJ dJ tJ bJ hJ => ?_⟩
                  have bHJ := (b11.trans bJ1).trans bJ
                  have loJ := (lo'.to bJ1).to bJ
                  refine ⟨_, rfl, rfl, _, rfl, ?_⟩
                  rw [dec_str]
                  by_cases c3 : x = "drop"
                  · rw [decide_eq_true c3]
                    refine iteT ⟨_, rfl, _, rfl, (by show 2 ≤ sizeLine; rw [sizeLine_eq]; decide), fun r n => ?_⟩
                    have bq := bHJ.new (o := .tup [.str x, uJ]) n
                    have cq := (Bt.refl bHJ.src).new (o := .tup [.str x, uJ]) n
                    have neq := bHJ.ne n
                    refine k _ _ x [dJ] ?_ bq (.tup (.inl (.inl (by rw [hid_ne neq]; exact upd_same))) (.cons (.str _ word.2) (.cons (hJ.to cq.same) .nil)))
                    unfold bodyR
                    have n1 : ¬ x = "move" := by
                      rw [c3]
                      decide +kernel
                    rw [if_neg c1, if_neg n1, if_pos c3]
                    exact tJ
                  · rw [decide_eq_false c3]
                    refine iteF ⟨_, rfl, rfl, _, rfl, ?_⟩
                    rw [dec_str]
                    by_cases c4 : x = "move"
                    · rw [decide_eq_true c4]
                      refine iteT ⟨_, rfl, _, rfl, p, 9, rfl, bHJ.src, by decide, by decide, fun r J2 r0 r1 b2 => ⟨_, _, rfl, rfl, _, rfl, ?_⟩⟩
                      refine ite2 (fun _ => ?_) (fun _ => ?_)
                      · refine ⟨_, rfl, p, a, us, ds, rfl, hs.to (bHJ.trans b2), fun J3 l3 vs3 es3 b3' lst3 h3 h30 h31 => oneR J3 l3 vs3 es3 _ lst3 b3'.src h3 h30 (by omega) fun J4 uK dK tK b4' hK => ?_⟩
                        have bK := (b2.trans b3').trans b4'
                        refine ⟨_, rfl, _, rfl, _, rfl, _, rfl, fun N1 r1 w1 T1 m1 f1 g1 => one_lit (E := E0) bK.src T1 m1 f1 g1 (by decide) (by decide) fun N2 u5 x5 hx5 bN2 q5 => ⟨(by show 4 ≤ sizeLine; rw [sizeLine_eq]; decide), fun r n => ?_⟩⟩
                        have bq := ((bHJ.trans bK).trans bN2).new (o := .tup [.str x, uJ, uK, u5]) n
                        have cq := (Bt.refl bN2.src).new (o := .tup [.str x, uJ, uK, u5]) n
                        have neq := bN2.ne n
                        have hkey : fromD 0 999 x5 = true := List.all_eq_true.mp (show ([.int 0, .int 1, .int 2, .int 5, .int 999] : List PyData).all (fromD 0 999) = true by decide +kernel) x5 hx5
                        refine k _ _ x [dJ, dK, x5] ?_ bq (.tup (.inl (.inl (by rw [hid_ne neq]; exact upd_same))) (.cons (.str _ word.2) (.cons ((hJ.to bK.same).to (bN2.same.trans cq.same)) (.cons (hK.to (bN2.same.trans cq.same)) (.cons (q5.to cq.same) .nil)))))
                        unfold bodyR
                        rw [if_neg c1, if_pos c4]
                        show (thingD dJ && (thingD dK && fromD 0 999 x5)) = true
                        rw [tJ, tK, hkey]
                        rfl
                      · refine ⟨_, rfl, oneR J2 q10 _ _ _ (loJ.to b2) b2.src ho lo0 lo1 fun J4 uK dK tK b4' hK => ?_⟩
                        have bK := b2.trans b4'
                        refine ⟨_, rfl, _, rfl, _, rfl, _, rfl, fun N1 r1 w1 T1 m1 f1 g1 => one_lit (E := E0) bK.src T1 m1 f1 g1 (by decide) (by decide) fun N2 u5 x5 hx5 bN2 q5 => ⟨(by show 4 ≤ sizeLine; rw [sizeLine_eq]; decide), fun r n => ?_⟩⟩
                        have bq := ((bHJ.trans bK).trans bN2).new (o := .tup [.str x, uJ, uK, u5]) n
                        have cq := (Bt.refl bN2.src).new (o := .tup [.str x, uJ, uK, u5]) n
                        have neq := bN2.ne n
                        have hkey : fromD 0 999 x5 = true := List.all_eq_true.mp (show ([.int 0, .int 1, .int 2, .int 5, .int 999] : List PyData).all (fromD 0 999) = true by decide +kernel) x5 hx5
                        refine k _ _ x [dJ, dK, x5] ?_ bq (.tup (.inl (.inl (by rw [hid_ne neq]; exact upd_same))) (.cons (.str _ word.2) (.cons ((hJ.to bK.same).to (bN2.same.trans cq.same)) (.cons (hK.to (bN2.same.trans cq.same)) (.cons (q5.to cq.same) .nil)))))
                        unfold bodyR
                        rw [if_neg c1, if_pos c4]
                        show (thingD dJ && (thingD dK && fromD 0 999 x5)) = true
                        rw [tJ, tK, hkey]
                        rfl
                    · rw [decide_eq_false c4]
                      rcases hkv with ⟨_, z | z⟩ | ⟨y, z, hy⟩
                      · exact absurd z c4
                      · exact absurd z c3
                      · subst z
                        refine iteF ⟨_, rfl, _, rfl, _, rfl, _, rfl, _, rfl, p, y, a, us, ds, rfl, hs.to bHJ, fun J4 uK dK tK bK hK => ⟨(by show 3 ≤ sizeLine; rw [sizeLine_eq]; decide), fun r n => ?_⟩⟩
                        have bq := (bHJ.trans bK).new (o := .tup [.str x, uJ, uK]) n
                        have cq := (Bt.refl bK.src).new (o := .tup [.str x, uJ, uK]) n
                        have neq := bK.ne n
                        refine k _ _ x [dJ, dK] ?_ bq (.tup (.inl (.inl (by rw [hid_ne neq]; exact upd_same))) (.cons (.str _ word.2) (.cons ((hJ.to bK.same).to cq.same) (.cons (hK.to cq.same) .nil))))
                        unfold bodyR
                        rw [if_neg c1, if_neg c4, if_neg c3, if_neg c2]
                        show (thingD dJ && writeD (.str x) dK) = true
                        rw [tJ, Bool.true_and]
                        show (if x = "wish" then nameD dK else if x = "point" then binderD dK else decide (x = "set") && fromD 0 99 dK) = true
                        unfold contF at tK
                        rcases hy with ⟨z1, z2⟩ | ⟨z1, z2⟩ | ⟨z1, z2⟩
                        · subst z1
                          subst z2
                          exact tK
                        · subst z1
                          subst z2
                          exact tK
                        · subst z1
                          subst z2
                          exact tK
                · refine ⟨_, rfl, oneR J1 q10 _ _ _ (lo'.to bJ1) bJ1.src ho lo0 lo1 fun J uJ dJ tJ bJ hJ => ?_⟩
                  have bHJ := (b11.trans bJ1).trans bJ
                  have loJ := (lo'.to bJ1).to bJ
                  refine ⟨_, rfl, rfl, _, rfl, ?_⟩
                  rw [dec_str]
                  by_cases c3 : x = "drop"
                  · rw [decide_eq_true c3]
                    refine iteT ⟨_, rfl, _, rfl, (by show 2 ≤ sizeLine; rw [sizeLine_eq]; decide), fun r n => ?_⟩
                    have bq := bHJ.new (o := .tup [.str x, uJ]) n
                    have cq := (Bt.refl bHJ.src).new (o := .tup [.str x, uJ]) n
                    have neq := bHJ.ne n
                    refine k _ _ x [dJ] ?_ bq (.tup (.inl (.inl (by rw [hid_ne neq]; exact upd_same))) (.cons (.str _ word.2) (.cons (hJ.to cq.same) .nil)))
                    unfold bodyR
                    have n1 : ¬ x = "move" := by
                      rw [c3]
                      decide +kernel
                    rw [if_neg c1, if_neg n1, if_pos c3]
                    exact tJ
                  · rw [decide_eq_false c3]
                    refine iteF ⟨_, rfl, rfl, _, rfl, ?_⟩
                    rw [dec_str]
                    by_cases c4 : x = "move"
                    · rw [decide_eq_true c4]
                      refine iteT ⟨_, rfl, _, rfl, p, 9, rfl, bHJ.src, by decide, by decide, fun r J2 r0 r1 b2 => ⟨_, _, rfl, rfl, _, rfl, ?_⟩⟩
                      refine ite2 (fun _ => ?_) (fun _ => ?_)
                      · refine ⟨_, rfl, p, a, us, ds, rfl, hs.to (bHJ.trans b2), fun J3 l3 vs3 es3 b3' lst3 h3 h30 h31 => oneR J3 l3 vs3 es3 _ lst3 b3'.src h3 h30 (by omega) fun J4 uK dK tK b4' hK => ?_⟩
                        have bK := (b2.trans b3').trans b4'
                        refine ⟨_, rfl, _, rfl, _, rfl, _, rfl, fun N1 r1 w1 T1 m1 f1 g1 => one_lit (E := E0) bK.src T1 m1 f1 g1 (by decide) (by decide) fun N2 u5 x5 hx5 bN2 q5 => ⟨(by show 4 ≤ sizeLine; rw [sizeLine_eq]; decide), fun r n => ?_⟩⟩
                        have bq := ((bHJ.trans bK).trans bN2).new (o := .tup [.str x, uJ, uK, u5]) n
                        have cq := (Bt.refl bN2.src).new (o := .tup [.str x, uJ, uK, u5]) n
                        have neq := bN2.ne n
                        have hkey : fromD 0 999 x5 = true := List.all_eq_true.mp (show ([.int 0, .int 1, .int 2, .int 5, .int 999] : List PyData).all (fromD 0 999) = true by decide +kernel) x5 hx5
                        refine k _ _ x [dJ, dK, x5] ?_ bq (.tup (.inl (.inl (by rw [hid_ne neq]; exact upd_same))) (.cons (.str _ word.2) (.cons ((hJ.to bK.same).to (bN2.same.trans cq.same)) (.cons (hK.to (bN2.same.trans cq.same)) (.cons (q5.to cq.same) .nil)))))
                        unfold bodyR
                        rw [if_neg c1, if_pos c4]
                        show (thingD dJ && (thingD dK && fromD 0 999 x5)) = true
                        rw [tJ, tK, hkey]
                        rfl
                      · refine ⟨_, rfl, oneR J2 q10 _ _ _ (loJ.to b2) b2.src ho lo0 lo1 fun J4 uK dK tK b4' hK => ?_⟩
                        have bK := b2.trans b4'
                        refine ⟨_, rfl, _, rfl, _, rfl, _, rfl, fun N1 r1 w1 T1 m1 f1 g1 => one_lit (E := E0) bK.src T1 m1 f1 g1 (by decide) (by decide) fun N2 u5 x5 hx5 bN2 q5 => ⟨(by show 4 ≤ sizeLine; rw [sizeLine_eq]; decide), fun r n => ?_⟩⟩
                        have bq := ((bHJ.trans bK).trans bN2).new (o := .tup [.str x, uJ, uK, u5]) n
                        have cq := (Bt.refl bN2.src).new (o := .tup [.str x, uJ, uK, u5]) n
                        have neq := bN2.ne n
                        have hkey : fromD 0 999 x5 = true := List.all_eq_true.mp (show ([.int 0, .int 1, .int 2, .int 5, .int 999] : List PyData).all (fromD 0 999) = true by decide +kernel) x5 hx5
                        refine k _ _ x [dJ, dK, x5] ?_ bq (.tup (.inl (.inl (by rw [hid_ne neq]; exact upd_same))) (.cons (.str _ word.2) (.cons ((hJ.to bK.same).to (bN2.same.trans cq.same)) (.cons (hK.to (bN2.same.trans cq.same)) (.cons (q5.to cq.same) .nil)))))
                        unfold bodyR
                        rw [if_neg c1, if_pos c4]
                        show (thingD dJ && (thingD dK && fromD 0 999 x5)) = true
                        rw [tJ, tK, hkey]
                        rfl
                    · rw [decide_eq_false c4]
                      rcases hkv with ⟨_, z | z⟩ | ⟨y, z, hy⟩
                      · exact absurd z c4
                      · exact absurd z c3
                      · subst z
                        refine iteF ⟨_, rfl, _, rfl, _, rfl, _, rfl, _, rfl, p, y, a, us, ds, rfl, hs.to bHJ, fun J4 uK dK tK bK hK => ⟨(by show 3 ≤ sizeLine; rw [sizeLine_eq]; decide), fun r n => ?_⟩⟩
                        have bq := (bHJ.trans bK).new (o := .tup [.str x, uJ, uK]) n
                        have cq := (Bt.refl bK.src).new (o := .tup [.str x, uJ, uK]) n
                        have neq := bK.ne n
                        refine k _ _ x [dJ, dK] ?_ bq (.tup (.inl (.inl (by rw [hid_ne neq]; exact upd_same))) (.cons (.str _ word.2) (.cons ((hJ.to bK.same).to cq.same) (.cons (hK.to cq.same) .nil))))
                        unfold bodyR
                        rw [if_neg c1, if_neg c4, if_neg c3, if_neg c2]
                        show (thingD dJ && writeD (.str x) dK) = true
                        rw [tJ, Bool.true_and]
                        show (if x = "wish" then nameD dK else if x = "point" then binderD dK else decide (x = "set") && fromD 0 99 dK) = true
                        unfold contF at tK
                        rcases hy with ⟨z1, z2⟩ | ⟨z1, z2⟩ | ⟨z1, z2⟩
                        · subst z1
                          subst z2
                          exact tK
                        · subst z1
                          subst z2
                          exact tK
                        · subst z1
                          subst z2
                          exact tK
end
end K1
set_option maxHeartbeats 4000000
/-! the drawn world -/
namespace K1
open PySem L2
theorem hid_mono {q : Addr} {A B : Hp} (s : Same A B) : Same (hid q A) (hid q B) := fun b u e => by
  obtain ⟨h1, h2⟩ := hid_at e
  rw [hid_ne h1]
  exact s b u h2
/-- all but the source, the list of deeds and the list of rows -/
def gnd (p D R : Addr) (H : Hp) : Hp := hid R (hid D (hid p H))
theorem gnd_hid (p D R : Addr) (H : Hp) : Same (gnd p D R H) (hid p H) := (hid_same R _).trans (hid_same D _)
theorem gnd_in (p D R : Addr) (H : Hp) : Same (gnd p D R H) H := (gnd_hid p D R H).trans (hid_same p H)
theorem gnd_mono {p D R : Addr} {H H' : Hp} (s : Same (hid p H) (hid p H')) : Same (gnd p D R H) (gnd p D R H') := hid_mono (hid_mono s)
theorem gnd_at {p D R b : Addr} {H : Hp} {u : HO} (h : gnd p D R H b = some u) : b ≠ R ∧ b ≠ D ∧ b ≠ p ∧ H b = some u := by
  obtain ⟨h1, h2⟩ := hid_at h
  obtain ⟨h3, h4⟩ := hid_at h2
  obtain ⟨h5, h6⟩ := hid_at h4
  exact ⟨h1, h3, h5, h6⟩
theorem gnd_of {p D R b : Addr} {H : Hp} {u : HO} (h1 : b ≠ R) (h2 : b ≠ D) (h3 : b ≠ p) (h : H b = some u) : gnd p D R H b = some u := by
  unfold gnd
  rw [hid_ne h1, hid_ne h2, hid_ne h3]
  exact h
/-- the two lists changed, all else of the ground stands -/
theorem gnd_upd {p D R q : Addr} {H : Hp} {o : HO} (h : q = D ∨ q = R) : Same (gnd p D R H) (gnd p D R (upd H q o)) := fun b u e => by
  obtain ⟨h1, h2, h3, h4⟩ := gnd_at e
  refine gnd_of h1 h2 h3 ?_
  rcases h with z | z
  · rw [upd_ne (by rw [z]; exact h2)]
    exact h4
  · rw [upd_ne (by rw [z]; exact h1)]
    exact h4
mutual
/-- plain data is none of the lists that change -/
theorem dq_gnd {K : PySem.W.Frag} {p D R : Addr} {H : Hp} {us vs : List V} (hD : H D = some (.lst us)) (hR : H R = some (.lst vs)) : ∀ (d : PyData) (v : V), d.hasDict = false → noList d = true → DQ K (hid p H) v d → DQ K (gnd p D R H) v d
  | .none, _, _, _, h => by
    cases h
    exact .non
  | .bool b, _, _, _, h => by
    cases h
    exact .bl b
  | .int i, _, _, _, h => by
    cases h
    exact .int i
  | .str x, _, _, _, h => by
    cases h with
    | str _ h => exact .str x h
  | .list ds, _, _, n, h => by cases n
  | .tuple ds, _, n, l, h => by
    cases h with
    | tup h1 h2 =>
      refine .tup ?_ (dqs_gnd hD hR ds _ n l h2)
      rcases h1 with (h | ⟨o, h⟩) | h
      · obtain ⟨h3, h4⟩ := hid_at h
        exact .inl (.inl (gnd_of (ne_of h4 hR (by intro z; cases z)) (ne_of h4 hD (by intro z; cases z)) h3 h4))
      · obtain ⟨h3, h4⟩ := hid_at h
        exact .inl (.inr ⟨o, gnd_of (ne_of h4 hR (by intro z; cases z)) (ne_of h4 hD (by intro z; cases z)) h3 h4⟩)
      · exact .inr h
  | .dict _, _, n, _, _ => by cases n
theorem dqs_gnd {K : PySem.W.Frag} {p D R : Addr} {H : Hp} {us vs : List V} (hD : H D = some (.lst us)) (hR : H R = some (.lst vs)) : ∀ (ds : List PyData) (xs : List V), PyData.hasDictAll ds = false → noListAll ds = true → DQs K (hid p H) xs ds → DQs K (gnd p D R H) xs ds
  | [], _, _, _, h => by
    cases h
    exact .nil
  | d :: ds, _, n, l, h => by
    have z : (d.hasDict || PyData.hasDictAll ds) = false := n
    rw [Bool.or_eq_false_iff] at z
    have y : (noList d && noListAll ds) = true := l
    rw [Bool.and_eq_true] at y
    cases h with
    | cons h1 h2 => exact .cons (dq_gnd hD hR d _ z.1 y.1 h1) (dqs_gnd hD hR ds _ z.2 y.2 h2)
end
/-- a row of times -/
def Row (K : PySem.W.Frag) (G : Hp) (u : V) (r : List Int) : Prop := ∃ a, u = .ref a ∧ SqL K G a (r.map V.int)
theorem Row.to {K : PySem.W.Frag} {G G' : Hp} {u : V} {r : List Int} (h : Row K G u r) (s : Same G G') : Row K G' u r := by
  obtain ⟨a, e, h⟩ := h
  exact ⟨a, e, s.seq h⟩
theorem paired_imp {α β : Type} {F F' : α → β → Prop} (k : ∀ a b, F a b → F' a b) : ∀ {l : List α} {m : List β}, Paired F l m → Paired F' l m
  | _, _, .nil => .nil
  | _, _, .cons r t => .cons (k _ _ r) (paired_imp k t)
theorem paired_len {α β : Type} {F : α → β → Prop} : ∀ {l : List α} {m : List β}, Paired F l m → l.length = m.length
  | _, _, .nil => rfl
  | _, _, .cons r t => by rw [List.length_cons, List.length_cons, paired_len t]
theorem paired_get {α β : Type} {F : α → β → Prop} : ∀ {l : List α} {m : List β} {i : Nat} {b : β}, Paired F l m → m[i]? = some b → ∃ a, l[i]? = some a ∧ F a b
  | _, _, i, b, .nil, h => by simp at h
  | _, _, 0, b, .cons r t, h => by
    simp at h
    subst h
    exact ⟨_, rfl, r⟩
  | _, _, i + 1, b, .cons r t, h => by
    obtain ⟨v, h1, h2⟩ := paired_get (i := i) (b := b) t (by simpa using h)
    exact ⟨v, by simpa using h1, h2⟩
theorem paired_set {α β : Type} {F : α → β → Prop} {a : α} {b : β} (k : F a b) : ∀ {l : List α} {m : List β} (i : Nat), Paired F l m → Paired F (l.set i a) (m.set i b)
  | _, _, _, .nil => .nil
  | _, _, 0, .cons r t => .cons k t
  | _, _, i + 1, .cons r t => .cons r (paired_set k i t)
/-- the time of a deed -/
def stampT : PyData → Int
  | .tuple [s, _, _] => timeD s
  | _ => 0
/-- the drawn world: a list of the deeds' list, the rows' list and how many hands -/
structure Wld (K : PySem.W.Frag) (p wd D R : Addr) (H : Hp) (ds : List PyData) (rs : List (List Int)) (m : Int) : Prop where
  src : Src H p
  wl : H wd = some (.lst [.ref D, .ref R, .int m])
  dl : ∃ us, H D = some (.lst us) ∧ DQs K (gnd p D R H) us ds
  rl : ∃ vs, H R = some (.lst vs) ∧ Paired (Row K (gnd p D R H)) vs rs
  m0 : 1 ≤ m
  m3 : m ≤ 3
  r4 : rs.length = 4
  rr : ∀ r ∈ rs, r.length = 4 ∧ ∀ e ∈ r, 0 ≤ e ∧ e ≤ 5 * (ds.length : Int)
  right : ∀ d ∈ ds, deedD d = true ∧ stampT d ≤ 5 * (ds.length : Int)
  few : ds.length ≤ 10
  ne : wd ≠ p ∧ D ≠ p ∧ R ≠ p ∧ D ≠ R ∧ wd ≠ D ∧ wd ≠ R
theorem Wld.to {K : PySem.W.Frag} {p wd D R : Addr} {H H' : Hp} {ds : List PyData} {rs : List (List Int)} {m : Int} (h : Wld K p wd D R H ds rs m) (b : Bt p H H') : Wld K p wd D R H' ds rs m := by
  obtain ⟨us, h1, h2⟩ := h.dl
  obtain ⟨vs, h3, h4⟩ := h.rl
  have S := gnd_mono (D := D) (R := R) b.same
  exact ⟨b.src, b.at h.ne.1 h.wl, ⟨us, b.at h.ne.2.1 h1, h2.to S⟩, ⟨vs, b.at h.ne.2.2.1 h3, paired_imp (fun _ _ r => r.to S) h4⟩, h.m0, h.m3, h.r4, h.rr, h.right, h.few, h.ne⟩
/-- the deeds, as a list of right ones -/
theorem Wld.sm {K : PySem.W.Frag} {p wd D R : Addr} {H : Hp} {ds : List PyData} {rs : List (List Int)} {m : Int} (h : Wld K p wd D R H ds rs m) : ∃ us, H D = some (.lst us) ∧ Some K p H D us ds := by
  obtain ⟨us, h1, h2⟩ := h.dl
  exact ⟨us, h1, h.src, SqL.of (by rw [hid_ne h.ne.2.1]; exact h1), h2.to (gnd_hid p D R H), fun d hd => (h.right d hd).1, by have := h.few; omega⟩
/-- the row of a hand -/
theorem Wld.row {K : PySem.W.Frag} {p wd D R : Addr} {H : Hp} {ds : List PyData} {rs : List (List Int)} {m : Int} (h : Wld K p wd D R H ds rs m) {i : Nat} (hi : i < 4) : ∃ vs a a0 a1 a2 a3, H R = some (.lst vs) ∧ vs.length = 4 ∧ atI vs (i : Int) = some (.ref a) ∧ rs[i]? = some [a0, a1, a2, a3] ∧ SqL K (gnd p D R H) a [.int a0, .int a1, .int a2, .int a3] ∧ ∀ e ∈ [a0, a1, a2, a3], 0 ≤ e ∧ e ≤ 5 * (ds.length : Int) := by
  obtain ⟨vs, h3, h4⟩ := h.rl
  have hl := h.r4
  obtain ⟨r, hr⟩ : ∃ r, rs[i]? = some r := ⟨rs[i]'(by omega), List.getElem?_eq_getElem (by omega)⟩
  obtain ⟨u, hu, a, rfl, ha⟩ := paired_get h4 hr
  obtain ⟨l4, hb⟩ := h.rr r (List.mem_of_getElem? hr)
  match r, l4 with
  | [a0, a1, a2, a3], _ => exact ⟨vs, a, a0, a1, a2, a3, h3, by rw [paired_len h4, hl], atI_nat hu, hr, ha, hb⟩
/-- a right deed's numbers -/
theorem deed_nums {K : PySem.W.Frag} {H : Hp} {v : V} {d : PyData} (h : DQ K H v d) (r : deedD d = true) : ∃ (a : Addr) (xs : List V) (b c : Addr) (t j s0 s1 s2 s3 : Int), v = .ref a ∧ SqT K H a xs ∧ atI xs 0 = some (.ref b) ∧ atI xs 1 = some (.ref c) ∧ SqT K H b [.int t, .int j] ∧ SqT K H c [.int s0, .int s1, .int s2, .int s3] ∧ stampT d = t ∧ (1 ≤ t ∧ t ≤ 999) ∧ (0 ≤ j ∧ j ≤ 3) ∧ ∀ e ∈ [s0, s1, s2, s3], 0 ≤ e ∧ e ≤ t - 1 := by
  obtain ⟨t, j, a, b, c, e, x, l, rfl, ht, hj, hk, hb⟩ := deed_shape r
  simp only [List.all_cons, List.all_nil, Bool.and_true, Bool.and_eq_true] at hk
  obtain ⟨k0, k1, k2, k3⟩ := hk
  obtain ⟨s0, rfl, z0⟩ := from_int k0
  obtain ⟨s1, rfl, z1⟩ := from_int k1
  obtain ⟨s2, rfl, z2⟩ := from_int k2
  obtain ⟨s3, rfl, z3⟩ := from_int k3
  cases h with
  | tup h1 h2 =>
    cases h2 with
    | cons q1 h2 =>
      cases h2 with
      | cons q2 h2 =>
        cases q1 with
        | tup g1 g2 =>
          cases q2 with
          | tup f1 f2 =>
            cases g2 with
            | cons g3 g4 =>
              cases g4 with
              | cons g5 g6 =>
                cases g3
                cases g5
                cases g6
                cases f2 with
                | cons f3 f4 =>
                  cases f4 with
                  | cons f5 f6 =>
                    cases f6 with
                    | cons f7 f8 =>
                      cases f8 with
                      | cons f9 f10 =>
                        cases f3
                        cases f5
                        cases f7
                        cases f9
                        cases f10
                        refine ⟨_, _, _, _, t, j, s0, s1, s2, s3, rfl, h1, atI_nat (j := 0) rfl, atI_nat (j := 1) rfl, g1, f1, rfl, ht, hj, fun e he => ?_⟩
                        simp only [List.mem_cons, List.not_mem_nil, or_false] at he
                        rcases he with z | z | z | z <;> subst z <;> assumption
end K1
set_option maxHeartbeats 4000000
namespace K1
open PySem L2
def spSeend (K : PySem.W.Frag) : Sp := fun vs H Q _ => ∃ p wd Dl Rl ds rs m, ∃ i : Nat, vs = [.ref wd, .int (i : Int)] ∧ i < 4 ∧ Wld K p wd Dl Rl H ds rs m ∧ ∀ H' a us ds', Bt p H H' → Some K p H' a us ds' → Q (.ref a) H'
section
variable {P : Program} {w : World} {K : PySem.W.Frag} {mg : Str → Option Value} {base : Heap}
theorem sc_seend : FnScope ["_law_world_here", "_law_hand", "_law_seen", "_law_deed"] ["_law_world_here", "_law_hand"] (defScope (top 54)) := ⟨rfl, rfl, rfl, by decide +kernel, rfl, by decide +kernel, by decide +kernel⟩
theorem cl_seend (T : All K mg) : Cl P w K mg base 1 "_law_seen_deeds" ["_law_world_here", "_law_hand"] (spSeend K) := by
  obtain ⟨g, fd, D⟩ := T.dn 54 _ _ rfl
  refine D.cl (D.fn.ok sc_seend (fun vs H Q E h => ?_) (fun cdv A outer s H vs Q E hr h => ?_))
  · obtain ⟨p, wd, Dl, Rl, ds, rs, m, i, rfl, _⟩ := h
    rfl
  · obtain ⟨p, wd, Dl, Rl, ds, rs, m, i, rfl, hi, W, k⟩ := h
    refine ⟨_, (pss_cons (ps_set (i := 2) sc_seend.nd rfl (Or.inr rfl) (pe_ix ix_list (pe_ix ix_list (pv 0) pe_int (fun _ _ => rfl)) (pv 1) (fun _ _ => rfl)))
      (pss_one (ps_ret (pe_lc (own := [("_law_deed", 3)]) (g := gName 3) (te := tVar 3) (tt := tTest (tOp (rI0 fun i j => .bl (decide (i ≤ j))) (tOp (rIxT K) (tOp (rIxT K) (tVar 3) (tC (.int 0))) (tC (.int 0))) (tOp (rIxL K) (tVar 2) (tOp (rIxT K) (tOp (rIxT K) (tVar 3) (tC (.int 0))) (tC (.int 1)))))) rfl sc_seend.nd (pi_list (pe_ix ix_list (pv 0) pe_int (fun _ _ => rfl))) (blkOk_by (own := [("_law_deed", 3)]) (N := [("_law_world_here" : Str), ("_law_hand" : Str), ("_law_seen" : Str), ("_law_deed" : Str)]) (sc := defScope (top 54)) (by decide +kernel)) (fun _ _ _ _ _ => pg_name (i := 3) sc_seend.nd rfl (Or.inl rfl)) (fun _ _ _ _ _ => pts_one (pt_cmpR op_le (pe_ix ix_tup (pe_ix ix_tup (pv 3) pe_int (fun _ _ => rfl)) pe_int (fun _ _ => rfl)) (pe_ix ix_list (pv 2) (pe_ix ix_tup (pe_ix ix_tup (pv 3) pe_int (fun _ _ => rfl)) pe_int (fun _ _ => rfl)) (fun _ _ => rfl)) (nomark _))) (fun _ _ _ _ _ => pv 3))))), ?_⟩
    obtain ⟨vs, a, a0, a1, a2, a3, hR, lv, av, hrow, hs, hb⟩ := W.row hi
    obtain ⟨us, hD, S⟩ := W.sm
    refine ⟨_, rfl, wd, _, _, _, rfl, rfl, SqL.of W.wl, atI_nat (j := 1) rfl, _, rfl, Rl, vs, _, _, rfl, rfl, SqL.of hR, av, ?_⟩
    refine ⟨_, rfl, wd, _, _, _, rfl, rfl, SqL.of W.wl, atI_nat (j := 0) rfl, Dl, rfl, ⟨us, SqL.of hD⟩, fun Dd nD => ?_⟩
    refine lc_deeds (j := 3) (fun _ => True) S nD (fun _ => rfl) (fun _ => rfl) (fun u d H' Qb hr' hq b kb => ?_) (fun H1 acc1 es1 b1 e1 q1 st1 l1 => ?_)
    · obtain ⟨ad, xs, bs, cs, t, j, s0, s1, s2, s3, rfl, ht, i0, i1, hbs, hcs, et, ht', hj, hse⟩ := deed_nums hq hr'
      have Sv := b.same.trans (hid_same p H')
      have x0 := K0.seqT_same Sv ht
      have x1 := K0.seqT_same Sv hbs
      have x2 := (((gnd_hid p Dl Rl H).trans b.same).trans (hid_same p H')).seq hs
      obtain ⟨z, hz⟩ : ∃ z : Int, atI [V.int a0, .int a1, .int a2, .int a3] j = some (.int z) := by
        obtain rfl | rfl | rfl | rfl : j = 0 ∨ j = 1 ∨ j = 2 ∨ j = 3 := by omega
        · exact ⟨a0, rfl⟩
        · exact ⟨a1, rfl⟩
        · exact ⟨a2, rfl⟩
        · exact ⟨a3, rfl⟩
      refine ⟨_, rfl, ad, xs, _, _, rfl, rfl, x0, i0, bs, _, _, _, rfl, rfl, x1, atI_nat (j := 0) rfl, _, rfl, _, rfl, ad, xs, _, _, rfl, rfl, x0, i0, bs, _, _, _, rfl, rfl, x1, atI_nat (j := 1) rfl, a, _, _, _, rfl, rfl, x2, hz, _, _, rfl, rfl, _, rfl, kb _ H' (Bt.refl b.src) fun _ => trivial⟩
    · have ne1 := (Bt.refl W.src).ne nD
      exact k H1 Dd acc1 es1 b1 (Some.sub (ds := ds) b1 nD ne1 e1 q1 (fun e he => (W.right e (st1 e he).1).1) (by have := W.few; omega))
end
end K1
set_option maxHeartbeats 4000000
namespace K1
open PySem L2
structure Nms2 (mg : Str → Option Value) : Prop where
  list : mg "list" = none
  range : mg "range" = none
  tuple : mg "tuple" = none
  sorted : mg "sorted" = none
  dict : mg "dict" = none
  repr : mg "repr" = none
  min : mg "min" = none
def rI1 : List V → Hp → VK → Prop := fun xs H Q => (∃ i, xs = [.int i] ∧ Q (.int i) H) ∨ ∃ k, xs = [.bl k] ∧ Q (.int (if k then 1 else 0)) H
/-- beside a world: the source and the rows are what changes -/
def spLearn (K : PySem.W.Frag) : Sp := fun vs H Q _ => ∃ p wd Dl Rl ds rs m, ∃ i : Nat, vs = [.ref p, .ref wd, .int (i : Int)] ∧ i < 4 ∧ Wld K p wd Dl Rl H ds rs m ∧ ∀ H' rs', Same (gnd p Dl Rl H) (gnd p Dl Rl H') → Wld K p wd Dl Rl H' ds rs' m → Q .non H'
theorem getD4 {l : List Int} {t : Nat} (h : l.length = 4) (ht : t < 4) : (l.map V.int)[t]? = some (V.int (l.getD t 0)) := by
  rw [List.getElem?_map, List.getD_eq_getElem?_getD, List.getElem?_eq_getElem (by omega)]
  rfl
theorem mem4 {l : List Int} {t : Nat} (h : l.length = 4) (ht : t < 4) : l.getD t 0 ∈ l := by
  rw [List.getD_eq_getElem?_getD, List.getElem?_eq_getElem (by omega)]
  exact List.getElem_mem _
theorem ixN4 {i : Nat} (h : i < 4) : ixN 4 (i : Int) = some i := by
  unfold ixN
  rw [if_pos (by omega), if_pos (by omega), Int.toNat_natCast]
/-- a row put in its place -/
theorem Wld.put {K : PySem.W.Frag} {p wd Dl Rl q : Addr} {H : Hp} {ds : List PyData} {rs : List (List Int)} {m : Int} {vs : List V} (h : Wld K p wd Dl Rl H ds rs m) (hR : H Rl = some (.lst vs)) {i : Nat} {r : List Int} (hq : SqL K (gnd p Dl Rl H) q (r.map V.int)) (hl : r.length = 4)
    (hb : ∀ e ∈ r, 0 ≤ e ∧ e ≤ 5 * (ds.length : Int)) : Same (gnd p Dl Rl H) (gnd p Dl Rl (upd H Rl (.lst (vs.set i (.ref q))))) ∧ Wld K p wd Dl Rl (upd H Rl (.lst (vs.set i (.ref q)))) ds (rs.set i r) m := by
  have S : Same (gnd p Dl Rl H) (gnd p Dl Rl (upd H Rl (.lst (vs.set i (.ref q))))) := gnd_upd (.inr rfl)
  obtain ⟨us, h1, h2⟩ := h.dl
  obtain ⟨vs', h3, h4⟩ := h.rl
  rw [hR] at h3
  cases h3
  obtain ⟨n1, n2, n3, n4, n5, n6⟩ := h.ne
  obtain ⟨x, y, e, z⟩ := h.src
  refine ⟨S, ⟨x, y, by rw [upd_ne (Ne.symm n3)]; exact e, z⟩, by rw [upd_ne n6]; exact h.wl, ⟨us, by rw [upd_ne n4]; exact h1, h2.to S⟩, ⟨_, upd_same, paired_imp (fun _ _ r => r.to S) (paired_set ⟨q, rfl, hq⟩ i h4)⟩, h.m0, h.m3, by rw [List.length_set]; exact h.r4, fun r' hr' => ?_, h.right, h.few, h.ne⟩
  rcases List.mem_or_eq_of_mem_set hr' with z | z
  · exact h.rr r' z
  · rw [z]
    exact ⟨hl, hb⟩
section
variable {P : Program} {w : World} {K : PySem.W.Frag} {mg : Str → Option Value} {base : Heap}
theorem sc_learn : FnScope ["_law_source", "_law_world_here", "_law_hand", "_law_other", "_law_some", "_law_seen", "_law_deed", "_law_k"] ["_law_source", "_law_world_here", "_law_hand"] (defScope (top 55)) := ⟨rfl, rfl, rfl, by decide +kernel, rfl, by decide +kernel, by decide +kernel⟩
theorem cl_learn (T : All K mg) (M : Nms mg) (M2 : Nms2 mg) : Cl P w K mg base 3 "_law_learn" ["_law_source", "_law_world_here", "_law_hand"] (spLearn K) := by
  obtain ⟨g, fd, D⟩ := T.dn 55 _ _ rfl
  refine D.cl (D.fn.ok sc_learn (fun vs H Q E h => ?_) (fun cdv A outer s H vs Q E hr h => ?_))
  · obtain ⟨p, wd, Dl, Rl, ds, rs, m, i, rfl, _⟩ := h
    rfl
  · obtain ⟨p, wd, Dl, Rl, ds, rs, m, i, rfl, hi, W, k⟩ := h
    refine ⟨_, (pss_cons (ps_set (i := 3) sc_learn.nd rfl (Or.inr rfl) (pe_cl (cl_takeB T M) hr (by decide) (pa_cons (pv 0) (pa_cons (pe_ix ix_list (pv 1) pe_int (fun _ _ => rfl)) pa_nil))))
      (pss_cons (ps_setLc (i := 4) (own := [("_law_deed", 6)]) (g := gName 6) (te := tVar 6) (tt := tTest (tOp rEq (tOp (rIxT K) (tOp (rIxT K) (tVar 6) (tC (.int 0))) (tC (.int 1))) (tVar 3))) rfl sc_learn.nd rfl rfl (sw_true rfl rfl rfl (by decide +kernel)) (pi_list (pe_ix ix_list (pv 1) pe_int (fun _ _ => rfl))) (blkOk_by (own := [("_law_deed", 6)]) (N := [("_law_source" : Str), ("_law_world_here" : Str), ("_law_hand" : Str), ("_law_other" : Str), ("_law_some" : Str), ("_law_seen" : Str), ("_law_deed" : Str), ("_law_k" : Str)]) (sc := defScope (top 55)) (by decide +kernel)) (fun _ _ _ _ _ => pg_name (i := 6) sc_learn.nd rfl (Or.inl rfl)) (fun _ _ _ _ _ => pts_one (pt_cmpR op_eq (pe_ix ix_tup (pe_ix ix_tup (pv 6) pe_int (fun _ _ => rfl)) pe_int (fun _ _ => rfl)) (pv 3) (nomark _))) (fun _ _ _ _ _ => pv 6))
      (pss_cons (ps_set (i := 5) sc_learn.nd rfl (Or.inr rfl) (pe_callTy call_list_of (by rfl) M2.list (by decide +kernel) (pa_cons (pe_ix ix_list (pe_ix ix_list (pv 1) pe_int (fun _ _ => rfl)) (pv 3) (fun _ _ => rfl)) pa_nil)))
      (pss_cons (ps_if (PW.pt (pw_and (pt_cmpR (op_neE hr.units) (pv 4) (pe_lst pa_nil) (nomark _)) (pw_and1 (pt_cmpR op_eq (pe_cl (cl_takeB T M) hr (by decide) (pa_cons (pv 0) (pa_cons pe_int pa_nil))) pe_int (nomark _))))) (pss_cons (ps_set (i := 6) sc_learn.nd rfl (Or.inl rfl) (pe_cl (cl_one T M) hr (by decide) (pa_cons (pv 0) (pa_cons (pv 4) pa_nil))))
      (pss_cons (ps_set (i := 5) sc_learn.nd rfl (Or.inr rfl) (pe_callTy call_list_of (by rfl) M2.list (by decide +kernel) (pa_cons (pe_ix ix_tup (pv 6) pe_int (fun _ _ => rfl)) pa_nil)))
      (pss_one (ps_asg (pe_ix ix_tup (pe_ix ix_tup (pv 6) pe_int (fun _ _ => rfl)) pe_int (fun _ _ => rfl)) (pg_sub (pv 5) (pv 3) set_list))))) pss_nil)
      (pss_one (ps_asg (pe_lc (own := [("_law_k", 7)]) (g := gName 7) (tt := tYes) (te := tCB (fun xs H Q => ∃ i j, xs = [.int i, .int j] ∧ Q (.int (if j > i then j else i)) H) (tCons (tCB rI1 (tCons (tOp (rIxL K) (tVar 5) (tVar 7)) tNil)) (tCons (tCB rI1 (tCons (tOp (rIxL K) (tOp (rIxL K) (tOp (rIxL K) (tVar 1) (tC (.int 1))) (tVar 2)) (tVar 7)) tNil)) tNil))) rfl sc_learn.nd (pi_range1 rfl M2.range (pa_cons pe_int pa_nil)) (blkOk_by (own := [("_law_k", 7)]) (N := [("_law_source" : Str), ("_law_world_here" : Str), ("_law_hand" : Str), ("_law_other" : Str), ("_law_some" : Str), ("_law_seen" : Str), ("_law_deed" : Str), ("_law_k" : Str)]) (sc := defScope (top 55)) (by decide +kernel)) (fun _ _ _ _ _ => pg_name (i := 7) sc_learn.nd rfl (Or.inl rfl)) (fun _ _ _ _ _ => pts_nil) (fun _ _ _ _ _ => (pe_callB (call_max2 rfl) (by rfl) M.max (by decide +kernel) (pa_cons (pe_callTy call_int1 (by rfl) M.int (by decide +kernel) (pa_cons (pe_ix ix_list (pv 5) (pv 7) (fun _ _ => rfl)) pa_nil)) (pa_cons (pe_callTy call_int1 (by rfl) M.int (by decide +kernel) (pa_cons (pe_ix ix_list (pe_ix ix_list (pe_ix ix_list (pv 1) pe_int (fun _ _ => rfl)) (pv 2) (fun _ _ => rfl)) (pv 7) (fun _ _ => rfl)) pa_nil)) pa_nil))))) (pg_sub (pe_ix ix_list (pv 1) pe_int (fun _ _ => rfl)) (pv 2) set_list))))))), ?_⟩
    have M0 := W.m0
    have M3 := W.m3
    refine ⟨_, rfl, _, rfl, wd, _, _, _, rfl, rfl, SqL.of W.wl, atI_nat (j := 2) rfl, p, m, rfl, W.src, by omega, by omega, fun o H1 o0 o1 b1 => ?_⟩
    obtain ⟨o, rfl⟩ : ∃ n : Nat, o = (n : Int) := ⟨o.toNat, by omega⟩
    have W1 := W.to b1
    obtain ⟨us, hD, S⟩ := W1.sm
    refine ⟨_, rfl, wd, _, _, _, rfl, rfl, SqL.of W1.wl, atI_nat (j := 0) rfl, Dl, rfl, ⟨us, SqL.of hD⟩, fun D2 n2 => ?_⟩
    refine lc_deeds (j := 6) (fun _ => True) S n2 (fun _ => rfl) (fun _ => rfl) (fun u d H' Qb hr' hq b kb => ?_) (fun H2 acc es b2 e2 q2 st2 l2 => ?_)
    · obtain ⟨ad, xs, bs, cs, t, j, s0, s1, s2, s3, rfl, ht, i0, i1, hbs, hcs, et, ht', hj, hse⟩ := deed_nums hq hr'
      have Sv := b.same.trans (hid_same p H')
      refine ⟨_, rfl, ad, xs, _, _, rfl, rfl, K0.seqT_same Sv ht, i0, bs, _, _, _, rfl, rfl, K0.seqT_same Sv hbs, atI_nat (j := 1) rfl, _, rfl, rfl, _, rfl, kb _ H' (Bt.refl b.src) fun _ => trivial⟩
    · have ne2 := (Bt.refl W1.src).ne n2
      have W2 := W1.to b2
      have b12 := b1.trans b2
      have so := Some.sub (ds := ds) b2 n2 ne2 e2 q2 (fun e he => (W.right e (st2 e he).1).1) (by have := W.few; omega)
      obtain ⟨vs2, aO, z0, z1, z2, z3, hR2, lv2, av2, hrow2, hs2, hb2⟩ := W2.row (i := o) (by omega)
      refine ⟨_, rfl, wd, _, _, _, rfl, rfl, SqL.of W2.wl, atI_nat (j := 1) rfl, _, rfl, Rl, vs2, _, _, rfl, rfl, SqL.of hR2, av2, aO, _, rfl, .inl ((gnd_in p Dl Rl H2).seq hs2), fun q3 n3 => ?_⟩
      have b3 := b12.new (o := .lst [.int z0, .int z1, .int z2, .int z3]) n3
      have c3 := (Bt.refl b12.src).new (o := .lst [.int z0, .int z1, .int z2, .int z3]) n3
      have ne3 := b12.ne n3
      have f3 := @upd_same H2 q3 (.lst [.int z0, .int z1, .int z2, .int z3])
      have so3 := so.to c3
      have fD : upd H2 q3 (.lst [.int z0, .int z1, .int z2, .int z3]) D2 = some (.lst acc) := (upd_ne (ne_of_none e2 n3)).trans e2
      have new3 : H q3 = none ∨ True := .inr trivial
      generalize upd H2 q3 (.lst [.int z0, .int z1, .int z2, .int z3]) = H3 at b3 c3 f3 so3 fD ⊢
      have L2' := so3.all.len
      refine ⟨_, rfl, Nat.zero_le _, fun q4 n4 => ⟨D2, q4, acc, rfl, rfl, SqL.of ((upd_ne (ne_of_none fD n4)).trans fD), SqL.of upd_same, _, rfl, ?_⟩⟩
      have b4 := b3.new (o := .lst []) n4
      have c4 := (Bt.refl b3.src).new (o := .lst []) n4
      have so4 := so3.to c4
      have f4 := c4.at ne3 f3
      generalize upd H3 q4 (.lst []) = H4 at b4 c4 so4 f4 ⊢
      have zl : [z0, z1, z2, z3].length = 4 := rfl
      cases ea : acc.isEmpty with
      | true =>
        refine iteF ?_
        have W5 := W.to b4
        obtain ⟨vs5, k5, k0, k1, k2, k3, hR5, lv5, av5, hrow5, hs5, hb5⟩ := W5.row hi
        refine ⟨_, rfl, by decide, by decide, fun Dd nD => K0.lc_funR (n := 4) (fun n => .int (if [k0, k1, k2, k3].getD n 0 > ([z0, z1, z2, z3]).getD n 0 then [k0, k1, k2, k3].getD n 0 else ([z0, z1, z2, z3]).getD n 0)) nD (by decide) (fun _ => rfl) (fun n J2 QQ ht S2 q2 => ?_) (fun J2 S2 e2 => ?_)⟩
        · exact ⟨_, rfl, _, rfl, q3, _, _, _, rfl, rfl, SqL.of (S2 _ _ f4), (by rw [Int.zero_add]; exact atI_nat (getD4 zl ht)), .inl ⟨_, rfl, _, rfl, wd, _, _, _, rfl, rfl, SqL.of (S2 _ _ W5.wl), atI_nat (j := 1) rfl, _, rfl, Rl, vs5, _, _, rfl, rfl, SqL.of (S2 _ _ hR5), av5, _, rfl, k5, _, _, _, rfl, rfl, S2.seq ((gnd_in p Dl Rl _).seq hs5), (by rw [Int.zero_add]; exact atI_nat (getD4 (l := [k0, k1, k2, k3]) rfl ht)), .inl ⟨_, rfl, _, _, rfl, q2⟩⟩⟩
        · have G2 : Same (hid p H4) (hid p J2) := hid_mono S2
          have bJ : Bt p H4 J2 := ⟨G2, by obtain ⟨x, y, z, r⟩ := W5.src; exact ⟨x, y, S2 _ _ z, r⟩⟩
          have W6 := W5.to bJ
          have hR6 := S2 _ _ hR5
          obtain ⟨us6, hD6, _⟩ := W6.sm
          obtain ⟨us5, hD5, _⟩ := W5.sm
          have neR : Dd ≠ Rl := Ne.symm (ne_of_none hR5 nD)
          have neD : Dd ≠ Dl := Ne.symm (ne_of_none hD5 nD)
          have nep : Dd ≠ p := (Bt.refl W5.src).ne nD
          have P6 := W6.put hR6 (i := i) (r := (List.range 4).map fun n => if [k0, k1, k2, k3].getD n 0 > ([z0, z1, z2, z3]).getD n 0 then [k0, k1, k2, k3].getD n 0 else ([z0, z1, z2, z3]).getD n 0) (q := Dd) (by rw [List.map_map]; exact SqL.of (gnd_of neR neD nep e2)) rfl (fun e he => ?_)
          · exact ⟨_, rfl, wd, _, _, _, rfl, rfl, SqL.of W6.wl, atI_nat (j := 1) rfl, _, rfl, Rl, vs5, _, i, rfl, rfl, hR6, by rw [lv5]; exact ixN4 hi, k _ _ ((gnd_mono (b4.trans bJ).same).trans P6.1) P6.2⟩
          · obtain ⟨n, ht, rfl⟩ := List.mem_map.mp he
            rw [List.mem_range] at ht
            have y1 := hb2 _ (mem4 zl ht)
            have y2 := hb5 _ (mem4 (l := [k0, k1, k2, k3]) rfl ht)
            by_cases c : [k0, k1, k2, k3].getD n 0 > ([z0, z1, z2, z3]).getD n 0
            · rw [if_pos c]
              exact y2
            · rw [if_neg c]
              exact y1
      | false =>
        have pos : 0 < es.length := by
          have z : acc ≠ [] := fun z => by
            rw [z] at ea
            cases ea
          have := List.length_pos_iff.mpr z
          omega
        refine iteT ⟨_, rfl, p, 3, rfl, b4.src, by decide, by decide, fun r H5 r0 r1 b5 => ⟨rfl, _, rfl, ite2 (fun _ => ?_) (fun _ => ?_)⟩⟩
        · have so5 := so4.to b5
          refine ⟨_, rfl, _, rfl, p, D2, acc, es, rfl, b5.src, so5.seq, so5.all, pos, by have := so5.few; omega, fun H6 u d hd b6 hq => ?_⟩
          have b46 := (b4.trans b5).trans b6
          obtain ⟨hdR, hdT⟩ := W.right d (st2 d hd).1
          obtain ⟨ad, xs, bs, cs, t, j, s0, s1, s2, s3, rfl, ht, i0, i1, hbs, hcs, et, ht', hj, hse⟩ := deed_nums hq hdR
          refine ⟨_, rfl, ad, xs, _, _, rfl, rfl, K0.seqT_same (hid_same p H6) ht, i1, cs, _, rfl, .inr (K0.seqT_same (hid_same p H6) hcs), fun q7 n7 => ?_⟩
          have b7 := b46.new (o := .lst [.int s0, .int s1, .int s2, .int s3]) n7
          have c7 := (Bt.refl b46.src).new (o := .lst [.int s0, .int s1, .int s2, .int s3]) n7
          have ne7 := b46.ne n7
          have f7 := @upd_same H6 q7 (.lst [.int s0, .int s1, .int s2, .int s3])
          have n70 : H q7 = none := by
            cases e : H q7 with
            | none => rfl
            | some x =>
              rw [b46.at ne7 e] at n7
              cases n7
          generalize upd H6 q7 (.lst [.int s0, .int s1, .int s2, .int s3]) = H7 at b7 c7 f7 ⊢
          have ht7 := K0.seqT_same (c7.same.trans (hid_same p H7)) ht
          have hb7 := K0.seqT_same (c7.same.trans (hid_same p H7)) hbs
          refine ⟨_, rfl, ad, xs, _, _, rfl, rfl, ht7, i0, bs, _, _, _, rfl, rfl, hb7, atI_nat (j := 0) rfl, _, rfl, _, rfl, q7, _, _, o, rfl, rfl, f7, ixN4 (by omega), ?_⟩
          have b8 : Bt p H (upd H7 q7 (.lst ([V.int s0, .int s1, .int s2, .int s3].set o (.int t)))) := b7.over n70 ne7
          have f8 := @upd_same H7 q7 (.lst ([V.int s0, .int s1, .int s2, .int s3].set o (.int t)))
          rw [show [V.int s0, .int s1, .int s2, .int s3].set o (.int t) = ([s0, s1, s2, s3].set o t).map V.int from (List.map_set (f := V.int) (l := [s0, s1, s2, s3]) (i := o) (a := t)).symm] at b8 f8 ⊢
          generalize upd H7 q7 (.lst (([s0, s1, s2, s3].set o t).map V.int)) = H8 at b8 f8 ⊢
          have sl : ([s0, s1, s2, s3].set o t).length = 4 := by rw [List.length_set]; rfl
          have sb : ∀ e ∈ [s0, s1, s2, s3].set o t, 0 ≤ e ∧ e ≤ 5 * (ds.length : Int) := fun e he => by
            rw [et] at hdT
            rcases List.mem_or_eq_of_mem_set he with z | z
            · have := hse e z
              omega
            · omega
          have W5 := W.to b8
          obtain ⟨vs5, k5, k0, k1, k2, k3, hR5, lv5, av5, hrow5, hs5, hb5⟩ := W5.row hi
          refine ⟨_, rfl, by decide, by decide, fun Dd nD => K0.lc_funR (n := 4) (fun n => .int (if [k0, k1, k2, k3].getD n 0 > ([s0, s1, s2, s3].set o t).getD n 0 then [k0, k1, k2, k3].getD n 0 else ([s0, s1, s2, s3].set o t).getD n 0)) nD (by decide) (fun _ => rfl) (fun n J2 QQ ht S2 q2 => ?_) (fun J2 S2 e2 => ?_)⟩
          · exact ⟨_, rfl, _, rfl, q7, _, _, _, rfl, rfl, SqL.of (S2 _ _ f8), (by rw [Int.zero_add]; exact atI_nat (getD4 sl ht)), .inl ⟨_, rfl, _, rfl, wd, _, _, _, rfl, rfl, SqL.of (S2 _ _ W5.wl), atI_nat (j := 1) rfl, _, rfl, Rl, vs5, _, _, rfl, rfl, SqL.of (S2 _ _ hR5), av5, _, rfl, k5, _, _, _, rfl, rfl, S2.seq ((gnd_in p Dl Rl _).seq hs5), (by rw [Int.zero_add]; exact atI_nat (getD4 (l := [k0, k1, k2, k3]) rfl ht)), .inl ⟨_, rfl, _, _, rfl, q2⟩⟩⟩
          · have G2 : Same (hid p H8) (hid p J2) := hid_mono S2
            have bJ : Bt p H8 J2 := ⟨G2, by obtain ⟨x, y, z, r⟩ := W5.src; exact ⟨x, y, S2 _ _ z, r⟩⟩
            have W6 := W5.to bJ
            have hR6 := S2 _ _ hR5
            obtain ⟨us6, hD6, _⟩ := W6.sm
            obtain ⟨us5, hD5, _⟩ := W5.sm
            have neR : Dd ≠ Rl := Ne.symm (ne_of_none hR5 nD)
            have neD : Dd ≠ Dl := Ne.symm (ne_of_none hD5 nD)
            have nep : Dd ≠ p := (Bt.refl W5.src).ne nD
            have P6 := W6.put hR6 (i := i) (r := (List.range 4).map fun n => if [k0, k1, k2, k3].getD n 0 > ([s0, s1, s2, s3].set o t).getD n 0 then [k0, k1, k2, k3].getD n 0 else ([s0, s1, s2, s3].set o t).getD n 0) (q := Dd) (by rw [List.map_map]; exact SqL.of (gnd_of neR neD nep e2)) rfl (fun e he => ?_)
            · exact ⟨_, rfl, wd, _, _, _, rfl, rfl, SqL.of W6.wl, atI_nat (j := 1) rfl, _, rfl, Rl, vs5, _, i, rfl, rfl, hR6, by rw [lv5]; exact ixN4 hi, k _ _ ((gnd_mono (b8.trans bJ).same).trans P6.1) P6.2⟩
            · obtain ⟨n, ht, rfl⟩ := List.mem_map.mp he
              rw [List.mem_range] at ht
              have y1 := sb _ (mem4 sl ht)
              have y2 := hb5 _ (mem4 (l := [k0, k1, k2, k3]) rfl ht)
              by_cases c : [k0, k1, k2, k3].getD n 0 > ([s0, s1, s2, s3].set o t).getD n 0
              · rw [if_pos c]
                exact y2
              · rw [if_neg c]
                exact y1
        · have b45 := b4.trans b5
          have f5 := b5.at ne3 f4
          have W5 := W.to b45
          obtain ⟨vs5, k5, k0, k1, k2, k3, hR5, lv5, av5, hrow5, hs5, hb5⟩ := W5.row hi
          refine ⟨_, rfl, by decide, by decide, fun Dd nD => K0.lc_funR (n := 4) (fun n => .int (if [k0, k1, k2, k3].getD n 0 > ([z0, z1, z2, z3]).getD n 0 then [k0, k1, k2, k3].getD n 0 else ([z0, z1, z2, z3]).getD n 0)) nD (by decide) (fun _ => rfl) (fun n J2 QQ ht S2 q2 => ?_) (fun J2 S2 e2 => ?_)⟩
          · exact ⟨_, rfl, _, rfl, q3, _, _, _, rfl, rfl, SqL.of (S2 _ _ f5), (by rw [Int.zero_add]; exact atI_nat (getD4 zl ht)), .inl ⟨_, rfl, _, rfl, wd, _, _, _, rfl, rfl, SqL.of (S2 _ _ W5.wl), atI_nat (j := 1) rfl, _, rfl, Rl, vs5, _, _, rfl, rfl, SqL.of (S2 _ _ hR5), av5, _, rfl, k5, _, _, _, rfl, rfl, S2.seq ((gnd_in p Dl Rl _).seq hs5), (by rw [Int.zero_add]; exact atI_nat (getD4 (l := [k0, k1, k2, k3]) rfl ht)), .inl ⟨_, rfl, _, _, rfl, q2⟩⟩⟩
          · have G2 : Same (hid p H5) (hid p J2) := hid_mono S2
            have bJ : Bt p H5 J2 := ⟨G2, by obtain ⟨x, y, z, r⟩ := W5.src; exact ⟨x, y, S2 _ _ z, r⟩⟩
            have W6 := W5.to bJ
            have hR6 := S2 _ _ hR5
            obtain ⟨us6, hD6, _⟩ := W6.sm
            obtain ⟨us5, hD5, _⟩ := W5.sm
            have neR : Dd ≠ Rl := Ne.symm (ne_of_none hR5 nD)
            have neD : Dd ≠ Dl := Ne.symm (ne_of_none hD5 nD)
            have nep : Dd ≠ p := (Bt.refl W5.src).ne nD
            have P6 := W6.put hR6 (i := i) (r := (List.range 4).map fun n => if [k0, k1, k2, k3].getD n 0 > ([z0, z1, z2, z3]).getD n 0 then [k0, k1, k2, k3].getD n 0 else ([z0, z1, z2, z3]).getD n 0) (q := Dd) (by rw [List.map_map]; exact SqL.of (gnd_of neR neD nep e2)) rfl (fun e he => ?_)
            · exact ⟨_, rfl, wd, _, _, _, rfl, rfl, SqL.of W6.wl, atI_nat (j := 1) rfl, _, rfl, Rl, vs5, _, i, rfl, rfl, hR6, by rw [lv5]; exact ixN4 hi, k _ _ ((gnd_mono (b45.trans bJ).same).trans P6.1) P6.2⟩
            · obtain ⟨n, ht, rfl⟩ := List.mem_map.mp he
              rw [List.mem_range] at ht
              have y1 := hb2 _ (mem4 zl ht)
              have y2 := hb5 _ (mem4 (l := [k0, k1, k2, k3]) rfl ht)
              by_cases c : [k0, k1, k2, k3].getD n 0 > ([z0, z1, z2, z3]).getD n 0
              · rw [if_pos c]
                exact y2
              · rw [if_neg c]
                exact y1
end
end K1
set_option maxHeartbeats 4000000
namespace K1
open PySem L2
theorem Wld.app {K : PySem.W.Frag} {p wd Dl Rl : Addr} {H : Hp} {ds : List PyData} {rs : List (List Int)} {m : Int} {us : List V} {u : V} {d : PyData} (h : Wld K p wd Dl Rl H ds rs m) (hD : H Dl = some (.lst us)) (hq : DQ K (gnd p Dl Rl H) u d) (r : deedD d = true) (ht : stampT d ≤ 5 * (ds.length : Int) + 5) (few : ds.length < 10) :
    Same (gnd p Dl Rl H) (gnd p Dl Rl (upd H Dl (.lst (us ++ [u])))) ∧ Wld K p wd Dl Rl (upd H Dl (.lst (us ++ [u]))) (ds ++ [d]) rs m := by
  have S : Same (gnd p Dl Rl H) (gnd p Dl Rl (upd H Dl (.lst (us ++ [u])))) := gnd_upd (.inl rfl)
  obtain ⟨us', h1, h2⟩ := h.dl
  rw [hD] at h1
  cases h1
  obtain ⟨vs', h3, h4⟩ := h.rl
  obtain ⟨n1, n2, n3, n4, n5, n6⟩ := h.ne
  obtain ⟨x, y, e, z⟩ := h.src
  have L : (ds ++ [d]).length = ds.length + 1 := by rw [List.length_append]; rfl
  refine ⟨S, ⟨x, y, by rw [upd_ne (Ne.symm n2)]; exact e, z⟩, by rw [upd_ne n5]; exact h.wl, ⟨_, upd_same, (h2.to S).app (.cons (hq.to S) .nil)⟩, ⟨vs', by rw [upd_ne (Ne.symm n4)]; exact h3, paired_imp (fun _ _ r => r.to S) h4⟩, h.m0, h.m3, h.r4, fun r hr => ⟨(h.rr r hr).1, fun e he => ?_⟩, fun x hx => ?_, by rw [L]; omega, h.ne⟩
  · have := (h.rr r hr).2 e he
    rw [L]
    omega
  · rw [L]
    rcases List.mem_append.mp hx with z | z
    · have := h.right x z
      exact ⟨this.1, by omega⟩
    · rw [List.mem_singleton.mp z]
      exact ⟨r, by omega⟩
def spDo (K : PySem.W.Frag) : Sp := fun vs H Q _ => ∃ p wd Dl Rl ds rs m, ∃ i : Nat, ∃ ub x l, vs = [.ref p, .ref wd, .int (i : Int), ub] ∧ i < 4 ∧ ds.length < 10 ∧ Wld K p wd Dl Rl H ds rs m ∧ DQ K (gnd p Dl Rl H) ub (.tuple (.str x :: l)) ∧ bodyR x l = true ∧
  ∀ H' a t rs' d, Same (gnd p Dl Rl H) (gnd p Dl Rl H') → Wld K p wd Dl Rl H' (ds ++ [d]) rs' m → SqT K (gnd p Dl Rl H') a [.int t, .int (i : Int)] → 1 ≤ t → t ≤ 999 → Q (.ref a) H'
theorem plus_of {d : PyData} (h : d ∈ ([.int 0, .int 0, .int 0, .int 1, .int 4] : List PyData)) : ∃ c : Int, d = .int c ∧ 0 ≤ c ∧ c ≤ 4 := by
  simp only [List.mem_cons, List.not_mem_nil, or_false] at h
  rcases h with z | z | z | z | z
  all_goals exact ⟨_, z, by decide, by decide⟩
theorem deed_made {t a0 a1 a2 a3 : Int} {i : Nat} {x : Str} {l : List PyData} (ht : 1 ≤ t ∧ t ≤ 999) (hi : i < 4) (h : ∀ e ∈ [a0, a1, a2, a3], 0 ≤ e ∧ e ≤ t - 1) (hb : bodyR x l = true) : deedD (.tuple [.tuple [.int t, .int (i : Int)], .tuple [.int a0, .int a1, .int a2, .int a3], .tuple (.str x :: l)]) = true := by
  have f : ∀ e ∈ [a0, a1, a2, a3], fromD 0 (t - 1) (.int e) = true := fun e he => by
    have := h e he
    show (decide (0 ≤ e) && decide (e ≤ t - 1)) = true
    rw [decide_eq_true this.1, decide_eq_true this.2]
    rfl
  show (((decide (1 ≤ t) && decide (t ≤ 999)) && (decide (0 ≤ (i : Int)) && decide ((i : Int) ≤ 3))) && ((fromD 0 (t - 1) (.int a0) && (fromD 0 (t - 1) (.int a1) && (fromD 0 (t - 1) (.int a2) && (fromD 0 (t - 1) (.int a3) && true)))) && bodyR x l)) = true
  rw [decide_eq_true ht.1, decide_eq_true ht.2, decide_eq_true (by omega : (0 : Int) ≤ (i : Int)), decide_eq_true (by omega : (i : Int) ≤ 3), f a0 (by simp), f a1 (by simp), f a2 (by simp), f a3 (by simp), hb]
  rfl
section
variable {P : Program} {w : World} {K : PySem.W.Frag} {mg : Str → Option Value} {base : Heap}
theorem sc_do : FnScope ["_law_source", "_law_world_here", "_law_hand", "_law_body_here", "_law_seen", "_law_stamp", "_law_time", "_law_k"] ["_law_source", "_law_world_here", "_law_hand", "_law_body_here"] (defScope (top 60)) := ⟨rfl, rfl, rfl, by decide +kernel, rfl, by decide +kernel, by decide +kernel⟩
theorem cl_do (T : All K mg) (M : Nms mg) (M2 : Nms2 mg) : Cl P w K mg base 3 "_law_do" ["_law_source", "_law_world_here", "_law_hand", "_law_body_here"] (spDo K) := by
  obtain ⟨g, fd, D⟩ := T.dn 60 _ _ rfl
  refine D.cl (D.fn.ok sc_do (fun vs H Q E h => ?_) (fun cdv A outer s H vs Q E hr h => ?_))
  · obtain ⟨p, wd, Dl, Rl, ds, rs, m, i, ub, x, l, rfl, _⟩ := h
    rfl
  · obtain ⟨p, wd, Dl, Rl, ds, rs, m, i, ub, x, l, rfl, hi, few, W, hub, hx, k⟩ := h
    refine ⟨_, (pss_cons (ps_set (i := 4) sc_do.nd rfl (Or.inr rfl) (pe_ix ix_list (pe_ix ix_list (pv 1) pe_int (fun _ _ => rfl)) (pv 2) (fun _ _ => rfl)))
      (pss_cons (ps_set (i := 5) sc_do.nd rfl (Or.inr rfl) (pe_tup (pa_cons (pe_op op_add (pe_op op_add pe_int (pe_callB (cr_max rfl) (by rfl) M.max (by decide +kernel) (pa_cons (pe_lc (own := [("_law_time", 6)]) (g := gName 6) (tt := tYes) (te := tCB rI1 (tCons (tVar 6) tNil)) rfl sc_do.nd (pi_list (pv 4)) (blkOk_by (own := [("_law_time", 6)]) (N := [("_law_source" : Str), ("_law_world_here" : Str), ("_law_hand" : Str), ("_law_body_here" : Str), ("_law_seen" : Str), ("_law_stamp" : Str), ("_law_time" : Str), ("_law_k" : Str)]) (sc := defScope (top 60)) (by decide +kernel)) (fun _ _ _ _ _ => pg_name (i := 6) sc_do.nd rfl (Or.inl rfl)) (fun _ _ _ _ _ => pts_nil) (fun _ _ _ _ _ => (pe_callTy call_int1 (by rfl) M.int (by decide +kernel) (pa_cons (pv 6) pa_nil)))) pa_nil))) (pe_cl (cl_one T M) hr (by decide) (pa_cons (pv 0) (pa_cons (li_list (ds := [.int 0, .int 0, .int 0, .int 1, .int 4]) (las_cons li_int (las_cons li_int (las_cons li_int (las_cons li_int (las_cons li_int las_nil))))) (by decide)) pa_nil)))) (pa_cons (pv 2) pa_nil))))
      (pss_cons (ps_expr (pe_bm PySem.F.plainAttrs_list PySem.F.slot_list_append PySem.F.type_list_append mt_append (pe_ix ix_list (pv 1) pe_int (fun _ _ => rfl)) (pa_cons (pe_tup (pa_cons (pv 5) (pa_cons (pe_callTy call_tuple_of (by rfl) T.bi.tuple (by decide +kernel) (pa_cons (pv 4) pa_nil)) (pa_cons (pv 3) pa_nil)))) pa_nil)))
      (pss_cons (ps_asg (pe_lc (own := [("_law_k", 7)]) (g := gName 7) (tt := tYes) (te := tIf (tTest (tOp rEq (tVar 7) (tVar 2))) (tOp (rIxT K) (tVar 5) (tC (.int 0))) (tOp (rIxL K) (tVar 4) (tVar 7))) rfl sc_do.nd (pi_range1 rfl M2.range (pa_cons pe_int pa_nil)) (blkOk_by (own := [("_law_k", 7)]) (N := [("_law_source" : Str), ("_law_world_here" : Str), ("_law_hand" : Str), ("_law_body_here" : Str), ("_law_seen" : Str), ("_law_stamp" : Str), ("_law_time" : Str), ("_law_k" : Str)]) (sc := defScope (top 60)) (by decide +kernel)) (fun _ _ _ _ _ => pg_name (i := 7) sc_do.nd rfl (Or.inl rfl)) (fun _ _ _ _ _ => pts_nil) (fun _ _ _ _ _ => (pe_ifExp (pt_cmpR op_eq (pv 7) (pv 2) (nomark _)) (pe_ix ix_tup (pv 5) pe_int (fun _ _ => rfl)) (pe_ix ix_list (pv 4) (pv 7) (fun _ _ => rfl))))) (pg_sub (pe_ix ix_list (pv 1) pe_int (fun _ _ => rfl)) (pv 2) set_list))
      (pss_one (ps_ret (pv 5))))))), ?_⟩
    obtain ⟨vs, a, a0, a1, a2, a3, hR, lv, av, hrow, hs, hb⟩ := W.row hi
    have sa : SqL K H a ([a0, a1, a2, a3].map V.int) := (gnd_in p Dl Rl H).seq hs
    refine ⟨_, rfl, wd, _, _, _, rfl, rfl, SqL.of W.wl, atI_nat (j := 1) rfl, _, rfl, Rl, vs, _, _, rfl, rfl, SqL.of hR, av, ?_⟩
    refine ⟨_, rfl, a, rfl, ⟨_, sa⟩, fun D1 n1 => K0.lc_fun (fun n => .int ([a0, a1, a2, a3].getD n 0)) n1 sa (by show 4 ≤ 1000; decide) (fun _ => rfl) (fun n u J QQ hu S1 q1 => ?_) (fun H1 S1 e1 => ?_)⟩
    · have hn : n < 4 := (List.getElem?_eq_some_iff.mp hu).1
      rw [getD4 (l := [a0, a1, a2, a3]) rfl hn] at hu
      cases hu
      exact ⟨_, rfl, .inl ⟨_, rfl, q1⟩⟩
    · have e1' : H1 D1 = some (.lst ([a0, a1, a2, a3].map V.int)) := e1
      refine ⟨D1, _, rfl, SqL.of e1', (by show 0 < 4; decide), fun mx hm hle => ⟨_, _, rfl, rfl, _, rfl, fun H2 q2 v2 S2 n2 e2 d2 => ?_⟩⟩
      have b1 := (Bt.refl W.src).grow S1
      refine one_lit (E := E0) b1.src S2 n2 e2 d2 (by decide) (by decide) fun H3 u3 d3 h3 b3 q3 => ?_
      obtain ⟨c, rfl, c0, c4⟩ := plus_of h3
      cases q3
      have b13 := b1.trans b3
      refine ⟨_, _, rfl, rfl, _, rfl, (by show 2 ≤ sizeLine; rw [sizeLine_eq]; decide), fun q4 n4 => ?_⟩
      have b4 := b13.new (o := .tup [.int (1 + mx + c), .int (i : Int)]) n4
      have ne4 := b13.ne n4
      have f4 := @upd_same H3 q4 (.tup [.int (1 + mx + c), .int (i : Int)])
      generalize upd H3 q4 (.tup [.int (1 + mx + c), .int (i : Int)]) = H4 at b4 f4 ⊢
      generalize ht : 1 + mx + c = t at f4
      have W4 := W.to b4
      obtain ⟨us4, hD4, _⟩ := W4.sm
      have a4 : SqL K H4 a ([a0, a1, a2, a3].map V.int) := ((gnd_mono (D := Dl) (R := Rl) b4.same).trans (gnd_in p Dl Rl H4)).seq hs
      refine ⟨_, rfl, wd, _, _, _, rfl, rfl, SqL.of W4.wl, atI_nat (j := 0) rfl, .inl ⟨rfl, _, SqL.of hD4⟩, _, rfl, _, rfl, a, _, rfl, .inl ⟨a4, fun q5 n5 => ?_⟩⟩
      have b5 := b4.new (o := .tup ([a0, a1, a2, a3].map V.int)) n5
      have c5 := (Bt.refl b4.src).new (o := .tup ([a0, a1, a2, a3].map V.int)) n5
      have ne5 := b4.ne n5
      have f5 := @upd_same H4 q5 (.tup ([a0, a1, a2, a3].map V.int))
      have f45 := c5.at ne4 f4
      generalize upd H4 q5 (.tup ([a0, a1, a2, a3].map V.int)) = H5 at b5 c5 f5 f45 ⊢
      refine ⟨_, rfl, (by show 3 ≤ sizeLine; rw [sizeLine_eq]; decide), fun q6 n6 => ?_⟩
      have b6 := b5.new (o := .tup [.ref q4, .ref q5, ub]) n6
      have c6 := (Bt.refl b5.src).new (o := .tup [.ref q4, .ref q5, ub]) n6
      have ne6 := b5.ne n6
      have f6 := @upd_same H5 q6 (.tup [.ref q4, .ref q5, ub])
      have f46 := c6.at ne4 f45
      have f56 := c6.at ne5 f5
      have D6 := W4.to (c5.trans c6)
      obtain ⟨us6, hD6, _⟩ := D6.sm
      have hDD := (c5.trans c6).at W4.ne.2.1 hD4
      rw [hD6] at hDD
      cases hDD
      generalize upd H5 q6 (.tup [.ref q4, .ref q5, ub]) = H6 at b6 f6 f46 f56 D6 hD6 ⊢
      have lus : us4.length = ds.length := by
        obtain ⟨us', h1, h2⟩ := D6.dl
        rw [hD6] at h1
        cases h1
        exact h2.len
      obtain ⟨vs6, hR6, _⟩ := D6.rl
      have hne : ∀ {q : Addr} {o : HO}, H6 q = some o → (∀ xs, o ≠ .lst xs) → q ≠ p → gnd p Dl Rl H6 q = some o := fun {q o} e nl np => gnd_of (fun z => nl vs6 (by rw [z, hR6] at e; cases e; rfl)) (fun z => nl us4 (by rw [z, hD6] at e; cases e; rfl)) np e
      have g4 := hne f46 (fun xs z => by cases z) ne4
      have g5 := hne f56 (fun xs z => by cases z) ne5
      have g6 := hne f6 (fun xs z => by cases z) ne6
      have mxb := hb mx hm
      have hq : DQ K (gnd p Dl Rl H6) (.ref q6) (.tuple [.tuple [.int t, .int (i : Int)], .tuple [.int a0, .int a1, .int a2, .int a3], .tuple (.str x :: l)]) :=
        .tup (.inl (.inl g6)) (.cons (.tup (.inl (.inl g4)) (.cons (.int _) (.cons (.int _) .nil))) (.cons (.tup (.inl (.inl g5)) (.cons (.int _) (.cons (.int _) (.cons (.int _) (.cons (.int _) .nil))))) (.cons (hub.to (gnd_mono b6.same)) .nil)))
      have tb : 1 ≤ t ∧ t ≤ 999 := by omega
      have hd := deed_made (x := x) (l := l) tb hi (fun e he => by have h1 := hb e he; have h2 := hle e he; omega) hx
      have A6 := D6.app hD6 hq hd (by show t ≤ _; omega) few
      refine ⟨Dl, _, _, rfl, rfl, hD6, by rw [lus, sizeLine_eq]; omega, ?_⟩
      have f47 : gnd p Dl Rl (upd H6 Dl (.lst (us4 ++ [.ref q6]))) q4 = some (.tup [.int t, .int (i : Int)]) := A6.1 _ _ g4
      have S07 := (gnd_mono (D := Dl) (R := Rl) b6.same).trans A6.1
      have W7 := A6.2
      generalize upd H6 Dl (.lst (us4 ++ [.ref q6])) = H7 at f47 S07 W7 ⊢
      have a7 : SqL K (gnd p Dl Rl H7) a ([a0, a1, a2, a3].map V.int) := S07.seq hs
      have s47 : SqT K H7 q4 [.int t, .int (i : Int)] := .inl (.inl (gnd_in p Dl Rl H7 _ _ f47))
      refine ⟨_, rfl, by decide, by decide, fun Dd nD => K0.lc_funR (n := 4) (fun n => .int (if n = i then t else [a0, a1, a2, a3].getD n 0)) nD (by decide) (fun _ => rfl) (fun n J QQ hn S2 q2 => ?_) (fun J S2 e2 => ?_)⟩
      · refine ⟨_, rfl, _, rfl, rfl, _, rfl, ?_⟩
        by_cases c : n = i
        · rw [if_pos c] at q2
          rw [decide_eq_true (by rw [c, Int.zero_add])]
          exact iteT ⟨_, rfl, q4, _, _, _, rfl, rfl, K0.seqT_same S2 s47, atI_nat (j := 0) rfl, q2⟩
        · rw [if_neg c] at q2
          rw [decide_eq_false (by intro z; rw [V.int.injEq] at z; omega)]
          exact iteF ⟨_, rfl, _, rfl, a, _, _, _, rfl, rfl, S2.seq ((gnd_in p Dl Rl H7).seq a7), (by rw [Int.zero_add]; exact atI_nat (getD4 (l := [a0, a1, a2, a3]) rfl hn)), q2⟩
      · have bJ : Bt p H7 J := (Bt.refl W7.src).grow S2
        have W8 := W7.to bJ
        obtain ⟨vs7, hR7, hP7⟩ := W7.rl
        obtain ⟨us7, hD7, _⟩ := W7.sm
        have lv7 : vs7.length = 4 := by rw [paired_len hP7, W7.r4]
        have neR : Dd ≠ Rl := Ne.symm (ne_of_none hR7 nD)
        have neD : Dd ≠ Dl := Ne.symm (ne_of_none hD7 nD)
        have nep : Dd ≠ p := (Bt.refl W7.src).ne nD
        have hR8 := S2 _ _ hR7
        have P8 := W8.put hR8 (i := i) (r := (List.range 4).map fun n => if n = i then t else [a0, a1, a2, a3].getD n 0) (q := Dd) (by rw [List.map_map]; exact SqL.of (gnd_of neR neD nep e2)) rfl (fun e he => ?_)
        · exact ⟨_, rfl, wd, _, _, _, rfl, rfl, SqL.of W8.wl, atI_nat (j := 1) rfl, _, rfl, Rl, vs7, _, i, rfl, rfl, hR8, by rw [lv7]; exact ixN4 hi, _, rfl, k _ q4 t _ _ ((S07.trans (gnd_mono bJ.same)).trans P8.1) P8.2 (.inl (.inl (P8.1 _ _ (gnd_mono bJ.same _ _ f47)))) tb.1 tb.2⟩
        · obtain ⟨n, hn, rfl⟩ := List.mem_map.mp he
          rw [List.mem_range] at hn
          have L : ((ds ++ [PyData.tuple [.tuple [.int t, .int (i : Int)], .tuple [.int a0, .int a1, .int a2, .int a3], .tuple (.str x :: l)]]).length : Int) = ds.length + 1 := by
            rw [List.length_append]
            rfl
          have y1 := hb _ (mem4 (l := [a0, a1, a2, a3]) rfl hn)
          rw [L]
          by_cases c : n = i
          · rw [if_pos c]
            omega
          · rw [if_neg c]
            omega
end
end K1
set_option maxHeartbeats 4000000
namespace K1
open PySem L2
/-- a row beside two lists -/
def Rw (D D' : Addr) (H : Hp) (u : V) (r : List Int) : Prop := ∃ a, u = .ref a ∧ a ≠ D ∧ a ≠ D' ∧ H a = some (.lst (r.map V.int))
def spWorld (K : PySem.W.Frag) : Sp := fun vs H Q _ => ∃ m : Int, vs = [.int m] ∧ ∀ H' wd Dl Rl us, Same H H' → H wd = none → H Dl = none → H Rl = none → Dl ≠ Rl → wd ≠ Dl → wd ≠ Rl → H' wd = some (.lst [.ref Dl, .ref Rl, .int m]) → H' Dl = some (.lst []) → H' Rl = some (.lst us) →
  Paired (Rw Dl Rl H') us (List.replicate 4 [0, 0, 0, 0]) → Q (.ref wd) H'
def spStep (K : PySem.W.Frag) : Sp := fun vs H Q _ => ∃ p wd Dl Rl ds rs m, vs = [.ref p, .ref wd] ∧ ds.length < 10 ∧ Wld K p wd Dl Rl H ds rs m ∧ ∀ H' u rs' d, Same (gnd p Dl Rl H) (gnd p Dl Rl H') → Wld K p wd Dl Rl H' (ds ++ [d]) rs' m → Q u H'
theorem paired_app {α β : Type} {F : α → β → Prop} {a : α} {b : β} (k : F a b) : ∀ {l : List α} {m : List β}, Paired F l m → Paired F (l ++ [a]) (m ++ [b])
  | _, _, .nil => .cons k .nil
  | _, _, .cons r t => .cons r (paired_app k t)
theorem Rw.to {D D' : Addr} {H H' : Hp} {u : V} {r : List Int} (h : Rw D D' H u r) (s : ∀ b o, b ≠ D → b ≠ D' → H b = some o → H' b = some o) : Rw D D' H' u r := by
  obtain ⟨a, e, n1, n2, h⟩ := h
  exact ⟨a, e, n1, n2, s a _ n1 n2 h⟩
section
variable {P : Program} {w : World} {K : PySem.W.Frag} {mg : Str → Option Value} {base : Heap}
theorem sc_world : FnScope ["_law_many", "_law_hand"] ["_law_many"] (defScope (top 53)) := ⟨rfl, rfl, rfl, by decide +kernel, rfl, by decide +kernel, by decide +kernel⟩
theorem cl_world (T : All K mg) (M2 : Nms2 mg) : Cl P w K mg base 1 "_law_world" ["_law_many"] (spWorld K) := by
  obtain ⟨g, fd, D⟩ := T.dn 53 _ _ rfl
  refine D.cl (D.fn.ok sc_world (fun vs H Q E h => ?_) (fun cdv A outer s H vs Q E hr h => ?_))
  · obtain ⟨m, rfl, _⟩ := h
    rfl
  · obtain ⟨m, rfl, k⟩ := h
    refine ⟨_, (pss_one (ps_ret (pe_lst (pa_cons (pe_lst pa_nil) (pa_cons (pe_lc (own := [("_law_hand", 1)]) (g := gName 1) (tt := tYes) (te := tLst (tCons (tC (.int 0)) (tCons (tC (.int 0)) (tCons (tC (.int 0)) (tCons (tC (.int 0)) tNil))))) rfl sc_world.nd (pi_range1 rfl M2.range (pa_cons pe_int pa_nil)) (blkOk_by (own := [("_law_hand", 1)]) (N := [("_law_many" : Str), ("_law_hand" : Str)]) (sc := defScope (top 53)) (by decide +kernel)) (fun _ _ _ _ _ => pg_name (i := 1) sc_world.nd rfl (Or.inl rfl)) (fun _ _ _ _ _ => pts_nil) (fun _ _ _ _ _ => (pe_lst (pa_cons pe_int (pa_cons pe_int (pa_cons pe_int (pa_cons pe_int pa_nil))))))) (pa_cons (pv 0) pa_nil)))))), ?_⟩
    refine ⟨Nat.zero_le _, fun q1 n1 => ?_⟩
    have S1 := K0.same_upd (o := .lst []) n1
    have f1 := @upd_same H q1 (.lst [])
    generalize upd H q1 (.lst []) = H1 at S1 f1 ⊢
    refine ⟨4, rfl, by decide, by decide, fun D2 n2 => ?_⟩
    have ne12 : q1 ≠ D2 := ne_of_none f1 n2
    refine lc_range (lo := 0) (n := 4) (fun i H' => i ≤ 4 ∧ Same H1 H' ∧ ∃ acc, H' D2 = some (.lst acc) ∧ Paired (Rw q1 D2 H') acc (List.replicate i [0, 0, 0, 0])) ⟨Nat.zero_le _, K0.same_upd n2, [], upd_same, .nil⟩ ?_ ?_
    · rintro i H' hi ⟨_, s, acc, hl, hp⟩
      refine ⟨rfl, ?_⟩
      unfold tYes
      dsimp only
      rw [if_pos rfl]
      refine ⟨(by show 4 ≤ sizeLine; rw [sizeLine_eq]; decide), fun r nr => ?_⟩
      have nr1 : r ≠ q1 := Ne.symm (ne_of_none (s _ _ f1) nr)
      have nr2 : r ≠ D2 := Ne.symm (ne_of_none hl nr)
      have lacc := paired_len hp
      rw [List.length_replicate] at lacc
      refine ⟨acc, (upd_ne (Ne.symm nr2)).trans hl, by rw [lacc, sizeLine_eq]; omega, hi, K0.same_over (s.trans (K0.same_upd nr)) n2, _, upd_same, ?_⟩
      rw [List.replicate_succ']
      refine paired_app ⟨r, rfl, nr1, nr2, (upd_ne nr2).trans upd_same⟩ (paired_imp (fun _ _ h => h.to fun b o h1 h2 e => ?_) hp)
      rw [upd_ne h2, upd_ne (ne_of_none e nr)]
      exact e
    · rintro H' ⟨_, s, acc, hl, hp⟩
      refine ⟨_, rfl, (by show 3 ≤ sizeLine; rw [sizeLine_eq]; decide), fun q3 n3 => ?_⟩
      have g1 := s _ _ f1
      have ne13 := ne_of_none g1 n3
      have ne23 := ne_of_none hl n3
      have S3 : Same H H' := S1.trans s
      refine k _ q3 q1 D2 acc (S3.trans (K0.same_upd n3)) (old_none S3 n3) n1 (old_none S1 n2) ne12 (Ne.symm ne13) (Ne.symm ne23) upd_same ((upd_ne ne13).trans g1) ((upd_ne ne23).trans hl) (paired_imp (fun _ _ h => h.to fun b o h1 h2 e => ?_) hp)
      rw [upd_ne (ne_of_none e n3)]
      exact e
theorem sc_step : FnScope ["_law_source", "_law_world_here", "_law_hand"] ["_law_source", "_law_world_here"] (defScope (top 61)) := ⟨rfl, rfl, rfl, by decide +kernel, rfl, by decide +kernel, by decide +kernel⟩
theorem cl_step (T : All K mg) (M : Nms mg) (M2 : Nms2 mg) : Cl P w K mg base 6 "_law_step" ["_law_source", "_law_world_here"] (spStep K) := by
  obtain ⟨g, fd, D⟩ := T.dn 61 _ _ rfl
  refine D.cl (D.fn.ok sc_step (fun vs H Q E h => ?_) (fun cdv A outer s H vs Q E hr h => ?_))
  · obtain ⟨p, wd, Dl, Rl, ds, rs, m, rfl, _⟩ := h
    rfl
  · obtain ⟨p, wd, Dl, Rl, ds, rs, m, rfl, few, W, k⟩ := h
    refine ⟨_, (pss_cons (ps_set (i := 2) sc_step.nd rfl (Or.inl rfl) (pe_cl (cl_takeB T M) hr (by decide) (pa_cons (pv 0) (pa_cons (pe_ix ix_list (pv 1) pe_int (fun _ _ => rfl)) pa_nil))))
      (pss_cons (ps_if (pt_cmpR op_eq (pe_cl (cl_takeB T M) hr (by decide) (pa_cons (pv 0) (pa_cons pe_int pa_nil))) pe_int (nomark _)) (pss_one (ps_expr (pe_cl (cl_learn T M M2) hr (by decide) (pa_cons (pv 0) (pa_cons (pv 1) (pa_cons (pv 2) pa_nil)))))) pss_nil)
      (pss_one (ps_ret (pe_cl (cl_do T M M2) hr (by decide) (pa_cons (pv 0) (pa_cons (pv 1) (pa_cons (pv 2) (pa_cons (pe_cl (cl_lbody T M) hr (by decide) (pa_cons (pv 0) (pa_cons (pe_cl (cl_seend T) hr (by decide) (pa_cons (pv 1) (pa_cons (pv 2) pa_nil))) pa_nil))) pa_nil))))))))), ?_⟩
    have M0 := W.m0
    have M3 := W.m3
    refine ⟨_, rfl, _, rfl, wd, _, _, _, rfl, rfl, SqL.of W.wl, atI_nat (j := 2) rfl, p, m, rfl, W.src, by omega, by omega, fun o H1 o0 o1 b1 => ?_⟩
    obtain ⟨i, rfl⟩ : ∃ n : Nat, o = (n : Int) := ⟨o.toNat, by omega⟩
    have hi : i < 4 := by omega
    refine ⟨_, rfl, p, 2, rfl, b1.src, by decide, by decide, fun r H2 r0 r1 b2 => ⟨rfl, _, rfl, ite2 (fun _ => ?_) (fun _ => ?_)⟩⟩
    · have W2 := (W.to b1).to b2
      refine ⟨_, rfl, _, rfl, _, rfl, p, wd, Dl, Rl, ds, rs, m, i, rfl, hi, W2, fun H4 rs' S4 W4 => ?_⟩
      have S04 := (gnd_mono (D := Dl) (R := Rl) (b1.trans b2).same).trans S4
      refine ⟨_, rfl, _, rfl, _, rfl, _, rfl, _, rfl, _, rfl, p, wd, Dl, Rl, ds, _, m, i, rfl, hi, W4, fun H5 a us ds' b5 S5 => ?_⟩
      refine ⟨p, a, us, ds', rfl, S5, fun H6 u x l hx b6 hq => ?_⟩
      have W6 := (W4.to b5).to b6
      obtain ⟨us6, hD6, _⟩ := W6.sm
      obtain ⟨vs6, hR6, _⟩ := W6.rl
      have pu : Pure (.tuple (.str x :: l)) := Pure.tuple fun d hd => pure_body hx d hd
      exact ⟨p, wd, Dl, Rl, ds, _, m, i, u, x, l, rfl, hi, few, W6, dq_gnd hD6 hR6 _ _ pu.1 pu.2 hq, hx, fun H7 a' t rs' d S7 W7 _ _ _ => k _ _ _ _ ((S04.trans (gnd_mono (b5.trans b6).same)).trans S7) W7⟩
    · have W2 := (W.to b1).to b2
      have S02 := gnd_mono (D := Dl) (R := Rl) (b1.trans b2).same
      refine ⟨_, rfl, _, rfl, _, rfl, _, rfl, _, rfl, _, rfl, p, wd, Dl, Rl, ds, _, m, i, rfl, hi, W2, fun H5 a us ds' b5 S5 => ?_⟩
      refine ⟨p, a, us, ds', rfl, S5, fun H6 u x l hx b6 hq => ?_⟩
      have W6 := (W2.to b5).to b6
      obtain ⟨us6, hD6, _⟩ := W6.sm
      obtain ⟨vs6, hR6, _⟩ := W6.rl
      have pu : Pure (.tuple (.str x :: l)) := Pure.tuple fun d hd => pure_body hx d hd
      exact ⟨p, wd, Dl, Rl, ds, _, m, i, u, x, l, rfl, hi, few, W6, dq_gnd hD6 hR6 _ _ pu.1 pu.2 hq, hx, fun H7 a' t rs' d S7 W7 _ _ _ => k _ _ _ _ ((S02.trans (gnd_mono (b5.trans b6).same)).trans S7) W7⟩
end
end K1
set_option maxHeartbeats 4000000
namespace K1
open PySem L2
theorem nw_gnd {p Dl Rl : Addr} {H H' : Hp} {u1 u2 u3 : HO} (h1 : H p = some u1) (h2 : H Dl = some u2) (h3 : H Rl = some u3) : Same (nw H H') (gnd p Dl Rl H') := fun b u e => by
  obtain ⟨n, e'⟩ := nw_at e
  exact gnd_of (Ne.symm (ne_of_none h3 n)) (Ne.symm (ne_of_none h2 n)) (Ne.symm (ne_of_none h1 n)) e'
def spDrawn (K : PySem.W.Frag) : Sp := fun vs H Q _ => ∃ p : Addr, vs = [.ref p, .int 8, .int 3] ∧ Src H p ∧ ∀ H' wd Dl Rl ds rs m, Bt p H H' → Wld K p wd Dl Rl H' ds rs m → Q (.ref wd) H'
/-- the world at first -/
theorem Wld.first {K : PySem.W.Frag} {p wd Dl Rl : Addr} {H H' : Hp} {us : List V} {m : Int} (src : Src H p) (S : Same H H') (n1 : H wd = none) (n2 : H Dl = none) (n3 : H Rl = none) (e1 : Dl ≠ Rl) (e2 : wd ≠ Dl) (e3 : wd ≠ Rl) (h1 : H' wd = some (.lst [.ref Dl, .ref Rl, .int m])) (h2 : H' Dl = some (.lst []))
    (h3 : H' Rl = some (.lst us)) (hp : Paired (Rw Dl Rl H') us (List.replicate 4 [0, 0, 0, 0])) (m0 : 1 ≤ m) (m3 : m ≤ 3) : Wld K p wd Dl Rl H' [] (List.replicate 4 [0, 0, 0, 0]) m ∧ Same (hid p H) (gnd p Dl Rl H') := by
  obtain ⟨x, y, hsrc, z⟩ := src
  have hsrc' := S _ _ hsrc
  refine ⟨⟨⟨x, y, hsrc', z⟩, h1, ⟨[], h2, .nil⟩, ⟨us, h3, paired_len4 hp⟩, m0, m3, rfl, fun r hr => ?_, fun d hd => absurd hd List.not_mem_nil, Nat.zero_le _, Ne.symm (ne_of_none hsrc n1), Ne.symm (ne_of_none hsrc n2), Ne.symm (ne_of_none hsrc n3), e1, e2, e3⟩, fun b u e => ?_⟩
  · rw [List.eq_of_mem_replicate hr]
    exact ⟨rfl, by decide⟩
  · obtain ⟨e4, e5⟩ := hid_at e
    exact gnd_of (ne_of_none e5 n3) (ne_of_none e5 n2) e4 (S _ _ e5)
where
  paired_len4 {us : List V} (hp : Paired (Rw Dl Rl H') us (List.replicate 4 [0, 0, 0, 0])) : Paired (Row K (gnd p Dl Rl H')) us (List.replicate 4 [0, 0, 0, 0]) := by
    obtain ⟨x, y, hsrc, z⟩ := src
    have hsrc' := S _ _ hsrc
    have go : ∀ {l : List V} {n : Nat}, Paired (Rw Dl Rl H') l (List.replicate n [0, 0, 0, 0]) → Paired (Row K (gnd p Dl Rl H')) l (List.replicate n [0, 0, 0, 0]) := by
      intro l n
      induction n generalizing l with
      | zero =>
        intro h
        cases h
        exact .nil
      | succ n ih =>
        intro h
        cases h with
        | cons r t =>
          obtain ⟨a, e, n1, n2, ha⟩ := r
          refine .cons ⟨a, e, SqL.of (gnd_of n2 n1 (fun z => ?_) ha)⟩ (ih t)
          rw [z, hsrc'] at ha
          cases ha
    exact go hp
section
variable {P : Program} {w : World} {K : PySem.W.Frag} {mg : Str → Option Value} {base : Heap}
theorem sc_drawn : FnScope ["_law_source", "_law_most", "_law_many", "_law_world_here", "_law_made", "_law_hand", "_law_turn"] ["_law_source", "_law_most", "_law_many"] (defScope (top 62)) := ⟨rfl, rfl, rfl, by decide +kernel, rfl, by decide +kernel, by decide +kernel⟩
theorem cl_drawn (T : All K mg) (M : Nms mg) (M2 : Nms2 mg) : Cl P w K mg base 7 "_law_drawn" ["_law_source", "_law_most", "_law_many"] (spDrawn K) := by
  obtain ⟨g, fd, D⟩ := T.dn 62 _ _ rfl
  refine D.cl (D.fn.ok sc_drawn (fun vs H Q E h => ?_) (fun cdv A outer s H vs Q E hr h => ?_))
  · obtain ⟨p, rfl, _⟩ := h
    rfl
  · obtain ⟨p, rfl, src, k⟩ := h
    refine ⟨_, (pss_cons (ps_set (i := 3) sc_drawn.nd rfl (Or.inl rfl) (pe_cl (cl_world T M2) hr (by decide) (pa_cons (pe_op op_add pe_int (pe_cl (cl_takeB T M) hr (by decide) (pa_cons (pv 0) (pa_cons (pv 2) pa_nil)))) pa_nil)))
      (pss_cons (ps_if (pt_cmpR op_gt (pe_cl (cl_takeB T M) hr (by decide) (pa_cons (pv 0) (pa_cons pe_int pa_nil))) pe_int (nomark _)) (pss_cons (ps_set (i := 4) sc_drawn.nd rfl (Or.inl rfl) (pe_cl (cl_do T M M2) hr (by decide) (pa_cons (pv 0) (pa_cons (pv 3) (pa_cons pe_int (pa_cons (li_tup (ds := [.str "make", .str "let", .tuple [.int 0, .int 0], .int 1, .str "x"]) (las_cons (li_str (by decide +kernel)) (las_cons (li_str (by decide +kernel)) (las_cons (li_tup (las_cons li_int (las_cons li_int las_nil)) (by decide)) (las_cons li_int (las_cons (li_str (by decide +kernel)) las_nil))))) (by decide)) pa_nil))))))
      (pss_cons (ps_expr (pe_cl (cl_do T M M2) hr (by decide) (pa_cons (pv 0) (pa_cons (pv 3) (pa_cons pe_int (pa_cons (pe_tup (pa_cons pe_str (pa_cons pe_str (pa_cons (pe_tup (pa_cons pe_int (pa_cons pe_int pa_nil))) (pa_cons pe_int (pa_cons (pv 4) pa_nil)))))) pa_nil))))))
      (pss_one (ps_for PassesOwn.never rfl (pi_range1 rfl M2.range (pa_cons (pe_ix ix_list (pv 3) pe_int (fun _ _ => rfl)) pa_nil)) (pg_name (i := 5) sc_drawn.nd rfl (Or.inl rfl)) (pss_one (ps_asg (pe_callTy call_list_of (by rfl) M2.list (by decide +kernel) (pa_cons (pe_ix ix_list (pe_ix ix_list (pv 3) pe_int (fun _ _ => rfl)) pe_int (fun _ _ => rfl)) pa_nil)) (pg_sub (pe_ix ix_list (pv 3) pe_int (fun _ _ => rfl)) (pv 5) set_list))))))) pss_nil)
      (pss_cons (ps_for PassesOwn.never rfl (pi_range1 rfl M2.range (pa_cons (pe_cl (cl_takeB T M) hr (by decide) (pa_cons (pv 0) (pa_cons (pe_op op_add (pv 1) pe_int) pa_nil))) pa_nil)) (pg_name (i := 6) sc_drawn.nd rfl (Or.inl rfl)) (pss_one (ps_expr (pe_cl (cl_step T M M2) hr (by decide) (pa_cons (pv 0) (pa_cons (pv 3) pa_nil))))))
      (pss_one (ps_ret (pv 3)))))), ?_⟩
    refine ⟨_, rfl, _, rfl, p, 3, rfl, src, by decide, by decide, fun m0 H1 r0 r1 b1 => ⟨_, _, rfl, rfl, 1 + m0, rfl, fun H2 wd Dl Rl us S2 z1 z2 z3 z4 z5 z6 z7 z8 z9 z10 => ?_⟩⟩
    obtain ⟨W2, S02⟩ := Wld.first (K := K) b1.src S2 z1 z2 z3 z4 z5 z6 z7 z8 z9 z10 (by omega) (by omega)
    have S02 := b1.same.trans S02
    refine ⟨_, rfl, p, 3, rfl, W2.src, by decide, by decide, fun r3 H3 r30 r31 b3 => ⟨_, _, rfl, rfl, _, rfl, ite2 (fun _ => ?_) (fun _ => ?_)⟩⟩
    · have W3 := W2.to b3
      have S03 := S02.trans (gnd_mono b3.same)
      refine ⟨_, rfl, _, rfl, fun H4 v4 S4 d4 => ?_⟩
      have b4 := (Bt.refl W3.src).grow S4
      have W4 := W3.to b4
      obtain ⟨us3, hD3, _⟩ := W3.sm
      obtain ⟨vs3, hR3, _⟩ := W3.rl
      obtain ⟨x3, y3, hp3, _⟩ := W3.src
      refine ⟨p, wd, Dl, Rl, [], _, _, 0, v4, "make", _, rfl, by decide, by decide, W4, d4.to (nw_gnd hp3 hD3 hR3), by decide +kernel, fun H5 a5 t5 rs5 d5 S5 W5 h5 t50 t51 => ?_⟩
      have S05 := (S03.trans (gnd_mono b4.same)).trans S5
      refine ⟨_, rfl, _, rfl, (by show 2 ≤ sizeLine; rw [sizeLine_eq]; decide), fun q6 n6 => ?_⟩
      have b6 := (Bt.refl W5.src).new (o := .tup [.int 0, .int 0]) n6
      have ne6 := (Bt.refl W5.src).ne n6
      have f6 := @upd_same H5 q6 (.tup [.int 0, .int 0])
      generalize upd H5 q6 (.tup [.int 0, .int 0]) = H6 at b6 f6 ⊢
      refine ⟨_, rfl, (by show 5 ≤ sizeLine; rw [sizeLine_eq]; decide), fun q7 n7 => ?_⟩
      have b7 := (Bt.refl b6.src).new (o := .tup [.str "make", .str "use", .ref q6, .int 5, .ref a5]) n7
      have ne7 := (Bt.refl b6.src).ne n7
      have f7 := @upd_same H6 q7 (.tup [.str "make", .str "use", .ref q6, .int 5, .ref a5])
      have f67 := b7.at ne6 f6
      generalize upd H6 q7 (.tup [.str "make", .str "use", .ref q6, .int 5, .ref a5]) = H7 at b7 f7 f67 ⊢
      have W7 := (W5.to b6).to b7
      obtain ⟨us7, hD7, _⟩ := W7.sm
      obtain ⟨vs7, hR7, _⟩ := W7.rl
      have hq : DQ K (gnd p Dl Rl H7) (.ref q7) (.tuple (.str "make" :: [.str "use", .tuple [.int 0, .int 0], .int 5, .tuple [.int t5, .int ((0 : Nat) : Int)]])) :=
        .tup (.inl (.inl (gnd_of (ne_of f7 hR7 (by intro z; cases z)) (ne_of f7 hD7 (by intro z; cases z)) ne7 f7))) (.cons (.str _ (by decide +kernel)) (.cons (.str _ (by decide +kernel)) (.cons (.tup (.inl (.inl (gnd_of (ne_of f67 hR7 (by intro z; cases z)) (ne_of f67 hD7 (by intro z; cases z)) ne6 f67))) (.cons (.int _) (.cons (.int _) .nil))) (.cons (.int _) (.cons (.tup (K0.seqT_same (gnd_mono (b6.trans b7).same) h5) (.cons (.int _) (.cons (.int _) .nil))) .nil)))))
      have hb : bodyR "make" [.str "use", .tuple [.int 0, .int 0], .int 5, .tuple [.int t5, .int ((0 : Nat) : Int)]] = true := by
        show (true && (true && (((decide (1 ≤ t5) && decide (t5 ≤ 999)) && true) || _))) = true
        rw [decide_eq_true t50, decide_eq_true t51]
        rfl
      refine ⟨p, wd, Dl, Rl, _, _, _, 0, _, _, _, rfl, by decide, (by show 1 < 10; decide), W7, hq, hb, fun H8 a8 t8 rs8 d8 S8 W8 h8 _ _ => ?_⟩
      have S08 := (S05.trans (gnd_mono (b6.trans b7).same)).trans S8
      have M0 := W8.m0
      have M3 := W8.m3
      refine ⟨_, rfl, wd, _, _, _, rfl, rfl, SqL.of W8.wl, atI_nat (j := 2) rfl, _, rfl, by omega, by omega, for_range (n := (1 + m0).toNat) (fun i σ J => σ.length = 7 ∧ σ[0]? = some (some (V.ref p)) ∧ σ[1]? = some (some (V.int 8)) ∧ σ[3]? = some (some (V.ref wd)) ∧ ∃ rs, Same (hid p H) (gnd p Dl Rl J) ∧ Wld K p wd Dl Rl J ([] ++ [d5] ++ [d8]) rs (1 + m0)) ⟨rfl, rfl, rfl, rfl, _, S08, W8⟩ (fun i σ J hi ⟨tl, t0, t1, t3, rs, s, Wi⟩ => ?_) (fun σ J ⟨tl, t0, t1, t3, rs, s, Wi⟩ => ?_)⟩
      · have hi4 : i < 4 := by omega
        obtain ⟨vsi, a, a0, a1, a2, a3, hR, lv, av, hrow, hs, hb⟩ := Wi.row (i := 0) (by decide)
        refine ⟨_, (List.getElem?_set_ne (by decide)).trans t3, wd, _, _, _, rfl, rfl, SqL.of Wi.wl, atI_nat (j := 1) rfl, Rl, vsi, _, _, rfl, rfl, SqL.of hR, av, a, _, rfl, .inl ((gnd_in p Dl Rl J).seq hs), fun q9 n9 => ?_⟩
        have b9 := (Bt.refl Wi.src).new (o := .lst [.int a0, .int a1, .int a2, .int a3]) n9
        have ne9 := (Bt.refl Wi.src).ne n9
        have f9 := @upd_same J q9 (.lst [.int a0, .int a1, .int a2, .int a3])
        have neR : q9 ≠ Rl := Ne.symm (ne_of_none hR n9)
        obtain ⟨usi, hDi, _⟩ := Wi.sm
        have neD : q9 ≠ Dl := Ne.symm (ne_of_none hDi n9)
        have hR9 := b9.at Wi.ne.2.2.1 hR
        generalize upd J q9 (.lst [.int a0, .int a1, .int a2, .int a3]) = J9 at b9 f9 hR9 ⊢
        have W9 := Wi.to b9
        have P9 := W9.put hR9 (i := i) (r := [a0, a1, a2, a3]) (q := q9) (SqL.of (gnd_of neR neD ne9 f9)) rfl hb
        refine ⟨_, (List.getElem?_set_ne (by decide)).trans t3, wd, _, _, _, rfl, rfl, SqL.of W9.wl, atI_nat (j := 1) rfl, _, ?_, Rl, vsi, _, i, rfl, rfl, hR9, by rw [lv]; exact ixN4 hi4, ?_⟩
        · rw [List.getElem?_set_self (by omega), Int.zero_add]
        · exact ⟨by rw [List.length_set]; exact tl, (List.getElem?_set_ne (by decide)).trans t0, (List.getElem?_set_ne (by decide)).trans t1, (List.getElem?_set_ne (by decide)).trans t3, _, (s.trans (gnd_mono b9.same)).trans P9.1, P9.2⟩
      · have W10 := Wi
        refine ⟨_, t0, _, t1, _, _, rfl, rfl, p, 9, rfl, (W10).src, by decide, by decide, fun r JA r0 r1 bA => ⟨r, rfl, by omega, by omega, for_range (n := r.toNat) (fun i σ J => σ[0]? = some (some (V.ref p)) ∧ σ[3]? = some (some (V.ref wd)) ∧ ∃ ds rs, Same (hid p H) (gnd p Dl Rl J) ∧ Wld K p wd Dl Rl J ds rs (1 + m0) ∧ ds.length ≤ 2 + i) ⟨t0, t3, _, _, (s).trans (gnd_mono bA.same), (W10).to bA, (by show 2 ≤ 2; decide)⟩ (fun i σ J hi ⟨t0, t3, ds, rs, s, Wi, li⟩ => ?_) (fun σ J ⟨t0, t3, ds, rs, s, Wi, li⟩ => ⟨_, t3, k J wd Dl Rl ds rs _ ⟨s.trans (gnd_hid p Dl Rl J), Wi.src⟩ Wi⟩)⟩⟩
        refine ⟨_, (List.getElem?_set_ne (by decide)).trans t0, _, (List.getElem?_set_ne (by decide)).trans t3, p, wd, Dl, Rl, ds, rs, _, rfl, by omega, Wi, fun J' u rs' d s' W' => ⟨(List.getElem?_set_ne (by decide)).trans t0, (List.getElem?_set_ne (by decide)).trans t3, _, rs', s.trans s', W', ?_⟩⟩
        rw [List.length_append]
        show ds.length + 1 ≤ 2 + (i + 1)
        omega
    · have W3 := W2.to b3
      have S03 := S02.trans (gnd_mono (D := Dl) (R := Rl) b3.same)
      refine ⟨_, rfl, _, rfl, _, _, rfl, rfl, p, 9, rfl, (W3).src, by decide, by decide, fun r JA r0 r1 bA => ⟨r, rfl, by omega, by omega, for_range (n := r.toNat) (fun i σ J => σ[0]? = some (some (V.ref p)) ∧ σ[3]? = some (some (V.ref wd)) ∧ ∃ ds rs, Same (hid p H) (gnd p Dl Rl J) ∧ Wld K p wd Dl Rl J ds rs (1 + m0) ∧ ds.length ≤ 2 + i) ⟨rfl, rfl, _, _, (S03).trans (gnd_mono bA.same), (W3).to bA, (by show 0 ≤ 2; decide)⟩ (fun i σ J hi ⟨t0, t3, ds, rs, s, Wi, li⟩ => ?_) (fun σ J ⟨t0, t3, ds, rs, s, Wi, li⟩ => ⟨_, t3, k J wd Dl Rl ds rs _ ⟨s.trans (gnd_hid p Dl Rl J), Wi.src⟩ Wi⟩)⟩⟩
      refine ⟨_, (List.getElem?_set_ne (by decide)).trans t0, _, (List.getElem?_set_ne (by decide)).trans t3, p, wd, Dl, Rl, ds, rs, _, rfl, by omega, Wi, fun J' u rs' d s' W' => ⟨(List.getElem?_set_ne (by decide)).trans t0, (List.getElem?_set_ne (by decide)).trans t3, _, rs', s.trans s', W', ?_⟩⟩
      rw [List.length_append]
      show ds.length + 1 ≤ 2 + (i + 1)
      omega
end
end K1
set_option maxHeartbeats 4000000
/-! dict(pairs) whose keys are tuples, and sorted of it -/
namespace K1
open PySem L2 PySem.Spec PyProof.Rows
theorem perm_map_inv {α β : Type} {f : α → β} {m l : List β} (h : m.Perm l) : ∀ {L : List α}, m = L.map f → ∃ L' : List α, l = L'.map f ∧ L'.Perm L := by
  induction h with
  | nil =>
    intro L e
    exact ⟨L, e, .refl _⟩
  | cons x h ih =>
    intro L e
    cases L with
    | nil => cases e
    | cons a L =>
      rw [List.map_cons, List.cons.injEq] at e
      obtain ⟨L', e', p⟩ := ih e.2
      exact ⟨a :: L', by rw [List.map_cons, ← e', e.1], p.cons a⟩
  | swap x y l =>
    intro L e
    cases L with
    | nil => cases e
    | cons a L =>
      cases L with
      | nil => cases e
      | cons b L =>
        rw [List.map_cons, List.map_cons, List.cons.injEq, List.cons.injEq] at e
        exact ⟨b :: a :: L, by rw [List.map_cons, List.map_cons, ← e.1, ← e.2.1, ← e.2.2], .swap ..⟩
  | trans h1 h2 ih1 ih2 =>
    intro L e
    obtain ⟨L1, e1, p1⟩ := ih1 e
    obtain ⟨L2, e2, p2⟩ := ih2 e1
    exact ⟨L2, e2, p2.trans p1⟩
section
variable {κ : Type} [DecidableEq κ]
theorem stored_val {R : Value → Prop} {xs : List (κ × Addr × Value)} {k : κ} {a : Addr} {v : Value} (h : ∀ x ∈ xs, R x.2.2) (hv : R v) : ∀ x ∈ storedH xs k a v, R x.2.2 := by
  intro x hx
  unfold storedH at hx
  split at hx
  · obtain ⟨y, hy, rfl⟩ := List.mem_map.mp hx
    unfold putAt
    split
    · exact hv
    · exact h y hy
  · rcases List.mem_append.mp hx with z | z
    · exact h x z
    · rw [List.mem_singleton.mp z]
      exact hv
theorem storedAll_val {R : Value → Prop} : ∀ {ps xs : List (κ × Addr × Value)}, (∀ x ∈ xs, R x.2.2) → (∀ x ∈ ps, R x.2.2) → ∀ x ∈ storedAllH xs ps, R x.2.2
  | [], _, h, _ => h
  | p :: ps, xs, h, hp => storedAll_val (ps := ps) (stored_val h (hp p List.mem_cons_self)) fun x hx => hp x (List.mem_cons_of_mem _ hx)
theorem stored_keeps {xs : List (κ × Addr × Value)} {k j : κ} {a : Addr} {v : Value} (h : ∃ x ∈ xs, x.1 = j) : ∃ x ∈ storedH xs k a v, x.1 = j := by
  obtain ⟨x, hx, e⟩ := h
  unfold storedH
  split
  · refine ⟨putAt k v x, List.mem_map.mpr ⟨x, hx, rfl⟩, ?_⟩
    unfold putAt
    split <;> exact e
  · exact ⟨x, List.mem_append_left _ hx, e⟩
theorem stored_has {xs : List (κ × Addr × Value)} {k : κ} {a : Addr} {v : Value} : ∃ x ∈ storedH xs k a v, x.1 = k := by
  unfold storedH
  split
  · rename_i h
    unfold atKey at h
    rw [Option.isSome_map] at h
    obtain ⟨x, hx⟩ := Option.isSome_iff_exists.mp h
    have h1 := List.mem_of_find?_eq_some hx
    have h2 : x.1 = k := of_decide_eq_true (List.find?_some (p := fun x : κ × Addr × Value => decide (x.1 = k)) hx)
    refine ⟨putAt k v x, List.mem_map.mpr ⟨x, h1, rfl⟩, ?_⟩
    unfold putAt
    rw [if_pos h2]
    exact h2
  · exact ⟨_, List.mem_append_right _ (List.mem_singleton.mpr rfl), rfl⟩
theorem storedAll_keeps {j : κ} : ∀ {ps xs : List (κ × Addr × Value)}, (∃ x ∈ xs, x.1 = j) → ∃ x ∈ storedAllH xs ps, x.1 = j
  | [], _, h => h
  | p :: ps, xs, h => storedAll_keeps (ps := ps) (stored_keeps h)
theorem storedAll_has : ∀ {ps xs : List (κ × Addr × Value)} {p : κ × Addr × Value}, p ∈ ps → ∃ x ∈ storedAllH xs ps, x.1 = p.1
  | [], _, _, h => absurd h List.not_mem_nil
  | q :: ps, xs, p, h => by
    rcases List.mem_cons.mp h with z | z
    · rw [z]
      exact storedAll_keeps (ps := ps) stored_has
    · exact storedAll_has (ps := ps) z
end
/-- a key of ints -/
def kI (k : List Int) : List Key := k.map Sum.inl
theorem kI_V (k : List Int) : (kI k).map kV = k.map V.int := by
  unfold kI
  rw [List.map_map]
  rfl
theorem kI_inj {a b : List Int} (h : kI a = kI b) : a = b := by
  have e := congrArg (List.map kV) h
  rw [kI_V, kI_V] at e
  exact List.map_inj_right (fun x y z => V.int.inj z) |>.mp e
abbrev PR := Addr × Addr × List Int
section
variable {X : Cx} {pins : List (Addr × Obj)} {σ : L2.St} {H : Hp} {s : Shared}
theorem pr_vals (I : Inv X pins σ H s) : ∀ (ps : List PR), (∀ q ∈ ps, H q.1 = some (.tup [.ref q.2.1, .int 1])) → ∃ cs : List (PR × Value), cs.map (·.1) = ps ∧ ∀ c ∈ cs, (∃ tk, c.2 = Value.int 1 tk) ∧ IsTup s.heap c.1.1 #[.ref c.1.2.1, c.2]
  | [], _ => ⟨[], rfl, fun c hc => absurd hc List.not_mem_nil⟩
  | q :: ps, h => by
    obtain ⟨cs, e, hc⟩ := pr_vals I ps fun q hq => h q (List.mem_cons_of_mem _ hq)
    obtain ⟨its, rv, it, _⟩ := I.tuple (a := q.1) (xs := [.ref q.2.1, .int 1]) (.inl (.inl (h q List.mem_cons_self)))
    cases rv with
    | cons r1 rs =>
      cases rs with
      | cons r2 rs =>
        cases rs
        cases r1
        obtain ⟨tk, rfl⟩ := r2
        refine ⟨(q, Value.int 1 tk) :: cs, by rw [List.map_cons, e], fun c hm => ?_⟩
        rcases List.mem_cons.mp hm with z | z
        · rw [z]
          exact ⟨⟨tk, rfl⟩, it⟩
        · exact hc c z
/-- dict(xs), xs a list of pairs (tuple of ints, 1) -/
def rDictPT (K : PySem.W.Frag) : List V → Hp → VK → Prop := fun xs H Q => ∃ (a : Addr) (ps : List PR), xs = [.ref a] ∧ SqL K H a (ps.map fun q => V.ref q.1) ∧ (∀ q ∈ ps, H q.1 = some (.tup [.ref q.2.1, .int 1]) ∧ H q.2.1 = some (.tup (q.2.2.map V.int))) ∧ ps.length ≤ 60 ∧
  ∀ (d : Addr) (ks : List (List Int)), H d = none → ks.Nodup → (∀ k, k ∈ ks ↔ k ∈ ps.map (·.2.2)) → ks.length ≤ 60 → Q (.ref d) (upd H d (.dT (ks.map fun k => (kI k, V.int 1))))
theorem call_dictPT (hc : X.calm = true) (hu : X.A.units + 3 < cLine) : CallR X (.type "dict") (rDictPT X.K) := by
  intro pins s σ H xs us Q I r h
  obtain ⟨a, ps, rfl, hl, hk, hf, q⟩ := h
  obtain ⟨u, rfl, rx⟩ := r.one
  cases rx
  obtain ⟨its, rv, pl, hz⟩ := I.list hl
  obtain ⟨cs, ec, hcs⟩ := pr_vals I ps fun q hq => (hk q hq).1
  have eits : its = cs.map fun c => Value.ref c.1.1 := by
    have go : ∀ (l : List PR) (us : List Value), Vals (l.map fun q => V.ref q.1) us → us = l.map fun q => Value.ref q.1 := by
      intro l
      induction l with
      | nil =>
        intro us r
        cases r
        rfl
      | cons q l ih =>
        intro us r
        cases r with
        | cons r1 r2 =>
          cases r1
          rw [ih _ r2]
          rfl
    rw [go ps its rv, ← ec, List.map_map]
    rfl
  have hn : H s.heap.objs.size = none := I.hok.fresh (Nat.le_refl _)
  have inps : ∀ c ∈ cs, c.1 ∈ ps := fun c hc => by
    rw [← ec]
    exact List.mem_map.mpr ⟨c, hc, rfl⟩
  have keyOf : ∀ c ∈ cs, H c.1.2.1 = some (.tup ((kI c.1.2.2).map kV)) := fun c hc => by
    rw [kI_V]
    exact (hk _ (inps c hc)).2
  let psV : List (Value × Value) := cs.map fun c => (Value.ref c.1.2.1, c.2)
  let psK : List (List Key × Addr × Value) := cs.map fun c => (kI c.1.2.2, c.1.2.1, c.2)
  let Ts : Nat → Addr := fun j => ((cs[j]?).map (·.1.1)).getD 0
  have lV : psV.length = cs.length := List.length_map ..
  have lK : psK.length = cs.length := List.length_map ..
  have lc : cs.length = ps.length := by rw [← ec, List.length_map]
  have items : PairItems s.heap its.toArray Ts psV := by
    refine ⟨by rw [List.size_toArray, eits, List.length_map, lV], fun j k v hj => ?_⟩
    have hj' : (cs[j]?).map (fun c => (Value.ref c.1.2.1, c.2)) = some (k, v) := by rw [← List.getElem?_map]; exact hj
    obtain ⟨c, hcj, e⟩ := Option.map_eq_some_iff.mp hj'
    cases e
    have hm := List.mem_of_getElem? hcj
    have eT : Ts j = c.1.1 := by show ((cs[j]?).map (·.1.1)).getD 0 = _; rw [hcj]; rfl
    refine ⟨?_, ?_⟩
    · rw [List.getElem?_toArray, eits, List.getElem?_map, hcj, eT]
      rfl
    · rw [eT]
      obtain ⟨o, ho, hcl, n, hd⟩ := (hcs c hm).2
      exact .inl ⟨o, ho, hcl, n, hd⟩
  refine call_dict_pairsH (knd := tupleKind (mixKind X.prog X.w)) (ps := psK) (PairArg.list a its.toArray Ts psV) (I.ok.hd hc) (by show X.A.units + 2 < cLine; omega) ⟨pl, items⟩ ⟨by rw [lK, lV], fun i key v hr => ?_⟩ (fun h' hkp x hx => ?_) (by rw [lV, lc, sizeLine_eq]; omega) fun h' tk hD hkp => ?_
  · have hj' : (cs[i]?).map (fun c => (Value.ref c.1.2.1, c.2)) = some (key, v) := by rw [← List.getElem?_map]; exact hr
    obtain ⟨c, hcj, e⟩ := Option.map_eq_some_iff.mp hj'
    cases e
    refine ⟨kI c.1.2.2, c.1.2.1, ?_, rfl⟩
    show (cs.map _)[i]? = _
    rw [List.getElem?_map, hcj]
    rfl
  · obtain ⟨c, hm, rfl⟩ := List.mem_map.mp hx
    refine tupleKind_stays.stays (h := s.heap) (fun b o vs n hb _ => hkp b o (Nat.ne_of_lt (Heap.lt_size hb)) List.not_mem_nil hb) (key_of I.hok (keyOf c hm))
  · -- the keys, each once
    have kp : ∀ b u, s.heap.get? b = some u → h'.get? b = some u := fun b u e => hkp b u List.not_mem_nil e
    obtain ⟨o, es, ep, h1, h2, h3, h4, h5, h6⟩ := hD
    have keys : ∀ x ∈ storedAllH [] psK, ∃ c ∈ cs, x.1 = kI c.1.2.2 ∧ H x.2.1 = some (.tup (x.1.map kV)) :=
      storedAllH_keys (P := fun k b => ∃ c ∈ cs, k = kI c.1.2.2 ∧ H b = some (.tup (k.map kV))) (fun x hx => absurd hx List.not_mem_nil) fun x hx => by
        obtain ⟨c, hm, rfl⟩ := List.mem_map.mp hx
        exact ⟨c, hm, rfl, keyOf c hm⟩
    have vals : ∀ x ∈ storedAllH [] psK, ∃ tk, x.2.2 = Value.int 1 tk :=
      storedAll_val (R := fun v => ∃ tk, v = Value.int 1 tk) (fun x hx => absurd hx List.not_mem_nil) fun x hx => by
        obtain ⟨c, hm, rfl⟩ := List.mem_map.mp hx
        exact (hcs c hm).1
    have has : ∀ c ∈ cs, ∃ x ∈ storedAllH [] psK, x.1 = kI c.1.2.2 := fun c hm => storedAll_has (p := (kI c.1.2.2, c.1.2.1, c.2)) (List.mem_map.mpr ⟨c, hm, rfl⟩)
    have len := storedAllH_length psK []
    generalize storedAllH [] psK = xs at keys vals has len h4 h5 h6
    obtain ⟨ks, eks⟩ : ∃ ks : List (List Int), xs.map (·.1) = ks.map kI := by
      have go : ∀ l : List (List Key × Addr × Value), (∀ x ∈ l, ∃ k, x.1 = kI k) → ∃ ks : List (List Int), l.map (·.1) = ks.map kI := by
        intro l
        induction l with
        | nil => exact fun _ => ⟨[], rfl⟩
        | cons x l ih =>
          intro h
          obtain ⟨k, ek⟩ := h x List.mem_cons_self
          obtain ⟨ks, e⟩ := ih fun y hy => h y (List.mem_cons_of_mem _ hy)
          exact ⟨k :: ks, by rw [List.map_cons, List.map_cons, e, ek]⟩
      exact go xs fun x hx => by
        obtain ⟨c, _, e, _⟩ := keys x hx
        exact ⟨_, e⟩
    have nd : ks.Nodup := by
      rw [eks] at h6
      exact nodup_of_map h6
    have memks : ∀ k, k ∈ ks ↔ k ∈ ps.map (·.2.2) := fun k => by
      constructor
      · intro hk'
        have h7 : kI k ∈ xs.map (·.1) := by
          rw [eks]
          exact List.mem_map.mpr ⟨k, hk', rfl⟩
        obtain ⟨x, hx, ex⟩ := List.mem_map.mp h7
        obtain ⟨c, hm, e, _⟩ := keys x hx
        rw [ex] at e
        rw [kI_inj e]
        exact List.mem_map.mpr ⟨c.1, inps c hm, rfl⟩
      · intro hk'
        rw [← ec, List.map_map] at hk'
        obtain ⟨c, hm, rfl⟩ := List.mem_map.mp hk'
        obtain ⟨x, hx, ex⟩ := has c hm
        have h7 : kI c.1.2.2 ∈ ks.map kI := by
          rw [← eks, ← ex]
          exact List.mem_map.mpr ⟨x, hx, rfl⟩
        obtain ⟨k, hk2, ek⟩ := List.mem_map.mp h7
        rw [kI_inj ek] at hk2
        exact hk2
    have lks : ks.length = xs.length := by
      have e := congrArg List.length eks
      rw [List.length_map, List.length_map] at e
      exact e.symm
    have lxs : xs.length ≤ 60 := by
      rw [lK, lc] at len
      simp only [List.length_nil] at len
      omega
    refine ⟨.ref s.heap.objs.size, upd H s.heap.objs.size (.dT (ks.map fun k => (kI k, V.int 1))), I.laid (t' := tk) kp (Nat.le_refl _) ?_, rfl, q _ ks hn nd memks (by omega)⟩
    refine ⟨by rw [List.length_map, sizeLine_eq]; omega, beq_eq_false_iff_ne.mpr (Ne.symm (Nat.ne_of_lt I.big)), xs, ?_, o, es, ep, h1, h2, h3, h4, h6⟩
    have go : ∀ (l : List (List Key × Addr × Value)) (m : List (List Int)), l.map (·.1) = m.map kI → (∀ x ∈ l, H x.2.1 = some (.tup (x.1.map kV)) ∧ ∃ tk, x.2.2 = Value.int 1 tk) →
        Paired (fun (p : List Key × V) (q : List Key × Addr × Value) => p.1 = q.1 ∧ upd H s.heap.objs.size (.dT (ks.map fun k => (kI k, V.int 1))) q.2.1 = some (.tup (p.1.map kV)) ∧ RelV p.2 q.2.2) (m.map fun k => (kI k, V.int 1)) l := by
      intro l
      induction l with
      | nil =>
        intro m e _
        cases m with
        | nil => exact .nil
        | cons k m => cases e
      | cons x l ih =>
        intro m e h
        cases m with
        | nil => cases e
        | cons k m =>
          rw [List.map_cons, List.map_cons, List.cons.injEq] at e
          obtain ⟨g1, tk', g2⟩ := h x List.mem_cons_self
          refine .cons ⟨e.1.symm, ?_, tk', g2⟩ (ih m e.2 fun y hy => h y (List.mem_cons_of_mem _ hy))
          rw [upd_ne (ne_of_none g1 hn), g1, e.1]
    exact go xs ks eks fun x hx => by
      obtain ⟨_, _, _, g⟩ := keys x hx
      exact ⟨g, vals x hx⟩
end
end K1
set_option maxHeartbeats 4000000
namespace K1
open PySem L2 PySem.Spec PyProof.Rows
/-- sorted(d), d a dict whose keys are pairs of ints -/
def rSortDT : List V → Hp → VK → Prop := fun xs H Q => ∃ (d : Addr) (ks : List (List Int)), xs = [.ref d] ∧ H d = some (.dT (ks.map fun k => (kI k, V.int 1))) ∧ ks.length ≤ 60 ∧ (∀ k ∈ ks, k.length = 2 ∧ TS.Bd 1000 k) ∧
  ∀ (L : List (Addr × List Int)) (p : Addr), (L.map (·.2)).Perm ks → L.Pairwise (fun q r => TS.code 1000 q.2 ≤ TS.code 1000 r.2) → (∀ q ∈ L, H q.1 = some (.tup (q.2.map V.int))) → H p = none → Q (.ref p) (upd H p (.lst (L.map fun q => V.ref q.1)))
section
variable {X : Cx}
theorem call_sortDT (hc : X.calm = true) : CallR X (.builtin "sorted") rSortDT := by
  intro pins s σ H xs us Q I r h
  obtain ⟨d, ks, rfl, hd, hf, hB, q⟩ := h
  obtain ⟨u, rfl, rx⟩ := r.one
  cases rx
  obtain ⟨z, hs, ms, pr, o, es, ep, ho, hx, hdt, he, hn⟩ := (show ObjOk X.prog X.w H s.heap d (.dT (ks.map fun k => (kI k, V.int 1))) from I.hok d _ hd)
  have l1 : es.size = ms.length := size_of_entries he
  have l2 : (ks.map fun k => (kI k, V.int 1)).length = ms.length := Paired.length pr
  rw [List.length_map] at l2
  -- addresses with their keys
  obtain ⟨L, e1, e2, hL⟩ : ∃ L : List (Addr × List Int), L.map (·.1) = ms.map (·.2.1) ∧ L.map (·.2) = ks ∧ ∀ q ∈ L, H q.1 = some (.tup (q.2.map V.int)) := by
    have go : ∀ (ks : List (List Int)) (ms : List (List Key × Addr × Value)), Paired (fun (p : List Key × V) (q : List Key × Addr × Value) => p.1 = q.1 ∧ H q.2.1 = some (.tup (p.1.map kV)) ∧ RelV p.2 q.2.2) (ks.map fun k => (kI k, V.int 1)) ms →
        ∃ L : List (Addr × List Int), L.map (·.1) = ms.map (·.2.1) ∧ L.map (·.2) = ks ∧ ∀ q ∈ L, H q.1 = some (.tup (q.2.map V.int)) := by
      intro ks
      induction ks with
      | nil =>
        intro ms h
        cases h
        exact ⟨[], rfl, rfl, fun q hq => absurd hq List.not_mem_nil⟩
      | cons k ks ih =>
        intro ms h
        cases h with
        | @cons _ m _ ms' h1 h2 =>
          obtain ⟨L, a1, a2, a3⟩ := ih ms' h2
          refine ⟨(m.2.1, k) :: L, by rw [List.map_cons, List.map_cons, a1], by rw [List.map_cons, a2], fun q hq => ?_⟩
          rcases List.mem_cons.mp hq with z | z
          · rw [z]
            have g := h1.2.1
            rw [show ((kI k, V.int 1) : List Key × V).1 = kI k from rfl, kI_V] at g
            exact g
          · exact a3 q z
    exact go ks ms pr
  have lL : L.length = ks.length := by rw [← e2, List.length_map]
  refine Calls.call_function_entry PyProof.Rows.kind_sorted PyProof.Rows.plain_sorted PyProof.Rows.entry_sorted (PyProof.Rows.args_sorted1 _) ?_
  unfold Builtin.«sorted»
  refine wpAny_bind (m := checkCount "sorted" 1 1 _) (wpAny_pure ?_)
  refine wpAny_bind (PySem.W.kdu_collect (A := X.A.in1) (kdl_raw hs hx hdt) (I.ok.hd hc) ho (by rw [l1, ← l2, sizeLine_eq]; omega) fun h' tk acc hk it => ?_)
  have ea : acc.toList = L.map fun q => Value.ref q.1 := by
    have e3 : (L.map fun q => Value.ref q.1) = ms.map fun x => Value.ref x.2.1 := by
      have e4 := congrArg (List.map Value.ref) e1
      rw [List.map_map, List.map_map] at e4
      exact e4
    rw [e3]
    have hl : acc.toList.length = ms.length := by rw [Array.length_toList, it.1]; exact l1
    apply List.ext_getElem?
    intro j
    rw [List.getElem?_map]
    cases hj : acc.toList[j]? with
    | none =>
      have h1 := List.getElem?_eq_none_iff.mp hj
      rw [List.getElem?_eq_none (by omega)]
      all_goals rfl
    | some v =>
      obtain ⟨en, hen, hv⟩ := it.2 j v (by rw [← Array.getElem?_toList]; exact hj)
      have qe := entry_at he j
      rw [hen] at qe
      cases hb : ms[j]? with
      | none =>
        rw [hb] at qe
        exact nomatch (show some en = none from qe)
      | some b =>
        rw [hb] at qe
        have e2 : en = entryOfKey (tupleKind (mixKind X.prog X.w)) b := Option.some.inj qe
        rw [hv, e2]
        all_goals rfl
  have hal : acc.toList.length = L.length := by rw [ea, List.length_map]
  have hvl : acc.toList.length < 64 := by omega
  have I1 : Inv X pins σ H { s with heap := h', toks := tk } := I.kept hk
  refine wpAny_bind (wpAny_newList ?_ (by rw [sizeLine_eq]; omega))
  have hoL : (h'.push (seqObj "list" acc.toList.toArray 0)).get? h'.objs.size = some (seqObj "list" acc.toList.toArray 0) := Heap.get?_push_size _ rfl
  show wpAny _ _ _ _ _ { s with heap := h'.push (seqObj "list" acc.toList.toArray 0), toks := tk }
  have tup : ∀ q ∈ L, TS.TupInts (h'.push (seqObj "list" acc.toList.toArray 0)) (.ref q.1) q.2 := fun q hq => by
    obtain ⟨its, rv, p, _⟩ := I1.tuple (a := q.1) (xs := q.2.map V.int) (.inl (.inl (hL q hq)))
    obtain ⟨ob, hob, rest⟩ := p
    exact ⟨q.1, its.toArray, rfl, ⟨ob, Heap.get?_push_of_some _ hob, rest⟩, by simpa using rv.ints⟩
  have inks : ∀ q ∈ L, q.2 ∈ ks := fun q hq => by
    rw [← e2]
    exact List.mem_map.mpr ⟨q, hq, rfl⟩
  have x : TS.TupsOk (h'.push (seqObj "list" acc.toList.toArray 0)) 2 1000 acc.toList := fun v hv => by
    rw [ea] at hv
    obtain ⟨q, hq, rfl⟩ := List.mem_map.mp hv
    exact ⟨q.2, tup q hq, hB _ (inks q hq)⟩
  refine wpAny_bind (wpAny_holding (TS.call_sort_tups (s := { s with heap := h'.push (seqObj "list" acc.toList.toArray 0), toks := tk }) hoL hvl (by decide) x fun out a1 a2 => ?_))
  obtain ⟨c, hc'⟩ := PyProof.Rows.sortedHeap_at (vs := acc.toList) (out := out) hoL
  rw [ea] at a1
  obtain ⟨L', e5, pL⟩ := perm_map_inv (f := fun q : Addr × List Int => Value.ref q.1) a1.symm (L := L) rfl
  have inL : ∀ q ∈ L', q ∈ L := fun q hq => pL.mem_iff.mp hq
  have pw : L'.Pairwise (fun q r => TS.code 1000 q.2 ≤ TS.code 1000 r.2) := by
    rw [e5] at a2
    refine List.Pairwise.imp_of_mem (fun {q r} hq hr hle => ?_) (List.pairwise_map.mp a2)
    have f1 : TS.intsOf (h'.push (seqObj "list" acc.toList.toArray 0)) (.ref q.1) = q.2 := (tup q (inL q hq)).ints
    have f2 : TS.intsOf (h'.push (seqObj "list" acc.toList.toArray 0)) (.ref r.1) = r.2 := (tup r (inL r hr)).ints
    rw [← f1, ← f2]
    exact hle
  have hn' : H h'.objs.size = none := I1.hok.fresh (Nat.le_refl _)
  have hlen : (L'.map fun q => V.ref q.1).length ≤ sizeLine := by rw [List.length_map, pL.length_eq, lL, sizeLine_eq]; omega
  have hv : Vals (L'.map fun q => V.ref q.1) out.toList := by rw [e5]; exact vals_of_refs L'
  refine wpAny_pure ⟨_, rfl, .ref h'.objs.size, upd H h'.objs.size (.lst (L'.map fun q => V.ref q.1)), I1.laid (t' := tk) (fun b u e => ?_) (Nat.le_refl _) ⟨hlen, out.toList, c, hv, hc'⟩, rfl, q L' _ (by rw [← e2]; exact pL.map _) pw (fun q hq => hL q (inL q hq)) hn'⟩
  have hlt := Heap.lt_size e
  show (sortedHeap (h'.push (seqObj "list" acc.toList.toArray 0)) h'.objs.size acc.toList out).get? b = some u
  rw [PyProof.Rows.sortedHeap_old (Nat.ne_of_lt hlt) (by rw [size_push']; exact Nat.lt_succ_of_lt hlt)]
  exact Heap.get?_push_of_some _ e
end
end K1
set_option maxHeartbeats 4000000
namespace K1
open PySem L2
def spLStamps (K : PySem.W.Frag) : Sp := fun vs H Q _ => ∃ (a : Addr) (us : List V) (ks : List (List Int)), vs = [.ref a] ∧ SqL K H a us ∧ DQs K H us (ks.map pairD) ∧ (∀ k ∈ ks, ∃ x y : Int, k = [x, y] ∧ (0 ≤ x ∧ x < 1000) ∧ 0 ≤ y ∧ y < 1000) ∧ ks.length ≤ 60 ∧
  ∀ (p : Addr) (us' : List V) (ks' : List (List Int)) (H' : Hp), Same H H' → H' p = some (.lst us') → DQs K H' us' (ks'.map pairD) → ks'.Pairwise lt1000 → (∀ k, k ∈ ks' ↔ k ∈ ks) → Q (.ref p) H'
def spLNames (K : PySem.W.Frag) : Sp := fun vs H Q _ => ∃ v d, vs = [v] ∧ DQ K H v d ∧ deedD d = true ∧
  ∀ (p : Addr) (us' : List V) (ks' : List (List Int)) (H' : Hp), Same H H' → H' p = some (.lst us') → DQs K H' us' (ks'.map pairD) → ks'.Pairwise lt1000 → (∀ k, k ∈ ks' ↔ k ∈ keysOf (namedOf d)) → Q (.ref p) H'
/-- a comprehension of the stamps among things -/
theorem lc_pairs {K : PySem.W.Frag} {q : Addr} {us : List V} {es : List PyData} {j : Nat} {σ : St} {H1 : Hp} {D : Addr} {Qd : Hp → Prop} (nD : H1 D = none) (hq : SqL K H1 q us) (he : DQs K H1 us es) (hp : ∀ e ∈ es, noneOrPair e) (few : es.length ≤ 2) (hw : ∀ x, wipe ((wipe σ [j]).set j (some x)) [j] = wipe σ [j])
    (hget : ∀ u, ((wipe σ [j]).set j (some u))[j]? = some (some u)) (hd : ∀ H' acc, Same H1 H' → H' D = some (.lst acc) → DQs K H' acc ((keysOf es).map pairD) → Qd H') :
    ∃ W : Nat → Nat → Hp → Prop, (∃ m, W 0 m (upd H1 D (.lst []))) ∧ ∀ i m H, W i m H →
      ((Itl K q).stop i H ∧ Qd H) ∨ ((Itl K q).go i H ∧ ∃ Nx : Hp → Prop, (∀ H', Nx H' → ∃ m', m' < m ∧ W (i + 1) m' H') ∧ ∀ x H', (Itl K q).yld i H x H' → (gName j) x (wipe σ [j]) H' fun σ2 H2 => wipe σ2 [j] = wipe σ [j] ∧ (tAnd (tTest (tOp rNotN (tVar j) (tC .non))) (tTest (tOp (rNeD K) (tVar j) (tTup (tCons (tC (.int 0)) (tCons (tC (.int 0)) tNil)))))) σ2 H2 fun b H3 =>
        if b = true then (tVar j) σ2 H3 fun y H4 => ∃ acc, H4 D = some (.lst acc) ∧ acc.length < sizeLine ∧ Nx (upd H4 D (.lst (acc ++ [y]))) else Nx H3) := by
  have L := he.len
  refine lc_list (K := K) (a := q) (xs := us) (fun i H' => Same H1 H' ∧ ∃ acc, H' D = some (.lst acc) ∧ acc.length ≤ i ∧ DQs K H1 acc ((keysOf (es.take i)).map pairD)) ⟨K0.same_upd nD, [], upd_same, Nat.le_refl _, .nil⟩
    (fun i H' _ ⟨s, _⟩ => s.seq hq) ?_ (fun H' ⟨s, acc, h1, _, h2⟩ => hd H' acc s h1 (by rw [L, List.take_length] at h2; exact h2.to s))
  rintro i u H' hu ⟨s, acc, hl, hn, hacc⟩
  refine ⟨hw u, ?_⟩
  obtain ⟨d, hd', hdq⟩ := he.at hu
  have hi := (List.getElem?_eq_some_iff.mp hu).1
  have tk : es.take (i + 1) = es.take i ++ [d] := by
    rw [List.take_succ, hd']
    rfl
  have no : keyOf d = none → keysOf (es.take (i + 1)) = keysOf (es.take i) := fun z => by
    rw [tk]
    unfold keysOf
    rw [List.filterMap_append, List.filterMap_cons_none z, List.filterMap_nil, List.append_nil]
  rcases hp d (List.mem_of_getElem? hd') with rfl | ⟨a, b, rfl, ha, hb⟩
  · cases hdq
    refine ⟨_, hget _, rfl, _, rfl, iteF (iteF ⟨s, acc, hl, Nat.le_succ_of_le hn, ?_⟩)⟩
    rw [no rfl]
    exact hacc
  · obtain ⟨r, rfl, hsqt⟩ := hdq.pair
    refine ⟨_, hget _, rfl, _, rfl, iteT ⟨_, hget _, (by show 2 ≤ sizeLine; rw [sizeLine_eq]; decide), fun t nt => ⟨.tuple [.int a, .int b], .tuple [.int 0, .int 0], .tup (K0.seqT_same (s.trans (K0.same_upd nt)) hsqt) (.cons (.int a) (.cons (.int b) .nil)), .tup (.inl (.inl upd_same)) (.cons (.int 0) (.cons (.int 0) .nil)), shaped_pair a b, shaped_pair 0 0, _, rfl, ?_⟩⟩⟩
    rw [eqv_root]
    have s2 := s.trans (K0.same_upd (o := .tup [.int 0, .int 0]) nt)
    have hl2 : upd H' t (.tup [.int 0, .int 0]) D = some (.lst acc) := (upd_ne (ne_of_none hl nt)).trans hl
    by_cases c : a = 0 ∧ b = 0
    · rw [decide_eq_true c]
      refine iteF ⟨s2, acc, hl2, Nat.le_succ_of_le hn, ?_⟩
      rw [no (by show (if a = 0 ∧ b = 0 then none else some [a, b]) = none; rw [if_pos c])]
      exact hacc
    · rw [decide_eq_false c]
      have hk : keyOf (.tuple [.int a, .int b]) = some [a, b] := by
        show (if a = 0 ∧ b = 0 then none else some [a, b]) = some [a, b]
        rw [if_neg c]
      refine iteT ⟨_, hget _, acc, hl2, by rw [sizeLine_eq]; omega, K0.same_over s2 nD, _, upd_same, by rw [List.length_append]; show acc.length + 1 ≤ i + 1; omega, ?_⟩
      rw [tk]
      unfold keysOf
      rw [List.filterMap_append, List.filterMap_cons_some hk, List.filterMap_nil, List.map_append]
      exact hacc.app (.cons (.tup hsqt (.cons (.int a) (.cons (.int b) .nil))) .nil)
section
variable {P : Program} {w : World} {K : PySem.W.Frag} {mg : Str → Option Value} {base : Heap}
theorem sc_lstamps : FnScope ["_law_some", "_law_one_here"] ["_law_some"] (defScope (top 52)) := ⟨rfl, rfl, rfl, by decide +kernel, rfl, by decide +kernel, by decide +kernel⟩
theorem cl_lstamps (T : All K mg) (M : Nms mg) (M2 : Nms2 mg) : Cl P w K mg base 1 "_law_stamps" ["_law_some"] (spLStamps K) := by
  obtain ⟨g, fd, D⟩ := T.dn 52 _ _ rfl
  refine D.cl (D.fn.ok sc_lstamps (fun vs H Q E h => ?_) (fun cdv A outer s H vs Q E hr h => ?_))
  · obtain ⟨a, us, ks, rfl, _⟩ := h
    rfl
  · obtain ⟨a, us, ks, rfl, ha, hus, hks, few, k⟩ := h
    refine ⟨_, (pss_one (ps_ret (pe_callB (call_sortDT rfl) (by rfl) M2.sorted (by decide +kernel) (pa_cons (pe_callTy (call_dictPT rfl (by have := hr.units; show A.units + 3 + 3 < cLine; have h2 : (A.deeper (PyProof.Rows.envOfC "_law_stamps" (defScope (top 52)) s.heap.objs.size g cdv)).units = A.units + 3 := rfl; omega)) (by rfl) M2.dict (by decide +kernel) (pa_cons (pe_lc (own := [("_law_one_here", 1)]) (g := gName 1) (tt := tYes) (te := tTup (tCons (tTup (tCons (tCB rI1 (tCons (tOp (rIxT K) (tVar 1) (tC (.int 0))) tNil)) (tCons (tCB rI1 (tCons (tOp (rIxT K) (tVar 1) (tC (.int 1))) tNil)) tNil))) (tCons (tC (.int 1)) tNil))) rfl sc_lstamps.nd (pi_list (pv 0)) (blkOk_by (own := [("_law_one_here", 1)]) (N := [("_law_some" : Str), ("_law_one_here" : Str)]) (sc := defScope (top 52)) (by decide +kernel)) (fun _ _ _ _ _ => pg_name (i := 1) sc_lstamps.nd rfl (Or.inl rfl)) (fun _ _ _ _ _ => pts_nil) (fun _ _ _ _ _ => (pe_tup (pa_cons (pe_tup (pa_cons (pe_callTy call_int1 (by rfl) M.int (by decide +kernel) (pa_cons (pe_ix ix_tup (pv 1) pe_int (fun _ _ => rfl)) pa_nil)) (pa_cons (pe_callTy call_int1 (by rfl) M.int (by decide +kernel) (pa_cons (pe_ix ix_tup (pv 1) pe_int (fun _ _ => rfl)) pa_nil)) pa_nil))) (pa_cons pe_int pa_nil))))) pa_nil)) pa_nil)))), ?_⟩
    have L := hus.len
    rw [List.length_map] at L
    refine ⟨_, rfl, a, rfl, ⟨us, ha⟩, fun D1 n1 => ?_⟩
    refine lc_list (K := K) (a := a) (xs := us) (fun i H' => Same H H' ∧ ∃ ps : List PR, H' D1 = some (.lst (ps.map fun q => V.ref q.1)) ∧ (∀ q ∈ ps, H' q.1 = some (.tup [.ref q.2.1, .int 1]) ∧ H' q.2.1 = some (.tup (q.2.2.map V.int))) ∧ ps.length = i ∧ ps.map (·.2.2) = ks.take i) ⟨K0.same_upd n1, [], upd_same, fun q hq => absurd hq List.not_mem_nil, rfl, rfl⟩
      (fun i H' _ ⟨s, _⟩ => s.seq ha) ?_ ?_
    · rintro i u H' hu ⟨s, ps, hl, hps, hlen, htk⟩
      refine ⟨rfl, ?_⟩
      unfold tYes
      dsimp only
      rw [if_pos rfl]
      obtain ⟨d, hd, hdq⟩ := hus.at hu
      have hi := (List.getElem?_eq_some_iff.mp hu).1
      rw [List.getElem?_map] at hd
      obtain ⟨k0, hk0, rfl⟩ := Option.map_eq_some_iff.mp hd
      obtain ⟨x, y, rfl, hx, hy⟩ := hks k0 (List.mem_of_getElem? hk0)
      obtain ⟨r, rfl, hsq⟩ := DQ.pair (a := x) (b := y) hdq
      have hsq' := K0.seqT_same s hsq
      refine ⟨_, rfl, r, _, _, _, rfl, rfl, hsq', atI_nat (j := 0) rfl, .inl ⟨_, rfl, _, rfl, r, _, _, _, rfl, rfl, hsq', atI_nat (j := 1) rfl, .inl ⟨_, rfl, (by show 2 ≤ sizeLine; rw [sizeLine_eq]; decide), fun t nt => ⟨(by show 2 ≤ sizeLine; rw [sizeLine_eq]; decide), fun q nq => ?_⟩⟩⟩⟩
      have h1 : upd H' t (.tup [.int x, .int y]) D1 = some (.lst (ps.map fun q => V.ref q.1)) := (upd_ne (ne_of_none hl nt)).trans hl
      have s1 := s.trans (K0.same_upd (o := .tup [.int x, .int y]) nt)
      have p1 : ∀ q ∈ ps, upd H' t (.tup [.int x, .int y]) q.1 = some (.tup [.ref q.2.1, .int 1]) ∧ upd H' t (.tup [.int x, .int y]) q.2.1 = some (.tup (q.2.2.map V.int)) := fun q hq => ⟨(upd_ne (ne_of_none (hps q hq).1 nt)).trans (hps q hq).1, (upd_ne (ne_of_none (hps q hq).2 nt)).trans (hps q hq).2⟩
      have f1 := @upd_same H' t (.tup [.int x, .int y])
      generalize upd H' t (.tup [.int x, .int y]) = H2 at h1 s1 p1 f1 nq ⊢
      have h2 : upd H2 q (.tup [.ref t, .int 1]) D1 = some (.lst (ps.map fun q => V.ref q.1)) := (upd_ne (ne_of_none h1 nq)).trans h1
      have s2 := s1.trans (K0.same_upd (o := .tup [.ref t, .int 1]) nq)
      have p2 : ∀ z ∈ ps, upd H2 q (.tup [.ref t, .int 1]) z.1 = some (.tup [.ref z.2.1, .int 1]) ∧ upd H2 q (.tup [.ref t, .int 1]) z.2.1 = some (.tup (z.2.2.map V.int)) := fun z hz => ⟨(upd_ne (ne_of_none (p1 z hz).1 nq)).trans (p1 z hz).1, (upd_ne (ne_of_none (p1 z hz).2 nq)).trans (p1 z hz).2⟩
      have f2 : upd H2 q (.tup [.ref t, .int 1]) t = some (.tup [.int x, .int y]) := (upd_ne (ne_of_none f1 nq)).trans f1
      have g2 := @upd_same H2 q (.tup [.ref t, .int 1])
      generalize upd H2 q (.tup [.ref t, .int 1]) = H3 at h2 s2 p2 f2 g2 ⊢
      have over : ∀ {b : Addr} {xs : List V}, H3 b = some (.tup xs) → upd H3 D1 (.lst ((ps.map fun q => V.ref q.1) ++ [.ref q])) b = some (.tup xs) := fun {b xs} e => (upd_ne (ne_of e h2 (by intro z; cases z))).trans e
      refine ⟨_, h2, by rw [List.length_map, sizeLine_eq]; omega, K0.same_over s2 n1, ps ++ [(q, t, [x, y])], by rw [List.map_append]; exact upd_same, fun z hz => ?_, by rw [List.length_append, hlen]; rfl, ?_⟩
      · rcases List.mem_append.mp hz with e | e
        · exact ⟨over (p2 z e).1, over (p2 z e).2⟩
        · rw [List.mem_singleton.mp e]
          exact ⟨over g2, over f2⟩
      · rw [List.map_append, htk, List.take_succ, hk0]
        rfl
    · rintro H' ⟨s, ps, hl, hps, hlen, htk⟩
      rw [L, List.take_length] at htk
      refine ⟨D1, ps, rfl, SqL.of hl, hps, by rw [hlen, L]; exact few, fun d ks0 nd nd0 mem0 few0 => ?_⟩
      have sD := K0.same_upd (o := .dT (ks0.map fun k => (kI k, V.int 1))) nd
      have inks : ∀ k ∈ ks0, ∃ x y : Int, k = [x, y] ∧ (0 ≤ x ∧ x < 1000) ∧ 0 ≤ y ∧ y < 1000 := fun k0 hk0 => hks k0 (by rw [← htk]; exact (mem0 k0).mp hk0)
      refine ⟨d, ks0, rfl, upd_same, few0, fun k0 hk0 => ?_, fun Ls p pm pw hLs np => ?_⟩
      · obtain ⟨x, y, rfl, hx, hy⟩ := inks k0 hk0
        refine ⟨rfl, fun m hm => ?_⟩
        rcases List.mem_cons.mp hm with z | z
        · rw [z]
          exact hx
        · rw [List.mem_singleton.mp z]
          exact hy
      · have sP := K0.same_upd (o := .lst (Ls.map fun q => V.ref q.1)) np
        refine k p _ (Ls.map (·.2)) _ ((s.trans sD).trans sP) upd_same ?_ ?_ fun z => ?_
        · have all : ∀ M : List (Addr × List Int), (∀ q ∈ M, q ∈ Ls) → DQs K (upd (upd H' d (.dT (ks0.map fun k => (kI k, V.int 1)))) p (.lst (Ls.map fun q => V.ref q.1))) (M.map fun q => V.ref q.1) ((M.map (·.2)).map pairD) := by
            intro M
            induction M with
            | nil => exact fun _ => .nil
            | cons q M ih =>
              intro hM
              have hq := hM q List.mem_cons_self
              obtain ⟨a', b', e, _⟩ := inks q.2 (pm.mem_iff.mp (List.mem_map.mpr ⟨q, hq, rfl⟩))
              have hs := hLs q hq
              rw [e] at hs
              refine .cons ?_ (ih fun q' h' => hM q' (List.mem_cons_of_mem _ h'))
              show DQ K _ (V.ref q.1) (pairD q.2)
              rw [e]
              exact .tup (.inl (.inl (sP _ _ hs))) (.cons (.int a') (.cons (.int b') .nil))
          exact all Ls fun q hq => hq
        · rw [List.pairwise_map]
          have nd' : (Ls.map (·.2)).Nodup := pm.nodup_iff.mpr nd0
          refine (pw.and (List.pairwise_map.mp nd')).imp_of_mem fun {q r} hq' hr' h => ?_
          obtain ⟨a, b, e, h1, h2⟩ := inks q.2 (pm.mem_iff.mp (List.mem_map.mpr ⟨q, hq', rfl⟩))
          obtain ⟨a', b', e', h1', h2'⟩ := inks r.2 (pm.mem_iff.mp (List.mem_map.mpr ⟨r, hr', rfl⟩))
          obtain ⟨le, ne⟩ := h
          show TS.code 1000 q.2 < TS.code 1000 r.2
          rw [e, e', code2, code2] at le ⊢
          rw [e, e'] at ne
          have h3 : a * 1000 + b ≠ a' * 1000 + b' := fun z => ne (by
            have ea : a = a' := by omega
            have eb : b = b' := by omega
            rw [ea, eb])
          omega
        · rw [pm.mem_iff, mem0, htk]
end
end K1
set_option maxHeartbeats 4000000
namespace K1
open PySem L2
theorem keys_bd {es : List PyData} (h : ∀ e ∈ es, noneOrPair e) : ∀ k ∈ keysOf es, ∃ x y : Int, k = [x, y] ∧ (0 ≤ x ∧ x < 1000) ∧ 0 ≤ y ∧ y < 1000 := fun k hk => by
  obtain ⟨d, hd1, hd2⟩ := List.mem_filterMap.mp hk
  obtain ⟨a, b, _, e, h1, h2, _⟩ := key_pair (h d hd1) hd2
  exact ⟨a, b, e, h1, h2⟩
section
variable {P : Program} {w : World} {K : PySem.W.Frag} {mg : Str → Option Value} {base : Heap}
theorem sc_lnames : FnScope ["_law_deed", "_law_body_here", "_law_some", "_law_one_here"] ["_law_deed"] (defScope (top 71)) := ⟨rfl, rfl, rfl, by decide +kernel, rfl, by decide +kernel, by decide +kernel⟩
theorem cl_lnames (T : All K mg) (M : Nms mg) (M2 : Nms2 mg) : Cl P w K mg base 2 "_law_names" ["_law_deed"] (spLNames K) := by
  obtain ⟨g, fd, D⟩ := T.dn 71 _ _ rfl
  refine D.cl (D.fn.ok sc_lnames (fun vs H Q E h => ?_) (fun cdv A outer s H vs Q E hr h => ?_))
  · obtain ⟨v, d, rfl, _⟩ := h
    rfl
  · obtain ⟨v, d, rfl, hd, hr', k⟩ := h
    refine ⟨_, (pss_cons (ps_set (i := 1) sc_lnames.nd rfl (Or.inl rfl) (pe_ix ix_tup (pv 0) pe_int (fun _ _ => rfl)))
      (pss_cons (ps_set (i := 2) sc_lnames.nd rfl (Or.inl rfl) (pe_ifExp (pt_cmpR op_ne (pe_ix ix_tup (pv 1) pe_int (fun _ _ => rfl)) pe_str (nomark _)) (pe_lst (pa_cons (pe_ix ix_tup (pv 1) pe_int (fun _ _ => rfl)) pa_nil)) (pe_lst (pa_cons (pe_ix ix_tup (pv 1) pe_int (fun _ _ => rfl)) (pa_cons (pe_ifExp (pt_cmpR op_eq (pe_ix ix_tup (pv 1) pe_int (fun _ _ => rfl)) pe_str (nomark _)) (pe_ix ix_tup (pv 1) pe_int (fun _ _ => rfl)) pe_non) pa_nil)))))
      (pss_cons (ps_if (pt_cmpR op_in_seq (pe_ix ix_tup (pv 1) pe_int (fun _ _ => rfl)) (pe_lst (pa_cons pe_str (pa_cons pe_str pa_nil))) rfl) (pss_one (ps_set (i := 2) sc_lnames.nd rfl (Or.inl rfl) (pe_lst (pa_cons (pe_ix ix_tup (pv 1) pe_int (fun _ _ => rfl)) (pa_cons (pe_ix ix_tup (pv 1) pe_int (fun _ _ => rfl)) pa_nil))))) pss_nil)
      (pss_one (ps_ret (pe_cl (cl_lstamps T M M2) hr (by decide) (pa_cons (pe_lc (own := [("_law_one_here", 3)]) (g := gName 3) (tt := tAnd (tTest (tOp rNotN (tVar 3) (tC .non))) (tTest (tOp (rNeD K) (tVar 3) (tTup (tCons (tC (.int 0)) (tCons (tC (.int 0)) tNil)))))) (te := tVar 3) rfl sc_lnames.nd (pi_list (pv 2)) (blkOk_by (own := [("_law_one_here", 3)]) (N := [("_law_deed" : Str), ("_law_body_here" : Str), ("_law_some" : Str), ("_law_one_here" : Str)]) (sc := defScope (top 71)) (by decide +kernel)) (fun _ _ _ _ _ => pg_name (i := 3) sc_lnames.nd rfl (Or.inl rfl)) (fun _ _ _ _ _ => pts_one (PW.pt (pw_and (pt_cmpR op_notN1 (pv 3) pe_non (nomark _)) (pw_and1 (pt_cmpR (op_neD hr.units) (pv 3) (pe_tup (pa_cons pe_int (pa_cons pe_int pa_nil))) (nomark _)))))) (fun _ _ _ _ _ => pv 3)) pa_nil))))))), ?_⟩
    obtain ⟨t, j, a, b, c, e, x, r, rfl, _, _, _, hb⟩ := deed_shape hr'
    have np := named_pairs hb
    obtain ⟨pa, xs, ub, rfl, ht, i2, qb⟩ := hd.item (i := 2) rfl
    refine ⟨_, rfl, pa, xs, _, _, rfl, rfl, ht, i2, ?_⟩
    obtain ⟨pb, ys, u0, rfl, hy, j0, q0⟩ := qb.item (i := 0) rfl
    cases q0
    refine ⟨_, rfl, pb, ys, _, _, rfl, rfl, hy, j0, rfl, _, rfl, ?_⟩
    rw [dec_str]
    by_cases c1 : x = "make"
    · rw [decide_eq_true c1]
      subst c1
      obtain ⟨y, tu, ky, cc, rfl, _⟩ := make_kind hb
      obtain ⟨pb', ys1, u1, e1, hy1, j1, q1⟩ := qb.item (i := 1) rfl
      cases e1
      cases q1
      obtain ⟨pb', ys2, u2, e2, hy2, j2, q2⟩ := qb.item (i := 2) rfl
      cases e2
      obtain ⟨pb', ys4, u4, e4, hy4, j4, q4⟩ := qb.item (i := 4) rfl
      cases e4
      refine iteF ⟨_, rfl, pb, ys2, _, _, rfl, rfl, hy2, j2, _, rfl, pb, ys1, _, _, rfl, rfl, hy1, j1, rfl, _, rfl, ?_⟩
      rw [dec_str]
      have eN : namedOf (.tuple [.tuple [.int t, .int j], .tuple [a, b, c, e], .tuple (.str "make" :: [.str y, tu, ky, cc])]) = if isUse (.str y) = true then [tu, cc] else [tu] := rfl
      by_cases c2 : y = "use"
      · rw [decide_eq_true c2]
        have iu : isUse (.str y) = true := decide_eq_true c2
        rw [iu, if_pos rfl] at eN
        have np' : ∀ e ∈ [tu, cc], noneOrPair e := fun e he => np e (by
          have z : namedD "make" [.str y, tu, ky, cc] = if isUse (.str y) = true then [tu, cc] else [tu] := rfl
          rw [z, iu, if_pos rfl]
          exact he)
        refine iteT ⟨_, rfl, pb, ys4, _, _, rfl, rfl, hy4, j4, (by show 2 ≤ sizeLine; rw [sizeLine_eq]; decide), fun q5 n5 => ?_⟩
        have S5 := K0.same_upd (o := .lst [u2, u4]) n5
        have f5 := @upd_same H q5 (.lst [u2, u4])
        generalize upd H q5 (.lst [u2, u4]) = H5 at S5 f5 ⊢
        refine ⟨_, rfl, pb, ys, _, _, rfl, rfl, K0.seqT_same S5 hy, j0, (by show 2 ≤ sizeLine; rw [sizeLine_eq]; decide), fun q6 n6 => ⟨q6, _, rfl, .inl (SqL.of upd_same), rfl, rfl, _, rfl, ?_⟩⟩
        have S6 := S5.trans (K0.same_upd (o := .lst [.str "move", .str "point"]) n6)
        have f6 : upd H5 q6 (.lst [.str "move", .str "point"]) q5 = some (.lst [u2, u4]) := (upd_ne (ne_of_none f5 n6)).trans f5
        generalize upd H5 q6 (.lst [.str "move", .str "point"]) = H6 at S6 f6 ⊢
        show if inV (.str "make") _ = true then _ else _
        rw [in_two, decide_eq_false (by decide +kernel)]
        refine iteF ?_
        have kkz : ∀ z, z ∈ keysOf [tu, cc] ↔ z ∈ keysOf (namedOf (.tuple [.tuple [.int t, .int j], .tuple [a, b, c, e], .tuple (.str "make" :: [.str y, tu, ky, cc])])) := fun z => by rw [eN]
        refine ⟨_, rfl, q5, rfl, ⟨_, SqL.of f6⟩, fun Dd nD => lc_pairs (j := 3) nD (SqL.of f6) (.cons (q2.to S6) (.cons (q4.to S6) .nil)) np' (Nat.le_of_ble_eq_true rfl) (fun _ => rfl) (fun _ => rfl) fun H' acc s' hl' hacc => ⟨Dd, acc, _, rfl, SqL.of hl', hacc, keys_bd np', Nat.le_trans (List.length_filterMap_le _ _) (Nat.le_of_ble_eq_true rfl), fun p us' ks' J sJ hJ dJ pJ mJ => k p us' ks' J ((S6.trans s').trans sJ) hJ dJ pJ fun z => (mJ z).trans (kkz z)⟩⟩
      · rw [decide_eq_false c2]
        have iu : isUse (.str y) = false := decide_eq_false c2
        rw [iu, if_neg Bool.false_ne_true] at eN
        have np' : ∀ e ∈ [tu, PyData.none], noneOrPair e := fun e he => by
          rcases List.mem_cons.mp he with z | z
          · refine np e ?_
            have z2 : namedD "make" [.str y, tu, ky, cc] = if isUse (.str y) = true then [tu, cc] else [tu] := rfl
            rw [z2, iu, if_neg Bool.false_ne_true, z]
            exact List.mem_cons_self
          · exact .inl (List.mem_singleton.mp z)
        refine iteF ⟨(by show 2 ≤ sizeLine; rw [sizeLine_eq]; decide), fun q5 n5 => ?_⟩
        have S5 := K0.same_upd (o := .lst [u2, .non]) n5
        have f5 := @upd_same H q5 (.lst [u2, .non])
        generalize upd H q5 (.lst [u2, .non]) = H5 at S5 f5 ⊢
        refine ⟨_, rfl, pb, ys, _, _, rfl, rfl, K0.seqT_same S5 hy, j0, (by show 2 ≤ sizeLine; rw [sizeLine_eq]; decide), fun q6 n6 => ⟨q6, _, rfl, .inl (SqL.of upd_same), rfl, rfl, _, rfl, ?_⟩⟩
        have S6 := S5.trans (K0.same_upd (o := .lst [.str "move", .str "point"]) n6)
        have f6 : upd H5 q6 (.lst [.str "move", .str "point"]) q5 = some (.lst [u2, .non]) := (upd_ne (ne_of_none f5 n6)).trans f5
        generalize upd H5 q6 (.lst [.str "move", .str "point"]) = H6 at S6 f6 ⊢
        show if inV (.str "make") _ = true then _ else _
        rw [in_two, decide_eq_false (by decide +kernel)]
        refine iteF ?_
        have kk : ∀ z, z ∈ keysOf [tu, PyData.none] ↔ z ∈ keysOf [tu] := fun z => by
          have : keysOf [tu, PyData.none] = keysOf ([tu] ++ [PyData.none]) := rfl
          rw [this]
          unfold keysOf
          rw [List.filterMap_append, List.filterMap_cons_none (l := []) (show keyOf .none = none from rfl), List.filterMap_nil, List.append_nil]
        have kkz : ∀ z, z ∈ keysOf [tu, PyData.none] ↔ z ∈ keysOf (namedOf (.tuple [.tuple [.int t, .int j], .tuple [a, b, c, e], .tuple (.str "make" :: [.str y, tu, ky, cc])])) := fun z => by rw [eN]; exact kk z
        refine ⟨_, rfl, q5, rfl, ⟨_, SqL.of f6⟩, fun Dd nD => lc_pairs (j := 3) nD (SqL.of f6) (.cons (q2.to S6) (.cons .non .nil)) np' (Nat.le_of_ble_eq_true rfl) (fun _ => rfl) (fun _ => rfl) fun H' acc s' hl' hacc => ⟨Dd, acc, _, rfl, SqL.of hl', hacc, keys_bd np', Nat.le_trans (List.length_filterMap_le _ _) (Nat.le_of_ble_eq_true rfl), fun p us' ks' J sJ hJ dJ pJ mJ => k p us' ks' J ((S6.trans s').trans sJ) hJ dJ pJ fun z => (mJ z).trans (kkz z)⟩⟩
    · rw [decide_eq_false c1]
      obtain ⟨d1, r', rfl⟩ : ∃ d1 r', r = d1 :: r' := by
        rcases bodyR_ne hb c1 with ⟨z, _⟩ | ⟨z, _⟩ | z
        all_goals
          match r, z with
          | d1 :: r', _ => exact ⟨d1, r', rfl⟩
      obtain ⟨pb', ys1, u1, e1, hy1, j1, q1⟩ := qb.item (i := 1) rfl
      cases e1
      refine iteT ⟨_, rfl, pb, ys1, _, _, rfl, rfl, hy1, j1, (by show 1 ≤ sizeLine; rw [sizeLine_eq]; decide), fun q5 n5 => ?_⟩
      have S5 := K0.same_upd (o := .lst [u1]) n5
      have f5 := @upd_same H q5 (.lst [u1])
      generalize upd H q5 (.lst [u1]) = H5 at S5 f5 ⊢
      refine ⟨_, rfl, pb, ys, _, _, rfl, rfl, K0.seqT_same S5 hy, j0, (by show 2 ≤ sizeLine; rw [sizeLine_eq]; decide), fun q6 n6 => ⟨q6, _, rfl, .inl (SqL.of upd_same), rfl, rfl, _, rfl, ?_⟩⟩
      have S6 := S5.trans (K0.same_upd (o := .lst [.str "move", .str "point"]) n6)
      have f6 : upd H5 q6 (.lst [.str "move", .str "point"]) q5 = some (.lst [u1]) := (upd_ne (ne_of_none f5 n6)).trans f5
      generalize upd H5 q6 (.lst [.str "move", .str "point"]) = H6 at S6 f6 ⊢
      show if inV (.str x) _ = true then _ else _
      rw [in_two]
      have eN : namedOf (.tuple [.tuple [.int t, .int j], .tuple [a, b, c, e], .tuple (.str x :: d1 :: r')]) = namedD x (d1 :: r') := rfl
      have eD : namedD x (d1 :: r') = namedO x (d1 :: r') := by
        unfold namedD
        rw [if_neg c1]
      by_cases c2 : x = "move" ∨ x = "point"
      · rw [decide_eq_true c2]
        obtain ⟨d2, r2, rfl⟩ : ∃ d2 r2, r' = d2 :: r2 := by
          rcases bodyR_ne hb c1 with ⟨_, z⟩ | ⟨z, _⟩ | z
          · exact absurd c2 z
          all_goals
            match r', z with
            | d2 :: r2, _ => exact ⟨d2, r2, rfl⟩
        have eO : namedO x (d1 :: d2 :: r2) = if x = "move" ∨ x = "point" then [d1, d2] else [d1] := rfl
        rw [if_pos c2] at eO
        rw [eD, eO] at eN np
        obtain ⟨pb', ys2, u2, e2, hy2, j2, q2⟩ := qb.item (i := 2) rfl
        cases e2
        refine iteT ⟨_, rfl, pb, ys1, _, _, rfl, rfl, K0.seqT_same S6 hy1, j1, _, rfl, pb, ys2, _, _, rfl, rfl, K0.seqT_same S6 hy2, j2, (by show 2 ≤ sizeLine; rw [sizeLine_eq]; decide), fun q7 n7 => ?_⟩
        have S7 := S6.trans (K0.same_upd (o := .lst [u1, u2]) n7)
        have f7 := @upd_same H6 q7 (.lst [u1, u2])
        generalize upd H6 q7 (.lst [u1, u2]) = H7 at S7 f7 ⊢
        have kkz : ∀ z, z ∈ keysOf [d1, d2] ↔ z ∈ keysOf (namedOf (.tuple [.tuple [.int t, .int j], .tuple [a, b, c, e], .tuple (.str x :: d1 :: d2 :: r2)])) := fun z => by rw [eN]
        refine ⟨_, rfl, q7, rfl, ⟨_, SqL.of f7⟩, fun Dd nD => lc_pairs (j := 3) nD (SqL.of f7) (.cons (q1.to S7) (.cons (q2.to S7) .nil)) np (Nat.le_of_ble_eq_true rfl) (fun _ => rfl) (fun _ => rfl) fun H' acc s' hl' hacc => ⟨Dd, acc, _, rfl, SqL.of hl', hacc, keys_bd np, Nat.le_trans (List.length_filterMap_le _ _) (Nat.le_of_ble_eq_true rfl), fun p us' ks' J sJ hJ dJ pJ mJ => k p us' ks' J ((S7.trans s').trans sJ) hJ dJ pJ fun z => (mJ z).trans (kkz z)⟩⟩
      · rw [decide_eq_false c2]
        have eO : namedO x (d1 :: r') = [d1] := by
          cases r' with
          | nil => rfl
          | cons d2 r2 =>
            show (if x = "move" ∨ x = "point" then [d1, d2] else [d1]) = [d1]
            rw [if_neg c2]
        rw [eD, eO] at eN np
        refine iteF ?_
        have kkz : ∀ z, z ∈ keysOf [d1] ↔ z ∈ keysOf (namedOf (.tuple [.tuple [.int t, .int j], .tuple [a, b, c, e], .tuple (.str x :: d1 :: r')])) := fun z => by rw [eN]
        refine ⟨_, rfl, q5, rfl, ⟨_, SqL.of f6⟩, fun Dd nD => lc_pairs (j := 3) nD (SqL.of f6) (.cons (q1.to S6) .nil) np (Nat.le_of_ble_eq_true rfl) (fun _ => rfl) (fun _ => rfl) fun H' acc s' hl' hacc => ⟨Dd, acc, _, rfl, SqL.of hl', hacc, keys_bd np, Nat.le_trans (List.length_filterMap_le _ _) (Nat.le_of_ble_eq_true rfl), fun p us' ks' J sJ hJ dJ pJ mJ => k p us' ks' J ((S6.trans s').trans sJ) hJ dJ pJ fun z => (mJ z).trans (kkz z)⟩⟩
end
end K1
set_option maxHeartbeats 4000000
/-! the end of a law that makes lambdas and tells by repr: its def at the caller, with the tables of code objects -/
namespace K1
open PySem L2 PySem.Spec PyProof.Rows LamX
/-- nothing is tracked but the script and the tables, which are empty -/
structure Start (cs : List (Addr × Addr)) (a : Addr) (H : Hp) : Prop where
  tab : ∀ p ∈ cs, H p.2 = some (.tbl #[])
  any : ∀ b, H b = none ∨ (b ∈ cs.map (·.2) ∧ H b = some (.tbl #[])) ∨ (b = a ∧ ∃ o xs, H b = some (.frz o (.lst xs)))
def GoodT (P : Program) (w : World) (K : PySem.W.Frag) (mg : Str → Option Value) (fa : Addr) (n : Nat) (cs : List (Addr × Addr)) : Prop :=
  ∀ (base : Heap) (s : Shared) (H : Hp) (a : Addr) (ns : List Int), ns.length ≤ n → (∀ p ∈ cs, TabB base mg p.1 p.2) → Env0 P w K mg base callerA [] s H → Start cs a H → SqL K H a (ns.map V.int) →
    codeAny (model P w) callerA (.call (.ref fa) ⟨[.ref a], []⟩) (CR L2.CX0 [] P w H s (fun v _ => v = .bl true) L2.E0) s
section
variable {P : Program} {w : World} {K : PySem.W.Frag} {mg mb : Str → Option Value} {n : Nat} {fa a : Addr} {cs : List (Addr × Addr)} {s : Shared} {vs : List Value} {ns : List Int}
/-- what the ground keeps: all but lists and empty fields -/
theorem ground_of {H : Hp} (ha : s.heap.get? a = some { cls := .type "list", data := .seq vs.toArray }) (hT : ∀ p ∈ cs, s.heap.get? p.2 = some { cls := .none, data := .fields #[] }) (S : Start cs a H) {b : Addr} {o : Obj}
    (e : s.heap.get? b = some o) (h1 : ∀ us n, o.data ≠ .seq us n) (h2 : o.data ≠ .fields #[]) : (hidT s.heap H).get? b = some o := by
  refine hidT_get e ?_
  rcases S.any b with z | ⟨m, _⟩ | ⟨z, _⟩
  · exact z
  · obtain ⟨p, hp, q⟩ := List.mem_map.mp m
    rw [← q, hT p hp] at e
    cases e
    exact absurd rfl h2
  · rw [z, ha] at e
    cases e
    exact absurd rfl (h1 _ _)
theorem good_tabs (KX : K.In s.heap) (hns : s.heap.Ns mainGlobals mg) (hb : s.heap.Ns builtinsNs mb) (hbb : ∀ x : Str, x ≠ "__name__" → mb x = bootBuiltins x) (hlim : s.heap.NoLimit) (hg : s.gens = #[])
    (hT : ∀ p ∈ cs, s.heap.get? p.2 = some { cls := .none, data := .fields #[] }) (nT : ∀ p ∈ cs, K.lookup p.2 = none) (C : ∀ p ∈ cs, PySem.W.CodeHd s.heap p.1 p.2)
    (hbm : ∃ (bm : Addr) (ob : Obj), mg "__builtins__" = some (.ref bm) ∧ bm ≠ builtinsNs ∧ s.heap.get? bm = some ob ∧ ob.cls = .type "module" ∧ ob.dict = some builtinsNs ∧ ob.data = .plain)
    (ha : s.heap.get? a = some { cls := .type "list", data := .seq vs.toArray }) (hi : IntsAre vs ns) (hl : ns.length ≤ n) (hn : n ≤ sizeLine) (F : GoodT P w K mg fa n cs) :
    codeAny (model P w) callerA (.call (.ref fa) ⟨[.ref a], []⟩) (fun r s' => r = .ok (.ret (.bool true)) ∧ OldK s.heap s'.heap ∧ s'.os = s.os ∧ AllBare s'.gens) s := by
  have rv := vals_ints hi
  have lenV := hi.length
  have hls : ns.length ≤ sizeLine := Nat.le_trans hl hn
  have main : ∀ H : Hp, Start cs a H → SqL K H a (ns.map V.int) → HOk P w H s.heap → (H a ≠ none → K.lookup a = none) →
      codeAny (model P w) callerA (.call (.ref fa) ⟨[.ref a], []⟩) (fun r s' => r = .ok (.ret (.bool true)) ∧ OldK s.heap s'.heap ∧ s'.os = s.os ∧ AllBare s'.gens) s := by
    intro H S hS hok hK
    have gr := @ground_of a cs s vs H ha hT S
    have dic : ∀ {b : Addr} {o : Obj} {es : Array DictEntry} {ep : Nat}, s.heap.get? b = some o → o.data = .dict es ep → (hidT s.heap H).get? b = some o := fun e d => by
      refine gr e (fun us n z => ?_) fun z => ?_
      all_goals
        rw [d] at z
        cases z
    have nsK : ∀ {b : Addr} {m : Str → Option Value}, s.heap.Ns b m → (hidT s.heap H).Ns b m := fun ⟨o, es, ep, e, d, r⟩ => ⟨o, es, ep, dic e d, d, r⟩
    have hKb : K.In (hidT s.heap H) := fun b o e => by
      refine hidT_get (KX b o e) ?_
      rcases S.any b with z | ⟨m, _⟩ | ⟨z, o', xs, q⟩
      · exact z
      · obtain ⟨p, hp, q⟩ := List.mem_map.mp m
        rw [← q, nT p hp] at e
        cases e
      · rw [z] at e q
        rw [hK (by rw [q]; exact fun y => nomatch y)] at e
        cases e
    have TB : ∀ p ∈ cs, TabB (hidT s.heap H) mg p.1 p.2 := fun p hp => by
      refine ⟨?_, ?_, fun z => ?_⟩
      · obtain ⟨o, us, file, tf, flags, tg, inF, text, tt, e1, r1, r2, r3, r⟩ := C p hp
        refine ⟨o, us, file, tf, flags, tg, inF, text, tt, gr e1 (fun vs n z => ?_) (fun z => ?_), r1, r2, r3, r⟩
        · rw [r2] at z
          cases z
        · rw [r2] at z
          cases z
          simp at r3
      · obtain ⟨bm, ob, b1, b2, b3, b4, b5, b6⟩ := hbm
        refine ⟨bm, ob, b1, b2, fun q => ?_, fun q => ?_, gr b3 (fun vs n z => ?_) (fun z => ?_), b4, b5, b6⟩
        · obtain ⟨o, es, ep, e, hd, _⟩ := hns
          rw [q, e] at b3
          cases b3
          rw [hd] at b6
          cases b6
        · rw [q, hT p hp] at b3
          cases b3
          cases b6
        all_goals
          rw [b6] at z
          cases z
      · obtain ⟨o, es, ep, e, hd, _⟩ := hns
        rw [z, hT p hp] at e
        cases e
        cases hd
    obtain ⟨mc, l1, l2⟩ := hlim
    have e0 : Env0 P w K mg (hidT s.heap H) callerA [] s H :=
      ⟨rfl, ⟨hKb, nsK hns, ⟨mb, nsK hb, hbb⟩, ⟨mc, nsK l1, l2⟩⟩, fun b o e => of_hidT e, Nat.le_of_eq (hidT_size _ _), trivial, fun b hb => absurd hb List.not_mem_nil, hok, .of_eq hg⟩
    refine codeAny_mono (F _ s H a ns hl TB e0 S hS) fun r s' h => ?_
    cases r with
    | error e => exact False.elim h
    | ok fl =>
      cases fl with
      | next => exact False.elim h
      | brk => exact False.elim h
      | cont => exact False.elim h
      | ret u =>
        obtain ⟨v, H', os, bare, un, hok', r', q⟩ := h
        have q' : v = .bl true := q
        subst q'
        obtain rfl : u = Value.bool true := r'
        have stay : ∀ b o, b ∉ cs.map (·.2) → s.heap.get? b = some o → s'.heap.get? b = some o := fun b o nb e => by
          rcases S.any b with z | ⟨m, _⟩ | ⟨_, ob, xs, z⟩
          · exact un.keep b o e z List.not_mem_nil List.not_mem_nil
          · exact absurd m nb
          · obtain ⟨e1, _⟩ := hok b _ z
            obtain ⟨e2, _⟩ := hok' b _ (un.frzs b ob _ z)
            rw [e] at e1
            cases e1
            exact e2
        have grown : ∀ p ∈ cs, ∃ more : Array Value, s'.heap.get? p.2 = some { cls := .none, data := .fields more } := fun p hp => by
          obtain ⟨more, z⟩ := un.tbls p.2 #[] (S.tab p hp)
          exact ⟨_, hok' p.2 _ z⟩
        refine ⟨rfl, ⟨fun b o e => ?_, fun b o e => ?_⟩, os, bare⟩
        · by_cases m : b ∈ cs.map (·.2)
          · obtain ⟨p, hp, q⟩ := List.mem_map.mp m
            obtain ⟨more, hm⟩ := grown p hp
            rw [← q] at e ⊢
            rw [hT p hp] at e
            cases e
            exact .inr (.inl ⟨((C p hp).tab (hT p hp)).isCodeTable, rfl, #[], more, rfl, by rw [Array.empty_append]; exact hm⟩)
          · exact .inl (stay b o m e)
        · by_cases m : b ∈ cs.map (·.2)
          · obtain ⟨p, hp, q⟩ := List.mem_map.mp m
            obtain ⟨more, hm⟩ := grown p hp
            rw [← q]
            exact ⟨_, hm⟩
          · exact ⟨o, stay b o m e⟩
  have tabs : ∀ {b : Addr}, b ∈ cs.map (·.2) → s.heap.get? b = some { cls := .none, data := .fields #[] } := fun m => by
    obtain ⟨p, hp, q⟩ := List.mem_map.mp m
    rw [← q]
    exact hT p hp
  have aT : a ∉ cs.map (·.2) := fun m => by
    have z := tabs m
    rw [ha] at z
    have z' : Data.seq vs.toArray _ = Data.fields #[] := congrArg Obj.data (Option.some.inj z)
    cases z'
  have into : ∀ p ∈ cs, p.2 ∈ cs.map (·.2) := fun p hp => List.mem_map.mpr ⟨p, hp, rfl⟩
  cases hk : K.lookup a with
  | some o =>
    have e := KX a o hk
    rw [ha] at e
    cases e
    let H : Hp := fun b => if b ∈ cs.map (·.2) then some (.tbl #[]) else none
    have yes : ∀ {b}, b ∈ cs.map (·.2) → H b = some (.tbl #[]) := fun m => if_pos m
    have no : ∀ {b}, b ∉ cs.map (·.2) → H b = none := fun m => if_neg m
    refine main H ⟨fun p hp => yes (into p hp), fun b => ?_⟩ (.inr ⟨_, vs.toArray, _, hk, rfl, rfl, rfl, by rw [List.size_toArray, lenV]; exact hls, by simpa using rv⟩) (fun b u z => ?_) fun z => absurd (no aT) z
    · by_cases m : b ∈ cs.map (·.2)
      · exact .inr (.inl ⟨m, yes m⟩)
      · exact .inl (no m)
    · by_cases m : b ∈ cs.map (·.2)
      · rw [yes m] at z
        cases z
        exact tabs m
      · rw [no m] at z
        cases z
  | none =>
    let o : Obj := { cls := .type "list", data := .seq vs.toArray }
    let H : Hp := fun b => if b = a then some (.frz o (.lst (ns.map V.int))) else if b ∈ cs.map (·.2) then some (.tbl #[]) else none
    have at_a : H a = some (.frz o (.lst (ns.map V.int))) := if_pos rfl
    have yes : ∀ {b}, b ∈ cs.map (·.2) → H b = some (.tbl #[]) := fun {b} m => (if_neg (fun z => aT (by rw [← z]; exact m))).trans (if_pos m)
    have no : ∀ {b}, b ≠ a → b ∉ cs.map (·.2) → H b = none := fun h m => (if_neg h).trans (if_neg m)
    refine main H ⟨fun p hp => yes (into p hp), fun b => ?_⟩ (.inl (.inr ⟨o, at_a⟩)) (fun b u z => ?_) fun _ => hk
    · by_cases h : b = a
      · exact .inr (.inr ⟨h, _, _, by rw [h]; exact at_a⟩)
      · by_cases m : b ∈ cs.map (·.2)
        · exact .inr (.inl ⟨m, yes m⟩)
        · exact .inl (no h m)
    · by_cases h : b = a
      · rw [h, at_a] at z
        cases z
        rw [h]
        exact ⟨ha, by rw [List.length_map]; exact hls, vs, _, rv, ha⟩
      · by_cases m : b ∈ cs.map (·.2)
        · rw [yes m] at z
          cases z
          exact tabs m
        · rw [no h m] at z
          cases z
end
/-- the goal that the head leaves, from GoodT -/
def GoodAtS (l : PySem.W.OpenLaw) (w : World) (K : PySem.W.Frag) (n : Nat) (mg : Str → Option Value) (fa : Addr) (h : Heap) : Prop :=
  ∃ cs : List (Addr × Addr), (∀ p ∈ cs, h.get? p.2 = some { cls := .none, data := .fields #[] }) ∧ (∀ p ∈ cs, K.lookup p.2 = none) ∧ (∀ p ∈ cs, PySem.W.CodeHd h p.1 p.2) ∧ GoodT l.prog w K mg fa n cs
theorem walk_tabs {l : PySem.W.OpenLaw} {n : Nat} {q : Program} {loose : List Str} {XP : (Str → Option Value) → Heap → Prop} {YP : World → Heap → Prop} {d : DefRec} {K : Params → PySem.W.Frag}
    (hn : l.most = some n) (hn2 : n ≤ sizeLine) (hdf : d.params.defaults = []) (hY : ∀ (w : World) (h : Heap), YP w h → (K w.params).In h)
    (F : ∀ (w : World) (mg : Str → Option Value) (fa : Addr) (h : Heap), YP w h → (K w.params).In h → h.Ns mainGlobals mg → mg d.name = some (.ref fa) → GoodAtS l w (K w.params) n mg fa h) :
    PySem.W.WalkO q loose XP YP l.row.toRowW d [] (fun f vs => PySem.call f vs) := by
  refine Att.attach_call hn hdf fun w s₀ s₁ mg mb fa o pm cd doc a vs ns G Y ho hd hcd hmg hobj hints hlen hg => ?_
  have KX := hY w _ Y
  obtain ⟨cs, hT, nT, C, hF⟩ := F w mg fa _ Y KX G.T.g hmg
  exact good_tabs KX G.T.g G.T.b G.T.builtins G.T.nolimit hg hT nT C G.T.bmain hobj hints hlen hn2 hF
end K1
set_option maxHeartbeats 4000000
/-! lambdas, handed to the catching def -/
namespace K1
open PySem L2 LamX
/-- the slots of _law_deed_right -/
abbrev N75 : List Str := ["_law_source", "_law_deed", "_law_odd_here", "_law_hand"]
theorem sc_dright : FnScope N75 ["_law_source", "_law_deed"] (defScope (top 75)) := ⟨rfl, rfl, rfl, by decide +kernel, rfl, by decide +kernel, by decide +kernel⟩
/-- the last statement's call: the lambda and the def that gets it -/
def eL75 : Expr := match (defBody (top 75)).getD 3 (.Pass ⟨0, 0, 0, 0⟩) with
  | .Return (some (.Compare l _ _ _)) _ => l
  | _ => .Constant .none 0 ⟨0, 0, 0, 0⟩
section
variable {P : Program} {w : World} {K : PySem.W.Frag} {mg : Str → Option Value} {base : Heap}
/-- a def of the text whose code object stands at c -/
structure FunC (K : PySem.W.Frag) (x qual : Str) (st : Stmt) (f : Addr) (fd : FuncData) (c : Addr) : Prop where
  ex : ∃ (oc : Value) (od : Option Addr) (kV doc pm : Value) (an : Option Addr) (ct : Value) (osl : Array (Option Value)),
    fd = PySem.W.fnOf x qual (defArgs st) (defBody st) (defScope st) .none kV doc pm an (.ref c) ct ∧ K.lookup f = some ⟨oc, od, .func fd, osl⟩ ∧ PySem.W.codeIn K (.ref c) qual = true
theorem okGC {x qual : Str} {st : Stmt} {f c : Addr} {fd : FuncData} {N ps : List Str} {k : Nat} {sp : Sp} (F : FunC K x qual st f fd c) (S : FnScope N ps (defScope st)) (len : ∀ vs H Q E, sp vs H Q E → vs.length = ps.length)
    (hbody : ∀ (A : Around) (outer : List Env) (s : Shared) (H : Hp) (vs : List V) (Q : VK) (E : XK), A.guards = some [] → Room k (A.deeper (PyProof.Rows.envOfC qual (defScope st) s.heap.objs.size f (.ref c))) → sp vs H Q E →
      ∃ t, PSs (cxOf CX0 P w K mg base N qual (defScope st) f (.ref c) A outer s H E).nox (defBody st) t ∧ t { nx := fun _ H' => Q .non H', rt := Q } (start N vs) H) : FnG P w K mg base (k + 1) f fd ps sp := by
  obtain ⟨oc, od, kV, doc, pm, an, ct, osl, rfl, lk, hcd⟩ := F.ex
  refine ⟨len, fun A outer s H args us vs Q E hg hr e0 hb r h => ?_⟩
  obtain ⟨t, ht, q⟩ := hbody A outer s H vs Q E hg (hr.deeper _) h
  exact run_at lk hcd S (len _ _ _ _ h) hr e0 hb r ⟨t, ht.nox, q⟩
theorem pe_caught_time {f g c tb C Ch fI fI' : Addr} {cs : Nat → Addr} {fdg : FuncData} {Ts : List (Addr × Str)} {A : Around} {outer : List Env} {s : Shared} {H : Hp} {E : XK} (T : All K mg) (R : Er K mg "NoDeed" C fI) (R' : Er K mg "NoHand" Ch fI') (Ca : Cau K mg cs) (hrep : mg "repr" = none)
    (Dg : Dn K mg "_law_caught" ["_law_call"] (top 63) g fdg) (hgd : A.guards = some []) (hr : Room 14 (A.deeper (PyProof.Rows.envOfC "_law_deed_right" (defScope (top 75)) s.heap.objs.size f (.ref c)))) (TB : TabB base mg c tb)
    (hmT : (tb, ("_law_deed_right.<locals>.<lambda>" : Str)) ∈ Ts) (hu : ∀ p ∈ Ts, p.1 = tb → p.2 = ("_law_deed_right.<locals>.<lambda>" : Str)) :
    ∃ t, PE (cxOf CX0 P w K mg base N75 "_law_deed_right" (defScope (top 75)) f (.ref c) A outer s H E).nox eL75 (tLam Ts (TTc K cs) t) := by
  obtain ⟨oc, od, kV, doc, pm, an, cdv, ct, osl, rfl, lk, hcd⟩ := Dg.fn.ex
  refine ⟨fun E' => tCallS (spTime K C Ch) (fun _ => E') (tCons (tVar 1) (tCons (tVar 2) tNil)), ?_⟩
  refine pe_lamcall (X := (cxOf CX0 P w K mg base N75 "_law_deed_right" (defScope (top 75)) f (.ref c) A outer s H E).nox) (k := 12) (T := Ts) (by rfl) Dg.mg Dg.fn.kp lk hcd Dg.bn sc_caught rfl (.inl rfl) ?_ TB rfl hmT hu hr (lamS_by (sc := defScope (top 75)) (by decide +kernel)) rfl (fun _ _ _ _ _ => by rfl) (fun A' outer' s' H' E' f' c' hr' => ?_)
  · exact caught_gives Ca hgd (by have := hr.un; show A.units + 3 + 80 < cLine; have h2 : (A.deeper (PyProof.Rows.envOfC "_law_deed_right" (defScope (top 75)) s.heap.objs.size f (.ref c))).units = A.units + 3 := rfl; omega) hrep
  · exact pe_clX (cl_time T R R') hr' (takes_of rfl rfl rfl rfl) (by decide) (pa_cons (pv 1) (pa_cons (pv 2) pa_nil))
end
end K1
set_option maxHeartbeats 4000000
/-! beside the tables -/
namespace K1
open PySem L2 LamX
/-- two lists of the same two texts -/
def rTT (K : PySem.W.Frag) (r : Bool) : R2 := fun x y H Q => ∃ a b s t, x = .ref a ∧ y = .ref b ∧ SqL K H a [.str s, .str t] ∧ SqL K H b [.str s, .str t] ∧ Q (.bl r) H
theorem tt_items {us ws : List Value} {s t : Str} (r1 : Vals [.str s, .str t] us) (r2 : Vals [.str s, .str t] ws) : ∃ a b c d, us = [Value.str s a, .str t b] ∧ ws = [Value.str s c, .str t d] := by
  cases r1 with
  | cons h1 r1 =>
    cases r1 with
    | cons h2 r1 =>
      cases r1
      cases r2 with
      | cons h3 r2 =>
        cases r2 with
        | cons h4 r2 =>
          cases r2
          obtain ⟨a, rfl⟩ := h1
          obtain ⟨b, rfl⟩ := h2
          obtain ⟨c, rfl⟩ := h3
          obtain ⟨d, rfl⟩ := h4
          exact ⟨a, b, c, d, rfl, rfl⟩
theorem tt_each {A : Around} {s0 : Shared} {s t : Str} {a b c d : Tok} (j : Nat) (h1 : j < [Value.str s a, .str t b].toArray.size) (h2 : j < [Value.str s c, .str t d].toArray.size) : SeqAt.EqAt A s0 ([Value.str s a, .str t b].toArray[j]) ([Value.str s c, .str t d].toArray[j]) true := by
  intro prog w E Q hq
  match j, h1, h2 with
  | 0, _, _ => exact PyProof.Rows.eqBool_str (by rw [beq_self_eq_true]; exact hq)
  | 1, _, _ => exact PyProof.Rows.eqBool_str (by rw [beq_self_eq_true]; exact hq)
  | j + 2, h1, _ => exact absurd h1 (by simp)
theorem op_eqTT {X : Cx} (hu : X.A.units + 64 < cLine) : OpR X (compareOp .Eq) (rTT X.K true) := by
  intro pins s0 σ H x y v u Q I rx ry h
  obtain ⟨a, b, s, t, rfl, rfl, h1, h2, q⟩ := h
  cases rx
  cases ry
  obtain ⟨us, r1, p1, _⟩ := I.list h1
  obtain ⟨ws, r2, p2, _⟩ := I.list h2
  obtain ⟨i1, i2, i3, i4, rfl, rfl⟩ := tt_items r1 r2
  exact SeqAt.eq_listAt (e := fun _ => true) p1.isList p2.isList rfl (by omega) (fun j h1 h2 => tt_each j h1 h2) ⟨.bl true, H, I, rfl, q⟩
theorem op_neTT {X : Cx} (hu : X.A.units + 64 < cLine) : OpR X (compareOp .NotEq) (rTT X.K false) := by
  intro pins s0 σ H x y v u Q I rx ry h
  obtain ⟨a, b, s, t, rfl, rfl, h1, h2, q⟩ := h
  cases rx
  cases ry
  obtain ⟨us, r1, p1, _⟩ := I.list h1
  obtain ⟨ws, r2, p2, _⟩ := I.list h2
  obtain ⟨i1, i2, i3, i4, rfl, rfl⟩ := tt_items r1 r2
  exact SeqAt.RcNeAt.lists (e := fun _ => true) p1.isList p2.isList rfl (by omega) (fun j h1 h2 => tt_each j h1 h2) _ _ _ _ ⟨.bl false, H, I, rfl, q⟩
/-- all but the tables -/
def nt (H : Hp) : Hp := fun b => match H b with
  | some (.tbl _) => none
  | x => x
theorem nt_at {H : Hp} {b : Addr} {u : HO} (h : nt H b = some u) : H b = some u ∧ ∀ ps, u ≠ .tbl ps := by
  unfold nt at h
  cases e : H b with
  | none =>
    rw [e] at h
    cases h
  | some x =>
    rw [e] at h
    cases x with
    | tbl ps => cases h
    | _ =>
      cases h
      exact ⟨rfl, fun ps z => by cases z⟩
theorem nt_of {H : Hp} {b : Addr} {u : HO} (h : H b = some u) (n : ∀ ps, u ≠ .tbl ps) : nt H b = some u := by
  unfold nt
  rw [h]
  cases u with
  | tbl ps => exact absurd rfl (n ps)
  | _ => rfl
theorem nt_in (H : Hp) : Same (nt H) H := fun b u e => (nt_at e).1
theorem nt_mono {A B : Hp} (s : Same A B) : Same (nt A) (nt B) := fun b u e => nt_of (s _ _ (nt_at e).1) (nt_at e).2
theorem nt_ext {A B : Hp} (s : ExtN A B) : Same (nt A) (nt B) := fun b u e => nt_of (s _ _ (nt_at e).1 (nt_at e).2) (nt_at e).2
/-- what the law keeps: all but the source and the tables -/
def grd (p : Addr) (H : Hp) : Hp := nt (hid p H)
theorem grd_hid (p : Addr) (H : Hp) : Same (grd p H) (hid p H) := nt_in _
theorem grd_in (p : Addr) (H : Hp) : Same (grd p H) H := (nt_in _).trans (hid_same p H)
theorem grd_of {p b : Addr} {H : Hp} {u : HO} (h : H b = some u) (n : b ≠ p) (nt : ∀ ps, u ≠ .tbl ps) : grd p H b = some u := nt_of (by rw [hid_ne n]; exact h) nt
theorem grd_bt {p : Addr} {H H' : Hp} (b : Bt p H H') : Same (grd p H) (grd p H') := nt_mono b.same
theorem grd_same {p : Addr} {H H' : Hp} (s : Same H H') : Same (grd p H) (grd p H') := nt_mono (hid_mono s)
theorem grd_ext {p : Addr} {H H' : Hp} (s : ExtN H H') : Same (grd p H) (grd p H') := fun b u e => by
  obtain ⟨h1, h2⟩ := nt_at e
  obtain ⟨h3, h4⟩ := hid_at h1
  exact grd_of (s _ _ h4 h2) h3 h2
theorem src_ext {p : Addr} {H H' : Hp} (h : Src H p) (s : ExtN H H') : Src H' p := by
  obtain ⟨a, b, e, r⟩ := h
  exact ⟨a, b, s _ _ e (fun ps z => by cases z), r⟩
theorem src_same {p : Addr} {H H' : Hp} (h : Src H p) (s : Same H H') : Src H' p := by
  obtain ⟨a, b, e, r⟩ := h
  exact ⟨a, b, s _ _ e, r⟩
theorem seq_grd {K : PySem.W.Frag} {p a : Addr} {H : Hp} {xs : List V} (h : SqL K (hid p H) a xs) : SqL K (grd p H) a xs := by
  rcases h with (h | ⟨o, h⟩) | h
  · exact .inl (.inl (nt_of h (fun ps z => by cases z)))
  · exact .inl (.inr ⟨o, nt_of h (fun ps z => by cases z)⟩)
  · exact .inr h
theorem tup_grd {K : PySem.W.Frag} {p a : Addr} {H : Hp} {xs : List V} (h : SqT K (hid p H) a xs) : SqT K (grd p H) a xs := by
  rcases h with (h | ⟨o, h⟩) | h
  · exact .inl (.inl (nt_of h (fun ps z => by cases z)))
  · exact .inl (.inr ⟨o, nt_of h (fun ps z => by cases z)⟩)
  · exact .inr h
mutual
theorem dq_grd {K : PySem.W.Frag} {p : Addr} {H : Hp} : ∀ (d : PyData) (v : V), DQ K (hid p H) v d → DQ K (grd p H) v d
  | .none, _, h => by
    cases h
    exact .non
  | .bool b, _, h => by
    cases h
    exact .bl b
  | .int i, _, h => by
    cases h
    exact .int i
  | .str x, _, h => by
    cases h with
    | str _ h => exact .str x h
  | .list ds, _, h => by
    cases h with
    | lst h1 h2 => exact .lst (seq_grd h1) (dqs_grd ds _ h2)
  | .tuple ds, _, h => by
    cases h with
    | tup h1 h2 => exact .tup (tup_grd h1) (dqs_grd ds _ h2)
  | .dict [], _, h => by
    cases h with
    | dct h => exact .dct (nt_of h (fun ps z => by cases z))
  | .dict (_ :: _), _, h => by cases h
theorem dqs_grd {K : PySem.W.Frag} {p : Addr} {H : Hp} : ∀ (ds : List PyData) (vs : List V), DQs K (hid p H) vs ds → DQs K (grd p H) vs ds
  | [], _, h => by
    cases h
    exact .nil
  | d :: ds, _, h => by
    cases h with
    | cons h1 h2 => exact .cons (dq_grd d _ h1) (dqs_grd ds _ h2)
end
theorem DQ.grd {K : PySem.W.Frag} {p : Addr} {H : Hp} {d : PyData} {v : V} (h : DQ K (hid p H) v d) : DQ K (grd p H) v d := dq_grd d v h
/-- tables stand while one draws -/
theorem tabs_bt {T : List (Addr × Str)} {p : Addr} {H H' : Hp} (src : Src H p) (t : Tabs T H) (b : Bt p H H') : Tabs T H' := fun x hx => by
  obtain ⟨ps, h1, h2, h3⟩ := t x hx
  obtain ⟨y, z, e, _⟩ := src
  refine ⟨ps, b.at (ne_of h1 e (by intro z; cases z)) h1, h2, fun pos cv hc => ?_⟩
  obtain ⟨c, e1, e2⟩ := h3 pos cv hc
  exact ⟨c, e1, b.at (ne_of e2 e (by unfold CodeO; intro z; cases z)) e2⟩
theorem tabs_same {T : List (Addr × Str)} {H H' : Hp} (t : Tabs T H) (s : Same H H') : Tabs T H' := t.ext s
end K1
set_option maxHeartbeats 4000000
namespace K1
open PySem L2 LamX
/-- kept: all but the source and the tables -/
structure Kp (Ts : List (Addr × Str)) (p : Addr) (H H' : Hp) : Prop where
  g : Same (grd p H) (grd p H')
  s : Src H' p
  t : Tabs Ts H'
theorem Kp.refl {Ts : List (Addr × Str)} {p : Addr} {H : Hp} (s : Src H p) (t : Tabs Ts H) : Kp Ts p H H := ⟨Same.refl _, s, t⟩
theorem Kp.same {Ts : List (Addr × Str)} {p : Addr} {H H1 H2 : Hp} (k : Kp Ts p H H1) (s : Same H1 H2) : Kp Ts p H H2 := ⟨k.g.trans (grd_same s), src_same k.s s, tabs_same k.t s⟩
theorem Kp.bt {Ts : List (Addr × Str)} {p : Addr} {H H1 H2 : Hp} (k : Kp Ts p H H1) (b : Bt p H1 H2) : Kp Ts p H H2 := ⟨k.g.trans (grd_bt b), b.src, tabs_bt k.s k.t b⟩
theorem Kp.ext {Ts : List (Addr × Str)} {p : Addr} {H H1 H2 : Hp} (k : Kp Ts p H H1) (e : ExtN H1 H2) (t : Tabs Ts H2) : Kp Ts p H H2 := ⟨k.g.trans (grd_ext e), src_ext k.s e, t⟩
theorem Kp.trans {Ts : List (Addr × Str)} {p : Addr} {H H1 H2 : Hp} (k : Kp Ts p H H1) (l : Kp Ts p H1 H2) : Kp Ts p H H2 := ⟨k.g.trans l.g, l.s, l.t⟩
/-- a comprehension over a range, by a step that may leave new things -/
theorem lc_funRG {n : Nat} {te : TE} {j : Nat} {σ : St} {H1 : Hp} {D : Addr} {Qd : Hp → Prop} (f : Nat → V) (nD : H1 D = none) (hz : n ≤ 1000) (hw : ∀ x, wipe ((wipe σ [j]).set j (some x)) [j] = wipe σ [j])
    (he : ∀ i H' Q, i < n → Same H1 H' → (∀ H'', Same H' H'' → Q (f i) H'') → te ((wipe σ [j]).set j (some (.int (0 + (i : Int))))) H' Q) (hd : ∀ H', Same H1 H' → H' D = some (.lst ((List.range n).map f)) → Qd H') :
    ∃ W : Nat → Nat → Hp → Prop, (∃ m, W 0 m (upd H1 D (.lst []))) ∧ ∀ i m H, W i m H →
      ((Itr 0 n).stop i H ∧ Qd H) ∨ ((Itr 0 n).go i H ∧ ∃ Nx : Hp → Prop, (∀ H', Nx H' → ∃ m', m' < m ∧ W (i + 1) m' H') ∧ ∀ x H', (Itr 0 n).yld i H x H' → (gName j) x (wipe σ [j]) H' fun σ2 H2 => wipe σ2 [j] = wipe σ [j] ∧ tYes σ2 H2 fun b H3 =>
        if b = true then te σ2 H3 fun y H4 => ∃ acc, H4 D = some (.lst acc) ∧ acc.length < sizeLine ∧ Nx (upd H4 D (.lst (acc ++ [y]))) else Nx H3) := by
  refine lc_range (lo := 0) (n := n) (fun i H' => i ≤ n ∧ Same H1 H' ∧ H' D = some (.lst ((List.range i).map f))) ⟨Nat.zero_le _, K0.same_upd nD, upd_same⟩ ?_ (fun H' ⟨_, s, h⟩ => hd H' s h)
  intro i H' hlt ⟨hle, s, h⟩
  refine ⟨hw _, ?_⟩
  unfold tYes
  dsimp only
  rw [if_pos rfl]
  refine he i H' _ hlt s fun H'' s2 => ⟨_, s2 _ _ h, ?_, hlt, K0.same_over (s.trans s2) nD, ?_⟩
  · rw [List.length_map, List.length_range, sizeLine_eq]
    omega
  · rw [upd_same, List.range_succ, List.map_append]
    rfl
theorem pairs_nodict : ∀ ks : List (List Int), (PyData.list (ks.map pairD)).hasDict = false := fun ks => by
  have go : ∀ ks : List (List Int), PyData.hasDictAll (ks.map pairD) = false := by
    intro ks
    induction ks with
    | nil => rfl
    | cons k ks ih =>
      have one : ∀ l : List Int, PyData.hasDictAll (l.map .int) = false := by
        intro l
        induction l with
        | nil => rfl
        | cons i l ih =>
          show ((PyData.int i).hasDict || PyData.hasDictAll (l.map .int)) = false
          rw [ih]
          rfl
      show ((pairD k).hasDict || PyData.hasDictAll (ks.map pairD)) = false
      rw [ih, Bool.or_false]
      exact one k
  exact go ks
theorem keys_two {d : PyData} (h : deedD d = true) : ∀ k ∈ keysOf (namedOf d), ∃ a b : Int, k = [a, b] := fun k hk => by
  obtain ⟨t, j, a, b, c, e, x, r, rfl, _, _, _, hb⟩ := deed_shape h
  obtain ⟨x, y, e, _⟩ := keys_bd (named_pairs hb) k hk
  exact ⟨x, y, e⟩
theorem four_ints (f : Nat → Int) : SeqAt.shaped (.list [.int (f 0), .int (f 1), .int (f 2), .int (f 3)]) = true := by
  simp [SeqAt.shaped, PyData.canLay0, PyData.canLayAll0, PyData.depth, PyData.depthAll]
def oddT : List PyData := [.int (-1), .int 4, .none, .bool true, .str "0"]
theorem oddT_ok : (oddT.all fun d => oddOk d && !fromD 0 3 d) = true := by decide +kernel
theorem oddT_shows {K : PySem.W.Frag} {H : Hp} {v : V} {d : PyData} (h : d ∈ oddT) (q : DQ K H v d) : Shows K H v d ∧ fromD 0 3 d = false := by
  have z := List.all_eq_true.mp oddT_ok d h
  unfold oddOk at z
  simp only [Bool.and_eq_true, decide_eq_true_eq] at z
  have n : Nice 2 60 d := ⟨z.1.1.1.1.1, z.1.1.1.1.2, z.1.1.1.2, z.1.1.2⟩
  refine ⟨shows_of q n (by decide) (by decide) fun y => ?_, by simpa using z.2⟩
  have x := z.1.2
  rw [y] at x
  exact x
def spDR (K : PySem.W.Frag) (Ts : List (Addr × Str)) : Sp := fun vs H Q _ => ∃ p v d, vs = [.ref p, v] ∧ Src H p ∧ Tabs Ts H ∧ DQ K (grd p H) v d ∧ deedD d = true ∧ ∀ H', Kp Ts p H H' → Q (.bl true) H'
section
variable {P : Program} {w : World} {K : PySem.W.Frag} {mg : Str → Option Value} {base : Heap}
theorem pe_caught_time' {f g c tb C Ch fI fI' : Addr} {cs : Nat → Addr} {fdg : FuncData} {Ts : List (Addr × Str)} {A : Around} {outer : List Env} {s : Shared} {H : Hp} {E : XK} (T : All K mg) (R : Er K mg "NoDeed" C fI) (R' : Er K mg "NoHand" Ch fI') (Ca : Cau K mg cs) (hrep : mg "repr" = none)
    (Dg : Dn K mg "_law_caught" ["_law_call"] (top 63) g fdg) (hgd : A.guards = some []) (hr : Room 14 (A.deeper (PyProof.Rows.envOfC "_law_deed_right" (defScope (top 75)) s.heap.objs.size f (.ref c)))) (TB : TabB base mg c tb)
    (hmT : (tb, ("_law_deed_right.<locals>.<lambda>" : Str)) ∈ Ts) (hu : ∀ p ∈ Ts, p.1 = tb → p.2 = ("_law_deed_right.<locals>.<lambda>" : Str)) :
    PE (cxOf CX0 P w K mg base N75 "_law_deed_right" (defScope (top 75)) f (.ref c) A outer s H E).nox eL75 (tLam Ts (TTc K cs) fun E' => tCallS (spTime K C Ch) (fun _ => E') (tCons (tVar 1) (tCons (tVar 2) tNil))) := by
  obtain ⟨oc, od, kV, doc, pm, an, cdv, ct, osl, rfl, lk, hcd⟩ := Dg.fn.ex
  refine pe_lamcall (X := (cxOf CX0 P w K mg base N75 "_law_deed_right" (defScope (top 75)) f (.ref c) A outer s H E).nox) (k := 12) (T := Ts) (by rfl) Dg.mg Dg.fn.kp lk hcd Dg.bn sc_caught rfl (.inl rfl) ?_ TB rfl hmT hu hr (lamS_by (sc := defScope (top 75)) (by decide +kernel)) rfl (fun _ _ _ _ _ => by rfl) (fun A' outer' s' H' E' f' c' hr' => ?_)
  · exact caught_gives Ca hgd (by have := hr.un; show A.units + 3 + 80 < cLine; have h2 : (A.deeper (PyProof.Rows.envOfC "_law_deed_right" (defScope (top 75)) s.heap.objs.size f (.ref c))).units = A.units + 3 := rfl; omega) hrep
  · exact pe_clX (cl_time T R R') hr' (takes_of rfl rfl rfl rfl) (by decide) (pa_cons (pv 1) (pa_cons (pv 2) pa_nil))
theorem ok_dright {f g c tb C Ch fI fI' aR : Addr} {cs : Nat → Addr} {fd fdg : FuncData} {Ts : List (Addr × Str)} (T : All K mg) (M : Nms mg) (M2 : Nms2 mg) (R : Er K mg "NoDeed" C fI) (R' : Er K mg "NoHand" Ch fI') (Ca : Cau K mg cs) (mR : mg "ROOT" = some (.ref aR)) (tR : ∀ H, SqT K H aR [.int 0, .int 0])
    (Dg : Dn K mg "_law_caught" ["_law_call"] (top 63) g fdg) (F : FunC K "_law_deed_right" "_law_deed_right" (top 75) f fd c) (TB : TabB base mg c tb)
    (hmT : (tb, ("_law_deed_right.<locals>.<lambda>" : Str)) ∈ Ts) (hu : ∀ p ∈ Ts, p.1 = tb → p.2 = ("_law_deed_right.<locals>.<lambda>" : Str)) : FnG P w K mg base 15 f fd ["_law_source", "_law_deed"] (spDR K Ts) := by
  refine okGC F sc_dright (fun vs H Q E h => ?_) (fun A outer s H vs Q E hgd hr h => ?_)
  · obtain ⟨p, v, d, rfl, _⟩ := h
    rfl
  · obtain ⟨p, v, d, rfl, src, tabs, hd0, hD, k⟩ := h
    refine ⟨_, (pss_cons (ps_if (PW.pt (pw_or (pt_cmpR op_ne (pe_clX (cl_mark T R) hr LamX.takes0 (by decide) (pa_cons (pv 1) pa_nil)) (pe_cmpR op_in_seq (pe_ix ix_tup (pe_ix ix_tup (pv 1) pe_int (fun _ _ => rfl)) pe_int (fun _ _ => rfl)) (pe_lst (pa_cons pe_str (pa_cons pe_str pa_nil))) rfl) (nomark _)) (pw_or1 (pt_cmpR (op_neD hr.units) (pe_clX (cl_namedby T R mR tR M2.sorted) hr LamX.takes0 (by decide) (pa_cons (pv 1) pa_nil)) (pe_cl (cl_lnames T M M2) hr (by decide) (pa_cons (pv 1) pa_nil)) (nomark _))))) (pss_one (ps_ret pe_bl)) pss_nil)
      (pss_cons (ps_if (pt_cmpR (op_neD hr.units) (pe_lc (own := [("_law_hand", 3)]) (g := gName 3) (tt := tYes) (te := tCallS (spTime K C Ch) (WE fun _ _ _ _ => False) (tCons (tVar 1) (tCons (tVar 3) tNil))) rfl sc_dright.nd (pi_range1 rfl M2.range (pa_cons pe_int pa_nil)) (blkOk_by (own := [("_law_hand", 3)]) (N := [("_law_source" : Str), ("_law_deed" : Str), ("_law_odd_here" : Str), ("_law_hand" : Str)]) (sc := defScope (top 75)) (by decide +kernel)) (fun _ _ _ _ _ => pg_name (i := 3) sc_dright.nd rfl (Or.inl rfl)) (fun _ _ _ _ _ => pts_nil) (fun _ _ _ _ _ => (pe_clX (cl_time T R R') hr LamX.takes0 (by decide) (pa_cons (pv 1) (pa_cons (pv 3) pa_nil))))) (pe_callTy call_list_of (by rfl) M2.list (by decide +kernel) (pa_cons (pe_ix ix_tup (pv 1) pe_int (fun _ _ => rfl)) pa_nil)) (nomark _)) (pss_one (ps_ret pe_bl)) pss_nil)
      (pss_cons (ps_set (i := 2) sc_dright.nd rfl (Or.inr rfl) (pe_cl (cl_one T M) hr (by decide) (pa_cons (pv 0) (pa_cons (li_list (ds := [.int (-1), .int 4, .none, .bool true, .str "0"]) (las_cons li_neg (las_cons li_int (las_cons li_non (las_cons li_bl (las_cons (li_str (by decide +kernel)) las_nil))))) (by decide)) pa_nil))))
      (pss_one (ps_ret (pe_cmpR (op_eqTT hr.units) (pe_caught_time' T R R' Ca M2.repr Dg hgd hr TB hmT hu) (pe_lst (pa_cons pe_str (pa_cons (pe_callB (call_reprQ hgd hr.units) (by rfl) M2.repr (by decide +kernel) (pa_cons (pv 2) pa_nil)) pa_nil))) (nomark _))))))), ?_⟩
    have noD : ∀ {q : Prop}, deedD d = false → q := fun e => by
      rw [hD] at e
      cases e
    have hd := hd0.to (grd_in p H)
    refine ⟨_, rfl, v, d, rfl, hd, fun _ H1 S1 => ?_, fun e => noD e⟩
    have hd1 := hd.to S1
    have hdF := hD
    obtain ⟨t, j, e0, e1, e2, e3, x, r, rfl, ht, hj, hk, hb⟩ := deed_shape hdF
    obtain ⟨pa, xs, ub, rfl, hxs, i2, qb⟩ := hd1.item (i := 2) rfl
    obtain ⟨pb, ys, u0, rfl, hys, j0, q0⟩ := qb.item (i := 0) rfl
    cases q0
    refine ⟨_, rfl, pa, xs, _, _, rfl, rfl, hxs, i2, pb, ys, _, _, rfl, rfl, hys, j0, (by show 2 ≤ sizeLine; rw [sizeLine_eq]; decide), fun q2 n2 => ⟨q2, _, rfl, .inl (SqL.of upd_same), rfl, rfl, rfl, _, rfl, ?_⟩⟩
    have S2 := S1.trans (K0.same_upd (o := .lst [.str "undo", .str "redo"]) n2)
    generalize upd H1 q2 (.lst [.str "undo", .str "redo"]) = H2 at S2 ⊢
    have em : (!decide (V.bl (markD (.tuple [.tuple [.int t, .int j], .tuple [e0, e1, e2, e3], .tuple (.str x :: r)])) = V.bl (inV (.str x) [.str "undo", .str "redo"]))) = false := by
      rw [in_marks]
      show (!decide (V.bl (decide (x = "undo" ∨ x = "redo")) = V.bl (decide (x = "undo" ∨ x = "redo")))) = false
      rw [decide_eq_true rfl]
      rfl
    show if (!decide (V.bl (markD (.tuple [.tuple [.int t, .int j], .tuple [e0, e1, e2, e3], .tuple (.str x :: r)])) = V.bl (inV (.str x) [.str "undo", .str "redo"]))) = true then _ else _
    rw [em]
    refine iteF ⟨_, rfl, _, _, rfl, hd.to S2, fun _ p3 us3 ks3 H3 S3 h3 d3 o3 m3 => ?_, fun e => noD e⟩
    refine ⟨_, rfl, _, _, rfl, (hd.to S2).to S3, hD, fun p4 us4 ks4 H4 S4 h4 d4 o4 m4 => ?_⟩
    have ek : ks3 = ks4 := keys_unique o3 o4 m3 m4
    subst ek
    have two : ∀ k ∈ ks3, ∃ a b : Int, k = [a, b] := fun k hk => keys_two hD k ((m3 k).mp hk)
    have shp := pairs_shaped two
    refine ⟨.list (ks3.map pairD), .list (ks3.map pairD), DQ.dp _ _ (pairs_nodict ks3) (.lst (SqL.of (S4 _ _ h3)) (d3.to S4)), DQ.dp _ _ (pairs_nodict ks3) (.lst (SqL.of h4) d4), shp, shp, _, rfl, ?_⟩
    rw [K0.eqv_shaped shp]
    refine iteF ?_
    have S04 := (S2.trans S3).trans S4
    have hd4 := hd.to S04
    have hints := hk
    simp only [List.all_cons, List.all_nil, Bool.and_true, Bool.and_eq_true] at hints
    obtain ⟨k0, k1, k2, k3⟩ := hints
    obtain ⟨s0, rfl, z0⟩ := from_int k0
    obtain ⟨s1, rfl, z1⟩ := from_int k1
    obtain ⟨s2, rfl, z2⟩ := from_int k2
    obtain ⟨s3, rfl, z3⟩ := from_int k3
    obtain ⟨pa', xs', uc, epa, hxs', i1, qc⟩ := hd4.item (i := 1) rfl
    cases epa
    obtain ⟨pc, zs, rfl, hpc⟩ : ∃ pc zs, uc = .ref pc ∧ SqT K H4 pc [.int s0, .int s1, .int s2, .int s3] := by
      cases qc with
      | tup g1 g2 =>
        cases g2 with
        | cons g3 g4 =>
          cases g4 with
          | cons g5 g6 =>
            cases g6 with
            | cons g7 g8 =>
              cases g8 with
              | cons g9 g10 =>
                cases g3
                cases g5
                cases g7
                cases g9
                cases g10
                exact ⟨_, (), rfl, g1⟩
    refine ⟨_, rfl, by decide, by decide, fun Dd nD => lc_funRG (n := 4) (fun n => .int ([s0, s1, s2, s3].getD n 0)) nD (by decide) (fun _ => rfl) (fun n J QQ hn SJ q5 => ?_) (fun J SJ eJ => ?_)⟩
    · have hn4 : fromD 0 3 (.int (0 + (n : Int))) = true := by
        show (decide (0 ≤ 0 + (n : Int)) && decide (0 + (n : Int) ≤ 3)) = true
        rw [decide_eq_true (by omega), decide_eq_true (by omega)]
        rfl
      refine ⟨_, rfl, _, rfl, _, _, _, _, rfl, hd4.to SJ, .int _, fun _ => ⟨fun _ H' y S' j' ej hy => ?_, fun e => ?_⟩, fun e => noD e⟩
      · cases ej
        have ey : y = .int ([s0, s1, s2, s3].getD n 0) := by
          have z : ∀ m : Int, DQ K H' y (.int m) → y = .int m := fun m q => by
            cases q
            rfl
          refine z _ ?_
          obtain rfl | rfl | rfl | rfl : n = 0 ∨ n = 1 ∨ n = 2 ∨ n = 3 := by omega
          · exact hy
          · exact hy
          · exact hy
          · exact hy
        rw [ey]
        exact q5 H' S'
      · rw [hn4] at e
        cases e
    · have hpcJ := K0.seqT_same SJ hpc
      refine ⟨_, rfl, pa, xs', _, _, rfl, rfl, K0.seqT_same SJ hxs', i1, pc, _, rfl, .inr hpcJ, fun q6 n6 => ?_⟩
      have S6 := K0.same_upd (o := .lst [.int s0, .int s1, .int s2, .int s3]) n6
      have sh4 : SeqAt.shaped (.list [.int s0, .int s1, .int s2, .int s3]) = true := four_ints fun n => [s0, s1, s2, s3].getD n 0
      refine ⟨.list [.int s0, .int s1, .int s2, .int s3], .list [.int s0, .int s1, .int s2, .int s3], .lst (SqL.of (S6 _ _ eJ)) (.cons (.int _) (.cons (.int _) (.cons (.int _) (.cons (.int _) .nil)))), .lst (SqL.of upd_same) (.cons (.int _) (.cons (.int _) (.cons (.int _) (.cons (.int _) .nil)))), sh4, sh4, _, rfl, ?_⟩
      rw [K0.eqv_shaped sh4]
      refine iteF ?_
      have K6 := ((Kp.refl src tabs).same (S04.trans SJ)).same S6
      have hd6 := hd.to ((S04.trans SJ).trans S6)
      generalize upd J q6 (.lst [.int s0, .int s1, .int s2, .int s3]) = H6 at K6 hd6 ⊢
      refine ⟨_, rfl, fun H7 q7 v7 S7 n7 e7 d7 => one_lit (E := E0) K6.s S7 n7 e7 d7 (by decide) (by decide) fun H8 u8 x8 h8 b8 q8 => ?_⟩
      have K8 := K6.bt b8
      have hd8 := (hd0.to K8.g).to (grd_in p H8)
      have hx8 := q8.to (hid_same p H8)
      obtain ⟨sh8, nf8⟩ := oddT_shows h8 hx8
      refine ⟨K8.t, fun H9 ex9 t9 => ?_⟩
      have K9 := K8.ext ex9 t9
      have hd9 := (hd0.to K9.g).to (grd_in p H9)
      have hx9 := ((q8.grd).to (grd_ext ex9)).to (grd_in p H9)
      refine ⟨_, rfl, _, rfl, _, _, _, _, rfl, hd9, hx9, fun _ => ⟨fun e => ?_, fun _ H10 dd S10 h10 => ?_⟩, fun e => noD e⟩
      · rw [nf8] at e
        cases e
      · have e8 : Ch = cs 8 := by
          have := Ca.mg 8 "NoHand" rfl
          rw [R'.mg] at this
          cases this
          rfl
        have K10 := K9.same S10
        have sh10 := (oddT_shows h8 (hx9.to S10)).1
        refine ⟨8, "hand", dd, u8, x8, .inr ⟨rfl, rfl⟩, by rw [e8], rfl, h10, sh10, fun p11 n11 => ?_⟩
        have S11 := K0.same_upd (o := .lst [.str "hand", .str x8.shown]) n11
        have K11 := K10.same S11
        have f11 := @upd_same H10 p11 (.lst [.str "hand", .str x8.shown])
        have sh11 := sh10.to S11
        generalize upd H10 p11 (.lst [.str "hand", .str x8.shown]) = H11 at K11 f11 sh11 ⊢
        refine ⟨_, rfl, _, _, rfl, sh11.dq, sh11.nl, sh11.sh, sh11.dp, sh11.sz, (by show 2 ≤ sizeLine; rw [sizeLine_eq]; decide), fun p12 n12 => ?_⟩
        have S12 := K0.same_upd (o := .lst [.str "hand", .str x8.shown]) n12
        exact ⟨p11, p12, "hand", x8.shown, rfl, rfl, SqL.of (S12 _ _ f11), SqL.of upd_same, k _ (K11.same S12)⟩
end
end K1
set_option maxHeartbeats 8000000
namespace K1
open PySem L2 LamX
abbrev N76 : List Str := ["_law_script", "_law_k", "_law_source", "_law_deed", "_law_bents", "_law_value"]
theorem sc_law : FnScope N76 ["_law_script"] (defScope (top 76)) := ⟨rfl, rfl, rfl, by decide +kernel, rfl, by decide +kernel, by decide +kernel⟩
def forB : Stmt → List Stmt
  | .For (body := b) .. => b
  | _ => []
def ifB : Stmt → List Stmt
  | .If (body := b) .. => b
  | _ => []
def nth (l : List Stmt) (i : Nat) : Stmt := l.getD i (.Pass ⟨0, 0, 0, 0⟩)
def cmpL : Stmt → Expr
  | .If (.Compare l _ _ _) _ _ _ => l
  | _ => .Constant .none 0 ⟨0, 0, 0, 0⟩
def s76 : Stmt := nth (forB (nth (forB (nth (forB (nth (defBody (top 76)) 0)) 1)) 3)) 1
def eL76a : Expr := cmpL (nth (ifB s76) 0)
def eL76b : Expr := cmpL (nth (ifB s76) 1)
/-- what repr tells, wherever it stands -/
def Gd (d : PyData) : Prop := ∀ (K : PySem.W.Frag) (H : Hp) (v : V), DQ K H v d → Shows K H v d
theorem gd_nice {d : PyData} {k W : Nat} (n : Nice k W d) (hk : k ≤ 8) (hW : W ≤ 2 ^ 20) (p : d.hasDict = true → noList d = true) : Gd d := fun _ _ _ h => shows_of h n hk hW p
/-- lists within are of ints -/
def numsD (d : PyData) : Bool := match d with
  | .int _ => true
  | _ => false
mutual
def flatL : PyData → Bool
  | .list ds => ds.all numsD
  | .tuple ds => flatLs ds
  | _ => true
def flatLs : List PyData → Bool
  | [] => true
  | d :: ds => flatL d && flatLs ds
end
theorem flatLs_of : ∀ {ds : List PyData}, (∀ d ∈ ds, flatL d = true) → flatLs ds = true
  | [], _ => rfl
  | d :: ds, h => by
    show (flatL d && flatLs ds) = true
    rw [h d List.mem_cons_self, flatLs_of fun e he => h e (List.mem_cons_of_mem _ he)]
    rfl
mutual
theorem pure_flat : ∀ (d : PyData), noList d = true → flatL d = true
  | .none, _ => rfl
  | .bool _, _ => rfl
  | .int _, _ => rfl
  | .str _, _ => rfl
  | .list _, h => by cases h
  | .tuple ds, h => pure_flats ds h
  | .dict _, _ => rfl
theorem pure_flats : ∀ (ds : List PyData), noListAll ds = true → flatLs ds = true
  | [], _ => rfl
  | d :: ds, h => by
    have z : (noList d && noListAll ds) = true := h
    rw [Bool.and_eq_true] at z
    show (flatL d && flatLs ds) = true
    rw [pure_flat d z.1, pure_flats ds z.2]
    rfl
end
theorem odd_flat : oddL.all flatL = true := by decide +kernel
theorem bent_flat {ds es : List PyData} (b : Bent ds es) (h : ∀ d ∈ ds, Pure d) : flatL (.tuple es) = true := by
  obtain ⟨⟨o, ho, all⟩, _⟩ := b
  refine flatLs_of fun d hd => ?_
  rcases all d hd with z | z
  · exact pure_flat d (h d z).2
  · rw [z]
    exact List.all_eq_true.mp odd_flat o ho
mutual
/-- such data is not the list of things at q -/
theorem dq_avoid {K : PySem.W.Frag} {G : Hp} {q r : Addr} {rest : List V} (hq : G q = some (.lst (.ref r :: rest))) : ∀ (d : PyData) (v : V), flatL d = true → DQ K G v d → DQ K (hid q G) v d
  | .none, _, _, h => by
    cases h
    exact .non
  | .bool b, _, _, h => by
    cases h
    exact .bl b
  | .int i, _, _, h => by
    cases h
    exact .int i
  | .str x, _, _, h => by
    cases h with
    | str _ h => exact .str x h
  | .list ds, _, f, h => by
    cases h with
    | @lst a xs _ h1 h2 =>
      have ne : ∀ u : HO, G a = some u → (u = .lst xs ∨ ∃ o, u = .frz o (.lst xs)) → a ≠ q := fun u e hu z => by
        rw [z, hq] at e
        cases e
        rcases hu with y | ⟨o, y⟩
        · cases y
          cases h2 with
          | cons g1 g2 =>
            cases g1 with
            | lst _ _ => cases f
            | tup _ _ => cases f
            | dct _ => cases f
        · cases y
      have keep : DQs K (hid q G) xs ds := by
        have all : ∀ (ds : List PyData) (xs : List V), ds.all numsD = true → DQs K G xs ds → DQs K (hid q G) xs ds := by
          intro ds
          induction ds with
          | nil =>
            intro xs _ h
            cases h
            exact .nil
          | cons d ds ih =>
            intro xs f h
            rw [List.all_cons, Bool.and_eq_true] at f
            cases h with
            | cons g1 g2 =>
              refine .cons ?_ (ih _ f.2 g2)
              cases d with
              | int i =>
                cases g1
                exact .int i
              | _ => cases f.1
        exact all ds xs f h2
      refine .lst ?_ keep
      rcases h1 with (h | ⟨o, h⟩) | h
      · exact .inl (.inl (by rw [hid_ne (ne _ h (.inl rfl))]; exact h))
      · exact .inl (.inr ⟨o, by rw [hid_ne (ne _ h (.inr ⟨o, rfl⟩))]; exact h⟩)
      · exact .inr h
  | .tuple ds, _, f, h => by
    cases h with
    | tup h1 h2 =>
      refine .tup ?_ (dqs_avoid hq ds _ f h2)
      rcases h1 with (h | ⟨o, h⟩) | h
      · exact .inl (.inl (by rw [hid_ne (ne_of h hq (by intro z; cases z))]; exact h))
      · exact .inl (.inr ⟨o, by rw [hid_ne (ne_of h hq (by intro z; cases z))]; exact h⟩)
      · exact .inr h
  | .dict [], _, _, h => by
    cases h with
    | dct h => exact .dct (by rw [hid_ne (ne_of h hq (by intro z; cases z))]; exact h)
  | .dict (_ :: _), _, _, h => by cases h
theorem dqs_avoid {K : PySem.W.Frag} {G : Hp} {q r : Addr} {rest : List V} (hq : G q = some (.lst (.ref r :: rest))) : ∀ (ds : List PyData) (vs : List V), flatLs ds = true → DQs K G vs ds → DQs K (hid q G) vs ds
  | [], _, _, h => by
    cases h
    exact .nil
  | d :: ds, _, f, h => by
    have z : (flatL d && flatLs ds) = true := f
    rw [Bool.and_eq_true] at z
    cases h with
    | cons h1 h2 => exact .cons (dq_avoid hq d _ z.1 h1) (dqs_avoid hq ds _ z.2 h2)
end
/-- a right deed, in its parts, all that is asked of them -/
theorem deed_kit {d : PyData} (h : deedD d = true) : ∃ s k x l, d = .tuple [s, .tuple k, .tuple (.str x :: l)] ∧ k.length = 4 ∧ bodyR x l = true ∧ (Nice 2 160 s ∧ Pure s) ∧ (∀ e ∈ k, Nice 2 60 e ∧ Pure e) ∧ (Nice 2 160 (.tuple k) ∧ Pure (.tuple k)) ∧ (∀ e ∈ PyData.str x :: l, Nice 2 60 e ∧ Pure e) ∧ (Nice 2 160 (.tuple (.str x :: l)) ∧ Pure (.tuple (.str x :: l))) ∧ l.length ≤ 4 := by
  obtain ⟨t, j, a, b, c, e, x, l, rfl, ht, hj, hk, hb⟩ := deed_shape h
  have hs : thingD (.tuple [.int t, .int j]) = true := stamp_thing (by
    rw [stamp_of]
    show ((decide (1 ≤ t) && decide (t ≤ 999)) && (decide (0 ≤ j) && decide (j ≤ 3))) = true
    rw [decide_eq_true ht.1, decide_eq_true ht.2, decide_eq_true hj.1, decide_eq_true hj.2]
    rfl)
  have nk : ∀ y ∈ [a, b, c, e], Nice 1 30 y ∧ Pure y := fun y hy => by
    have z := List.all_eq_true.mp hk y hy
    exact ⟨nice_from z (by decide) (by omega), pure_from z⟩
  obtain ⟨nb, lb⟩ := nice_body hb
  have pb := pure_body hb
  refine ⟨_, _, x, l, rfl, rfl, hb, ⟨(nice_thing hs).mono (by decide) (by decide), pure_thing hs⟩, fun y hy => ⟨(nk y hy).1.mono (by decide) (by decide), (nk y hy).2⟩, ⟨(Nice.tuple fun y hy => (nk y hy).1).mono (by decide) (by show 4 * (30 + 1) ≤ 160; decide), Pure.tuple fun y hy => (nk y hy).2⟩, fun y hy => ⟨(nb y hy).mono (by decide) (by decide), pb y hy⟩, ⟨(Nice.tuple nb).mono (by decide) (by show (l.length + 1) * (30 + 1) ≤ 160; omega), Pure.tuple pb⟩, lb⟩
/-- three parts, the one in the middle or at the end bent -/
theorem gd_three {a b c : PyData} (n : ∀ e ∈ [a, b, c], Nice 3 1000 e) (p : ∀ e ∈ [a, b, c], e.hasDict = true → ∀ f ∈ [a, b, c], noList f = true) : Gd (.tuple [a, b, c]) := by
  refine gd_nice (Nice.tuple n) (by decide) (by show 3 * (1000 + 1) ≤ 2 ^ 20; decide) fun h => ?_
  have z : (a.hasDict || (b.hasDict || (c.hasDict || false))) = true := h
  have y : ∃ e ∈ [a, b, c], e.hasDict = true := by
    rw [Bool.or_false] at z
    cases ea : a.hasDict with
    | true => exact ⟨a, by simp, ea⟩
    | false =>
      cases eb : b.hasDict with
      | true => exact ⟨b, by simp, eb⟩
      | false =>
        rw [ea, eb] at z
        exact ⟨c, by simp, z⟩
  obtain ⟨e, he, hd⟩ := y
  have q := p e he hd
  show (noList a && (noList b && (noList c && true))) = true
  rw [q a (by simp), q b (by simp), q c (by simp)]
  rfl
theorem gd_bent {ds es : List PyData} {W : Nat} (b : Bent ds es) (n : ∀ d ∈ ds, Nice 2 W d) (p : ∀ d ∈ ds, Pure d) (hW : 60 ≤ W) (hb : (ds.length + 1) * (W + 1) ≤ 1000) : Nice 3 1000 (.tuple es) ∧ ((PyData.tuple es).hasDict = true → noList (.tuple es) = true) := by
  obtain ⟨h1, h2⟩ := bent_nice b n p (by decide) hW
  exact ⟨h1.mono (Nat.le_refl _) hb, h2⟩
/-- the slots that stay -/
structure Sl (σ : L2.St) (a p : Addr) : Prop where
  len : σ.length = 6
  s0 : σ[0]? = some (some (V.ref a))
  s2 : σ[2]? = some (some (V.ref p))
theorem Sl.set {σ : L2.St} {a p : Addr} (h : Sl σ a p) {i : Nat} {v : Option V} (h0 : i ≠ 0) (h2 : i ≠ 2) : Sl (List.set σ i v) a p := ⟨by rw [List.length_set]; exact h.len, (List.getElem?_set_ne h0).trans h.s0, (List.getElem?_set_ne h2).trans h.s2⟩
def spLaw (K : PySem.W.Frag) (Ts : List (Addr × Str)) : Sp := fun vs H Q _ => ∃ (a : Addr) (ns : List Int), vs = [.ref a] ∧ SqL K H a (ns.map V.int) ∧ Tabs Ts H ∧ ∀ H', Q (.bl true) H'
section
variable {P : Program} {w : World} {K : PySem.W.Frag} {mg : Str → Option Value} {base : Heap}
theorem pe_law_mark {f g c tb C Ch fI fI' : Addr} {cs : Nat → Addr} {fdg : FuncData} {Ts : List (Addr × Str)} {A : Around} {outer : List Env} {s : Shared} {H : Hp} {E : XK} (T : All K mg) (R : Er K mg "NoDeed" C fI) (R' : Er K mg "NoHand" Ch fI') (Ca : Cau K mg cs) (hrep : mg "repr" = none)
    (Dg : Dn K mg "_law_caught" ["_law_call"] (top 63) g fdg) (hgd : A.guards = some []) (hr : Room 16 (A.deeper (PyProof.Rows.envOfC "law" (defScope (top 76)) s.heap.objs.size f (.ref c)))) (TB : TabB base mg c tb)
    (hmT : (tb, ("law.<locals>.<lambda>" : Str)) ∈ Ts) (hu : ∀ p ∈ Ts, p.1 = tb → p.2 = ("law.<locals>.<lambda>" : Str)) :
    PE (cxOf CX0 P w K mg base N76 "law" (defScope (top 76)) f (.ref c) A outer s H E).nox eL76a (tLam Ts (TTc K cs) (fun E' => tCallS (spMark K C) (fun _ => E') (tCons (tVar 5) tNil))) := by
  obtain ⟨oc, od, kV, doc, pm, an, cdv, ct, osl, rfl, lk, hcd⟩ := Dg.fn.ex
  refine pe_lamcall (X := (cxOf CX0 P w K mg base N76 "law" (defScope (top 76)) f (.ref c) A outer s H E).nox) (k := 12) (T := Ts) (by rfl) Dg.mg Dg.fn.kp lk hcd Dg.bn sc_caught rfl (.inl rfl) ?_ TB rfl hmT hu (hr.mono (by decide)) (lamS_by (sc := defScope (top 76)) (by decide +kernel)) rfl (fun _ _ _ _ _ => by rfl) (fun A' outer' s' H' E' f' c' hr' => ?_)
  · exact caught_gives Ca hgd (by have := hr.un; show A.units + 3 + 80 < cLine; have h2 : (A.deeper (PyProof.Rows.envOfC "law" (defScope (top 76)) s.heap.objs.size f (.ref c))).units = A.units + 3 := rfl; omega) hrep
  · exact pe_clX (cl_mark T R) hr' (takes_of rfl rfl rfl rfl) (by decide) (pa_cons (pv 5) pa_nil)
theorem pe_law_time {f g c tb C Ch fI fI' : Addr} {cs : Nat → Addr} {fdg : FuncData} {Ts : List (Addr × Str)} {A : Around} {outer : List Env} {s : Shared} {H : Hp} {E : XK} (T : All K mg) (R : Er K mg "NoDeed" C fI) (R' : Er K mg "NoHand" Ch fI') (Ca : Cau K mg cs) (hrep : mg "repr" = none)
    (Dg : Dn K mg "_law_caught" ["_law_call"] (top 63) g fdg) (hgd : A.guards = some []) (hr : Room 16 (A.deeper (PyProof.Rows.envOfC "law" (defScope (top 76)) s.heap.objs.size f (.ref c)))) (TB : TabB base mg c tb)
    (hmT : (tb, ("law.<locals>.<lambda>" : Str)) ∈ Ts) (hu : ∀ p ∈ Ts, p.1 = tb → p.2 = ("law.<locals>.<lambda>" : Str)) :
    PE (cxOf CX0 P w K mg base N76 "law" (defScope (top 76)) f (.ref c) A outer s H E).nox eL76b (tLam Ts (TTc K cs) (fun E' => tCallS (spTime K C Ch) (fun _ => E') (tCons (tVar 5) (tCons (tC .non) tNil)))) := by
  obtain ⟨oc, od, kV, doc, pm, an, cdv, ct, osl, rfl, lk, hcd⟩ := Dg.fn.ex
  refine pe_lamcall (X := (cxOf CX0 P w K mg base N76 "law" (defScope (top 76)) f (.ref c) A outer s H E).nox) (k := 12) (T := Ts) (by rfl) Dg.mg Dg.fn.kp lk hcd Dg.bn sc_caught rfl (.inl rfl) ?_ TB rfl hmT hu (hr.mono (by decide)) (lamS_by (sc := defScope (top 76)) (by decide +kernel)) rfl (fun _ _ _ _ _ => by rfl) (fun A' outer' s' H' E' f' c' hr' => ?_)
  · exact caught_gives Ca hgd (by have := hr.un; show A.units + 3 + 80 < cLine; have h2 : (A.deeper (PyProof.Rows.envOfC "law" (defScope (top 76)) s.heap.objs.size f (.ref c))).units = A.units + 3 := rfl; omega) hrep
  · exact pe_clX (cl_time T R R') hr' (takes_of rfl rfl rfl rfl) (by decide) (pa_cons (pv 5) (pa_cons pe_non pa_nil))
end
end K1
set_option maxHeartbeats 16000000
namespace K1
open PySem L2 LamX
section
variable {P : Program} {w : World} {K : PySem.W.Frag} {mg : Str → Option Value} {base : Heap}
theorem ok_law {f g c tb C Ch fI fI' aR : Addr} {cs : Nat → Addr} {fd fdg : FuncData} {Ts : List (Addr × Str)} (T : All K mg) (M : Nms mg) (M2 : Nms2 mg) (N2 : Nm2 mg) (R : Er K mg "NoDeed" C fI) (R' : Er K mg "NoHand" Ch fI') (Ca : Cau K mg cs) (DR : ClG P w K mg base 15 "_law_deed_right" ["_law_source", "_law_deed"] (spDR K Ts))
    (Dg : Dn K mg "_law_caught" ["_law_call"] (top 63) g fdg) (F : FunC K "law" "law" (top 76) f fd c) (TB : TabB base mg c tb)
    (hmT : (tb, ("law.<locals>.<lambda>" : Str)) ∈ Ts) (hu : ∀ p ∈ Ts, p.1 = tb → p.2 = ("law.<locals>.<lambda>" : Str)) : FnG P w K mg base 17 f fd ["_law_script"] (spLaw K Ts) := by
  refine okGC F sc_law (fun vs H Q E h => ?_) (fun A outer s H vs Q E hgd hr h => ?_)
  · obtain ⟨a, ns, rfl, _⟩ := h
    rfl
  · obtain ⟨a, ns, rfl, ha, tabs, k⟩ := h
    refine ⟨_, (pss_cons (ps_for PassesOwn.never rfl (pi_list (pe_cl (cl_rounds T N2) hr (by decide) (pa_cons (pv 0) pa_nil))) (pg_name (i := 1) sc_law.nd rfl (Or.inl rfl)) (pss_cons (ps_set (i := 2) sc_law.nd rfl (Or.inl rfl) (pe_cl (cl_pool T M) hr (by decide) (pa_cons (pv 0) (pa_cons (pv 1) pa_nil))))
      (pss_one (ps_for PassesOwn.never rfl (pi_list (pe_ix ix_list (pe_cl (cl_drawn T M M2) hr (by decide) (pa_cons (pv 2) (pa_cons pe_int (pa_cons pe_int pa_nil)))) pe_int (fun _ _ => rfl))) (pg_name (i := 3) sc_law.nd rfl (Or.inl rfl)) (pss_cons (ps_if (PW.pt (pw_or (pt_not (pt_val (pe_clG (cl_vright T M2.repr) hgd hr (by decide) (pa_cons (pv 3) pa_nil)))) (pw_or (pt_not (pt_val (pe_clG (cl_vright T M2.repr) hgd hr (by decide) (pa_cons (pe_ix ix_tup (pv 3) pe_int (fun _ _ => rfl)) pa_nil)))) (pw_or1 (pt_not (pt_val (pe_clG DR hgd hr (by decide) (pa_cons (pv 2) (pa_cons (pv 3) pa_nil))))))))) (pss_one (ps_ret pe_bl)) pss_nil)
      (pss_cons (ps_set (i := 4) sc_law.nd rfl (Or.inl rfl) (pe_lst (pa_cons (pe_cl (cl_bent T M) hr (by decide) (pa_cons (pv 2) (pa_cons (pv 3) pa_nil))) (pa_cons (pe_cl (cl_bent T M) hr (by decide) (pa_cons (pv 2) (pa_cons (pe_ix ix_tup (pv 3) pe_int (fun _ _ => rfl)) pa_nil))) pa_nil))))
      (pss_cons (ps_expr (pe_bm PySem.F.plainAttrs_list PySem.F.slot_list_append PySem.F.type_list_append mt_append (pv 4) (pa_cons (pe_tup (pa_cons (pe_ix ix_tup (pv 3) pe_int (fun _ _ => rfl)) (pa_cons (pe_ix ix_tup (pv 3) pe_int (fun _ _ => rfl)) (pa_cons (pe_cl (cl_bent T M) hr (by decide) (pa_cons (pv 2) (pa_cons (pe_ix ix_tup (pv 3) pe_int (fun _ _ => rfl)) pa_nil))) pa_nil)))) pa_nil)))
      (pss_one (ps_for PassesOwn.never rfl (pi_list (pe_op op_cat (pv 4) (pe_lst (pa_cons (pe_tup (pa_cons (pe_ix ix_tup (pv 3) pe_int (fun _ _ => rfl)) (pa_cons (pe_cl (cl_bent T M) hr (by decide) (pa_cons (pv 2) (pa_cons (pe_ix ix_tup (pv 3) pe_int (fun _ _ => rfl)) pa_nil))) (pa_cons (pe_ix ix_tup (pv 3) pe_int (fun _ _ => rfl)) pa_nil)))) (pa_cons (pe_callTy call_list_of (by rfl) M2.list (by decide +kernel) (pa_cons (pv 3) pa_nil)) (pa_cons (pe_cl (cl_odd T M) hr (by decide) (pa_cons (pv 2) pa_nil)) pa_nil)))))) (pg_name (i := 5) sc_law.nd rfl (Or.inr rfl)) (pss_cons (ps_if (pt_not (pt_val (pe_clG (cl_vright T M2.repr) hgd hr (by decide) (pa_cons (pv 5) pa_nil)))) (pss_one (ps_ret pe_bl)) pss_nil)
      (pss_one (ps_if (pt_not (pt_val (pe_cl (cl_adeed T) hr (by decide) (pa_cons (pv 5) pa_nil)))) (pss_cons (ps_if (pt_cmpR (op_neTT hr.units) (pe_law_mark T R R' Ca M2.repr Dg hgd hr TB hmT hu) (pe_lst (pa_cons pe_str (pa_cons (pe_callB (call_reprQ hgd hr.units) (by rfl) M2.repr (by decide +kernel) (pa_cons (pv 5) pa_nil)) pa_nil))) (nomark _)) (pss_one (ps_ret pe_bl)) pss_nil)
      (pss_one (ps_if (pt_cmpR (op_neTT hr.units) (pe_law_time T R R' Ca M2.repr Dg hgd hr TB hmT hu) (pe_lst (pa_cons pe_str (pa_cons (pe_callB (call_reprQ hgd hr.units) (by rfl) M2.repr (by decide +kernel) (pa_cons (pv 5) pa_nil)) pa_nil))) (nomark _)) (pss_one (ps_ret pe_bl)) pss_nil))) pss_nil))))))))))))
      (pss_one (ps_ret pe_bl))), ?_⟩
    refine ⟨_, rfl, a, _, rfl, ha, fun n ql hn nq => ⟨ql, rfl, ⟨_, SqL.of upd_same⟩, ?_⟩⟩
    have S1 := K0.same_upd (o := .lst ((List.range n).map fun i : Nat => V.int (i : Int))) nq
    have f1 := @upd_same H ql (.lst ((List.range n).map fun i : Nat => V.int (i : Int)))
    generalize upd H ql (.lst ((List.range n).map fun i : Nat => V.int (i : Int))) = H1 at S1 f1 ⊢
    have ha1 : SqL K (nt H1) a (ns.map V.int) := by
      rcases S1.seq ha with (h | ⟨o, h⟩) | h
      · exact .inl (.inl (nt_of h (fun ps z => by cases z)))
      · exact .inl (.inr ⟨o, nt_of h (fun ps z => by cases z)⟩)
      · exact .inr h
    have f1' := nt_of f1 (fun ps z => by cases z)
    refine for_list (K := K) (a := ql) (fun i σ J => σ.length = 6 ∧ σ[0]? = some (some (V.ref a)) ∧ Same (nt H1) (nt J) ∧ Tabs Ts J) ⟨rfl, rfl, Same.refl _, tabs_same tabs S1⟩ (fun i σ J _ ⟨_, _, s, _⟩ => SqL.of (nt_in J _ _ (s _ _ f1'))) ?_ (fun σ J _ => k J)
    rintro i x σ J hx ⟨l0, t0, s0, tb0⟩
    obtain ⟨hi, rfl⟩ : i < n ∧ x = .int (i : Int) := by
      rw [List.getElem?_map] at hx
      obtain ⟨y, hy, rfl⟩ := Option.map_eq_some_iff.mp hx
      obtain ⟨h1, h2⟩ := List.getElem?_eq_some_iff.mp hy
      rw [List.length_range] at h1
      rw [List.getElem_range] at h2
      exact ⟨h1, by rw [h2]⟩
    have haJ : SqL K J a (ns.map V.int) := (nt_in J).seq (s0.seq ha1)
    refine ⟨_, (List.getElem?_set_ne (by decide)).trans t0, _, List.getElem?_set_self (by omega), a, ns, i, rfl, by omega, haJ, fun p A0 B0 np b0 b1 => ?_⟩
    have S2 := K0.same_upd (o := .lst [.int A0, .int B0]) np
    have src2 : Src (upd J p (.lst [.int A0, .int B0])) p := ⟨A0, B0, upd_same, b0, b1⟩
    have tb2 := tabs_same tb0 S2
    have g2 : Same (nt J) (grd p (upd J p (.lst [.int A0, .int B0]))) := fun b u e => by
      obtain ⟨e1, e2⟩ := nt_at e
      exact grd_of (S2 _ _ e1) (ne_of_none e1 np) e2
    have sl2 : Sl ((σ.set 1 (some (V.int (i : Int)))).set 2 (some (V.ref p))) a p := ⟨by rw [List.length_set, List.length_set]; exact l0, (List.getElem?_set_ne (by decide)).trans ((List.getElem?_set_ne (by decide)).trans t0), List.getElem?_set_self (by rw [List.length_set]; omega)⟩
    show (_ : Prop)
    generalize upd J p (.lst [.int A0, .int B0]) = J2 at src2 tb2 g2 ⊢
    refine ⟨_, sl2.s2, p, rfl, src2, fun J3 wd Dl Rl ds rs m b3 W => ?_⟩
    obtain ⟨us, hD, Sm⟩ := W.sm
    have K3 := (Kp.refl src2 tb2).bt b3
    have hl3 : SqL K (grd p J3) Dl us := seq_grd Sm.seq
    have hq3 : DQs K (grd p J3) us ds := dqs_grd ds us Sm.all
    refine ⟨wd, _, _, _, rfl, rfl, SqL.of W.wl, atI_nat (j := 0) rfl, Dl, rfl, ⟨us, SqL.of hD⟩, ?_⟩
    refine for_list (K := K) (a := Dl) (xs := us) (fun i σ J => Sl σ a p ∧ Kp Ts p J3 J) ⟨sl2, Kp.refl K3.s K3.t⟩ (fun i σ J _ ⟨_, kp⟩ => (grd_in p J).seq (kp.g.seq hl3)) ?_ (fun σ J4 ⟨sl4, k4⟩ => ?_)
    · rintro i2 u σ2 J4 hu ⟨sl4, k4⟩
      obtain ⟨d, hd3, hq⟩ := hq3.at hu
      have hD := (W.right d (List.mem_of_getElem? hd3)).1
      obtain ⟨sd, kd, x, l, rfl, lk, hb, ns, nk, nkt, nb, nbt, lb⟩ := deed_kit hD
      have sl := sl4.set (i := 3) (v := some u) (by decide) (by decide)
      have h3 : (List.set σ2 3 (some u))[3]? = some (some u) := List.getElem?_set_self (by rw [sl4.len]; decide)
      have q4 := (hq.to k4.g)
      have at_ : ∀ J', Kp Ts p J4 J' → DQ K (grd p J') u (.tuple [sd, .tuple kd, .tuple (.str x :: l)]) := fun J' kp => q4.to kp.g
      have k44 := Kp.refl (Ts := Ts) (p := p) (H := J4) k4.s k4.t
      -- the deed itself
      refine ⟨_, h3, u, _, rfl, (at_ J4 k44).to (grd_in p J4), fun J5 S5 => ⟨_, rfl, iteF ?_⟩⟩
      have k5 := k44.same S5
      have q5 := (at_ J5 k5).to (grd_in p J5)
      obtain ⟨pa, xs, ub, rfl, ht5, i25, qb5⟩ := q5.item (i := 2) rfl
      refine ⟨_, h3, pa, xs, _, _, rfl, rfl, ht5, i25, ub, _, rfl, qb5, fun J6 S6 => ⟨_, rfl, iteF ?_⟩⟩
      have k6 := k5.same S6
      refine ⟨_, sl.s2, _, h3, p, _, _, rfl, k6.s, k6.t, at_ J6 k6, hD, fun J7 k7' => ⟨_, rfl, iteF ?_⟩⟩
      have k7 := k6.trans k7'
      -- its parts
      have q7 := at_ J7 k7
      obtain ⟨us0, us1, us2, ex, ht7, qs7, qk7, qb7⟩ : ∃ us0 us1 us2, True ∧ SqT K (grd p J7) pa [us0, us1, us2] ∧ DQ K (grd p J7) us0 sd ∧ DQ K (grd p J7) us1 (.tuple kd) ∧ DQ K (grd p J7) us2 (.tuple (.str x :: l)) := by
        cases q7 with
        | tup g1 g2 =>
          cases g2 with
          | cons g3 g4 =>
            cases g4 with
            | cons g5 g6 =>
              cases g6 with
              | cons g7 g8 =>
                cases g8
                exact ⟨_, _, _, trivial, g1, g3, g5, g7⟩
      have tH : ∀ {J'}, Bt p J7 J' → SqT K J' pa [us0, us1, us2] := fun {J'} b => K0.seqT_same ((grd_bt b).trans (grd_in p J')) ht7
      have sH : ∀ {J'}, Bt p J7 J' → DQ K (hid p J') us0 sd := fun {J'} b => qs7.to ((grd_bt b).trans (grd_hid p J'))
      have kH : ∀ {J'}, Bt p J7 J' → DQ K (hid p J') us1 (.tuple kd) := fun {J'} b => qk7.to ((grd_bt b).trans (grd_hid p J'))
      have bH : ∀ {J'}, Bt p J7 J' → DQ K (hid p J') us2 (.tuple (.str x :: l)) := fun {J'} b => qb7.to ((grd_bt b).trans (grd_hid p J'))
      have uH : ∀ {J'}, Bt p J7 J' → DQ K (hid p J') (.ref pa) (.tuple [sd, .tuple kd, .tuple (.str x :: l)]) := fun {J'} b => q7.to ((grd_bt b).trans (grd_hid p J'))
      have b7 := Bt.refl k7.s
      -- two bent ones
      refine ⟨_, sl.s2, _, h3, p, _, [sd, .tuple kd, .tuple (.str x :: l)], rfl, k7.s, uH b7, by show 0 < 3; decide, by show 3 ≤ 100; decide, fun J8 u1 es1 be1 b8 r8 => ?_⟩
      refine ⟨_, sl.s2, _, h3, pa, _, _, us2, rfl, rfl, tH b8, atI_nat (j := 2) rfl, p, us2, .str x :: l, rfl, b8.src, bH b8, Nat.succ_pos _, by show l.length + 1 ≤ 100; omega, fun J9 u2 es2 be2 b9' r9 => ⟨(by show 2 ≤ sizeLine; rw [sizeLine_eq]; decide), fun q6 n6 => ?_⟩⟩
      have b9 := b8.trans b9'
      have b10 := b9.new (o := .lst [u1, u2]) n6
      have ne6 := b9.ne n6
      have f10 := @upd_same J9 q6 (.lst [u1, u2])
      have bb10 : Bt p J9 (upd J9 q6 (.lst [u1, u2])) := (Bt.refl b9.src).new n6
      generalize upd J9 q6 (.lst [u1, u2]) = J10 at b10 f10 bb10 ⊢
      have sl5 := sl.set (i := 4) (v := some (V.ref q6)) (by decide) (by decide)
      have h3' : (List.set (List.set σ2 3 (some (V.ref pa))) 4 (some (V.ref q6)))[3]? = some (some (V.ref pa)) := (List.getElem?_set_ne (by decide)).trans h3
      have h4' : (List.set (List.set σ2 3 (some (V.ref pa))) 4 (some (V.ref q6)))[4]? = some (some (V.ref q6)) := List.getElem?_set_self (by rw [sl.len]; decide)
      refine ⟨_, h4', .inl ⟨rfl, _, SqL.of f10⟩, _, h3', pa, _, _, us0, rfl, rfl, tH b10, atI_nat (j := 0) rfl, _, h3', pa, _, _, us1, rfl, rfl, tH b10, atI_nat (j := 1) rfl, ?_⟩
      refine ⟨_, sl5.s2, _, h3', pa, _, _, us2, rfl, rfl, tH b10, atI_nat (j := 2) rfl, p, us2, .str x :: l, rfl, b10.src, bH b10, Nat.succ_pos _, by show l.length + 1 ≤ 100; omega, fun J11 u3 es3 be3 b11' r11 => ⟨(by show 3 ≤ sizeLine; rw [sizeLine_eq]; decide), fun q8 n8 => ?_⟩⟩
      have b11 := b10.trans b11'
      have f11 := b11'.at ne6 f10
      have b12 := b11.new (o := .tup [us0, us1, u3]) n8
      have ne8 := b11.ne n8
      have f12 := @upd_same J11 q8 (.tup [us0, us1, u3])
      have c12 : Same J11 (upd J11 q8 (.tup [us0, us1, u3])) := K0.same_upd n8
      have f6' : upd J11 q8 (.tup [us0, us1, u3]) q6 = some (.lst [u1, u2]) := c12 _ _ f11
      have b912 : Bt p J9 (upd J11 q8 (.tup [us0, us1, u3])) := (bb10.trans b11').new n8
      generalize upd J11 q8 (.tup [us0, us1, u3]) = J12 at b12 f12 c12 f6' b912 ⊢
      refine ⟨q6, _, _, rfl, rfl, f6', (by show 2 < sizeLine; rw [sizeLine_eq]; decide), ?_⟩
      -- one more in the list
      have b13 : Bt p J7 (upd J12 q6 (.lst ([u1, u2] ++ [.ref q8]))) := by
        have n67 : J7 q6 = none := by
          cases e : J7 q6 with
          | none => rfl
          | some o =>
            rw [b9.at ne6 e] at n6
            cases n6
        exact b12.over n67 ne6
      have b913 : Bt p J9 (upd J12 q6 (.lst ([u1, u2] ++ [.ref q8]))) := b912.over n6 ne6
      have f13 := @upd_same J12 q6 (.lst ([u1, u2] ++ [.ref q8]))
      have hide : Same (hid q6 (hid p J12)) (hid p (upd J12 q6 (.lst ([u1, u2] ++ [.ref q8])))) := fun b o e => by
        obtain ⟨e1, e2⟩ := hid_at e
        obtain ⟨e3, e4⟩ := hid_at e2
        rw [hid_ne e3, upd_ne e1]
        exact e4
      have n86 : q8 ≠ q6 := ne_of f12 f6' (by intro z; cases z)
      have f813 : upd J12 q6 (.lst ([u1, u2] ++ [.ref q8])) q8 = some (.tup [us0, us1, u3]) := (upd_ne n86).trans f12
      have r13a : DQ K (hid p (upd J12 q6 (.lst ([u1, u2] ++ [.ref q8])))) u1 (.tuple es1) := (r8.to b9'.same).to b913.same
      have r13b : DQ K (hid p (upd J12 q6 (.lst ([u1, u2] ++ [.ref q8])))) u2 (.tuple es2) := r9.to b913.same
      have r13c : DQ K (hid p (upd J12 q6 (.lst ([u1, u2] ++ [.ref q8])))) u3 (.tuple es3) := by
        obtain ⟨r, hr⟩ : ∃ r, u1 = .ref r := by
          cases r8 with
          | tup _ _ => exact ⟨_, rfl⟩
        have fq : hid p J11 q6 = some (.lst (.ref r :: [u2])) := by
          rw [hid_ne ne6, f11, hr]
        have z := dq_avoid fq _ _ (bent_flat be3 fun e he => (nb e he).2) r11
        exact (z.to (hid_mono (hid_mono c12))).to hide
      have r13 : DQ K (hid p (upd J12 q6 (.lst ([u1, u2] ++ [.ref q8])))) (.ref q8) (.tuple [sd, .tuple kd, .tuple es3]) := .tup (.inl (.inl (by rw [hid_ne ne8]; exact f813))) (.cons (sH b13) (.cons (kH b13) (.cons r13c .nil)))
      generalize upd J12 q6 (.lst ([u1, u2] ++ [.ref q8])) = J13 at b13 f13 r13a r13b r13 ⊢
      -- three more
      refine ⟨_, h4', _, h3', pa, _, _, us0, rfl, rfl, tH b13, atI_nat (j := 0) rfl, ?_⟩
      refine ⟨_, sl5.s2, _, h3', pa, _, _, us1, rfl, rfl, tH b13, atI_nat (j := 1) rfl, p, us1, kd, rfl, b13.src, kH b13, by omega, by omega, fun J14 u4 es4 be4 b14' r14 => ?_⟩
      have b14 := b13.trans b14'
      refine ⟨_, h3', pa, _, _, us2, rfl, rfl, tH b14, atI_nat (j := 2) rfl, (by show 3 ≤ sizeLine; rw [sizeLine_eq]; decide), fun q11 n11 => ?_⟩
      have b15 := b14.new (o := .tup [us0, u4, us2]) n11
      have ne11 := b14.ne n11
      have f15 := @upd_same J14 q11 (.tup [us0, u4, us2])
      have c15 : Bt p J14 (upd J14 q11 (.tup [us0, u4, us2])) := (Bt.refl b14.src).new n11
      have r15 : DQ K (hid p (upd J14 q11 (.tup [us0, u4, us2]))) (.ref q11) (.tuple [sd, .tuple es4, .tuple (.str x :: l)]) := .tup (.inl (.inl (by rw [hid_ne ne11]; exact f15))) (.cons (sH b15) (.cons (r14.to c15.same) (.cons (bH b15) .nil)))
      generalize upd J14 q11 (.tup [us0, u4, us2]) = J15 at b15 c15 r15 ⊢
      refine ⟨_, h3', pa, _, rfl, .inr (tH b15), fun q12 n12 => ?_⟩
      have b16 := b15.new (o := .lst [us0, us1, us2]) n12
      have ne12 := b15.ne n12
      have f16 := @upd_same J15 q12 (.lst [us0, us1, us2])
      have c16 : Bt p J15 (upd J15 q12 (.lst [us0, us1, us2])) := (Bt.refl b15.src).new n12
      have r16 : DQ K (hid p (upd J15 q12 (.lst [us0, us1, us2]))) (.ref q12) (.list [sd, .tuple kd, .tuple (.str x :: l)]) := .lst (SqL.of (by rw [hid_ne ne12]; exact f16)) (.cons (sH b16) (.cons (kH b16) (.cons (bH b16) .nil)))
      generalize upd J15 q12 (.lst [us0, us1, us2]) = J16 at b16 c16 r16 ⊢
      refine ⟨_, sl5.s2, p, rfl, b16.src, fun J17 u6 d6 hd6 b17' r17 => ⟨(by show 3 ≤ sizeLine; rw [sizeLine_eq]; decide), fun q14 n14 => ?_⟩⟩
      have b17 := b16.trans b17'
      have c1317 : Bt p J13 J17 := ((b14'.trans c15).trans c16).trans b17'
      have f17 := c1317.at ne6 f13
      have b18 := b17.new (o := .lst [.ref q11, .ref q12, u6]) n14
      have f18 : upd J17 q14 (.lst [.ref q11, .ref q12, u6]) q6 = some (.lst ([u1, u2] ++ [.ref q8])) := (upd_ne (ne_of_none f17 n14)).trans f17
      have c18 : Bt p J17 (upd J17 q14 (.lst [.ref q11, .ref q12, u6])) := (Bt.refl b17.src).new n14
      have g18 := @upd_same J17 q14 (.lst [.ref q11, .ref q12, u6])
      generalize upd J17 q14 (.lst [.ref q11, .ref q12, u6]) = J18 at b18 f18 c18 g18 ⊢
      refine ⟨q6, q14, _, _, rfl, rfl, f18, g18, (by show 6 ≤ sizeLine; rw [sizeLine_eq]; decide), fun q19 n19 => ?_⟩
      have b19 := b18.new (o := .lst (([u1, u2] ++ [.ref q8]) ++ [.ref q11, .ref q12, u6])) n19
      have ne19 := b18.ne n19
      have f19 := @upd_same J18 q19 (.lst (([u1, u2] ++ [.ref q8]) ++ [.ref q11, .ref q12, u6]))
      have c19 : Bt p J18 (upd J18 q19 (.lst (([u1, u2] ++ [.ref q8]) ++ [.ref q11, .ref q12, u6]))) := (Bt.refl b18.src).new n19
      generalize upd J18 q19 (.lst (([u1, u2] ++ [.ref q8]) ++ [.ref q11, .ref q12, u6])) = J19 at b19 f19 c19 ⊢
      have c1719 := c18.trans c19
      have c1319 := c1317.trans c1719
      have c1619 := b17'.trans c1719
      have c1519 := c16.trans c1619
      have all : DQs K (grd p J19) [u1, u2, .ref q8, .ref q11, .ref q12, u6] [.tuple es1, .tuple es2, .tuple [sd, .tuple kd, .tuple es3], .tuple [sd, .tuple es4, .tuple (.str x :: l)], .list [sd, .tuple kd, .tuple (.str x :: l)], d6] :=
        .cons (r13a.to c1319.same).grd (.cons (r13b.to c1319.same).grd (.cons (r13.to c1319.same).grd (.cons (r15.to c1519.same).grd (.cons (r16.to c1619.same).grd (.cons (r17.to c1719.same).grd .nil)))))
      have p3 : ∀ e ∈ [sd, .tuple kd, .tuple (.str x :: l)], Nice 2 160 e ∧ Pure e := fun e he => by
        rcases List.mem_cons.mp he with z | z
        · rw [z]
          exact ns
        · rcases List.mem_cons.mp z with z | z
          · rw [z]
            exact nkt
          · rw [List.mem_singleton.mp z]
            exact nbt
      have lsq : ([PyData.str x] ++ l).length = l.length + 1 := by rw [List.length_append, Nat.add_comm]; rfl
      have m1 := gd_bent be1 (fun e he => (p3 e he).1) (fun e he => (p3 e he).2) (by decide) (by show (3 + 1) * (160 + 1) ≤ 1000; decide)
      have m2 := gd_bent be2 (fun e he => (nb e he).1) (fun e he => (nb e he).2) (by decide) (by show (l.length + 1 + 1) * (60 + 1) ≤ 1000; omega)
      have m3 := gd_bent be3 (fun e he => (nb e he).1) (fun e he => (nb e he).2) (by decide) (by show (l.length + 1 + 1) * (60 + 1) ≤ 1000; omega)
      have m4 := gd_bent be4 (fun e he => (nk e he).1) (fun e he => (nk e he).2) (by decide) (by rw [lk]; decide)
      have up : ∀ {e : PyData}, Nice 2 160 e → Nice 3 1000 e := fun n => n.mono (by decide) (by decide)
      have good : ∀ e ∈ [PyData.tuple es1, .tuple es2, .tuple [sd, .tuple kd, .tuple es3], .tuple [sd, .tuple es4, .tuple (.str x :: l)], .list [sd, .tuple kd, .tuple (.str x :: l)], d6], Gd e := by
        intro e he
        simp only [List.mem_cons, List.not_mem_nil, or_false] at he
        rcases he with z | z | z | z | z | z
        · rw [z]
          exact gd_nice m1.1 (by decide) (by decide) m1.2
        · rw [z]
          exact gd_nice m2.1 (by decide) (by decide) m2.2
        · rw [z]
          refine gd_three (fun e he => ?_) (fun e he hd f hf => ?_)
          · simp only [List.mem_cons, List.not_mem_nil, or_false] at he
            rcases he with z | z | z
            · rw [z]
              exact up ns.1
            · rw [z]
              exact up nkt.1
            · rw [z]
              exact m3.1
          · simp only [List.mem_cons, List.not_mem_nil, or_false] at he hf
            rcases he with z | z | z
            · rw [z, ns.2.1] at hd
              cases hd
            · rw [z, nkt.2.1] at hd
              cases hd
            · rw [z] at hd
              rcases hf with y | y | y
              · rw [y]
                exact ns.2.2
              · rw [y]
                exact nkt.2.2
              · rw [y]
                exact m3.2 hd
        · rw [z]
          refine gd_three (fun e he => ?_) (fun e he hd f hf => ?_)
          · simp only [List.mem_cons, List.not_mem_nil, or_false] at he
            rcases he with z | z | z
            · rw [z]
              exact up ns.1
            · rw [z]
              exact m4.1
            · rw [z]
              exact up nbt.1
          · simp only [List.mem_cons, List.not_mem_nil, or_false] at he hf
            rcases he with z | z | z
            · rw [z, ns.2.1] at hd
              cases hd
            · rw [z] at hd
              rcases hf with y | y | y
              · rw [y]
                exact ns.2.2
              · rw [y]
                exact m4.2 hd
              · rw [y]
                exact nbt.2.2
            · rw [z, nbt.2.1] at hd
              cases hd
        · rw [z]
          refine gd_nice (Nice.list fun e he => (p3 e he).1) (by decide) (by show 3 * (160 + 1) ≤ 2 ^ 20; decide) fun h => ?_
          have y : (sd.hasDict || ((PyData.tuple kd).hasDict || ((PyData.tuple (.str x :: l)).hasDict || false))) = true := h
          rw [ns.2.1, nkt.2.1, nbt.2.1] at y
          cases y
        · rw [z]
          obtain ⟨n6, y6⟩ := odd_nice hd6
          exact gd_nice n6 (by decide) (by decide) y6
      have k19 : Kp Ts p J3 J19 := (k4.trans k7).bt b19
      refine ⟨q19, rfl, ⟨_, SqL.of f19⟩, ?_⟩
      have f19' := grd_of f19 ne19 (fun ps z => by cases z)
      refine for_list (K := K) (a := q19) (xs := [u1, u2, .ref q8, .ref q11, .ref q12, u6]) (fun i σ J => Sl σ a p ∧ Kp Ts p J19 J) ⟨sl5, Kp.refl k19.s k19.t⟩ (fun i σ J _ ⟨_, kp⟩ => SqL.of (grd_in p J _ _ (kp.g _ _ f19'))) ?_ (fun σ J ⟨sl6, k6'⟩ => ⟨sl6, k19.trans k6'⟩)
      rintro i3 v σ3 J20 hv ⟨sl6, k20⟩
      obtain ⟨e, he, hqe⟩ := all.at hv
      have ge := good e (List.mem_of_getElem? he)
      have sl7 := sl6.set (i := 5) (v := some v) (by decide) (by decide)
      have h5 : (List.set σ3 5 (some v))[5]? = some (some v) := List.getElem?_set_self (by rw [sl6.len]; decide)
      have vat : ∀ {J'}, Kp Ts p J19 J' → DQ K J' v e := fun {J'} kp => (hqe.to kp.g).to (grd_in p J')
      refine ⟨_, h5, v, e, rfl, vat k20, fun J21 S21 => ⟨_, rfl, iteF ?_⟩⟩
      have k21 := k20.same S21
      refine ⟨_, h5, v, e, rfl, vat k21, fun J22 S22 => ⟨_, rfl, ?_⟩⟩
      have k22 := k21.same S22
      cases ede : deedD e with
      | true => exact iteF ⟨sl7, k22⟩
      | false =>
        have noD : ∀ {q : Prop}, deedD e = true → q := fun z => by
          rw [ede] at z
          cases z
        have e4 : C = cs 4 := by
          have := Ca.mg 4 "NoDeed" rfl
          rw [R.mg] at this
          cases this
          rfl
        refine iteT ⟨k22.t, fun J23 ex23 t23 => ?_⟩
        have k23 := k22.ext ex23 t23
        refine ⟨_, h5, v, e, rfl, vat k23, fun z => noD z, fun _ J24 dd S24 h24 => ?_⟩
        have k24 := k23.same S24
        refine ⟨4, "deed", dd, v, e, .inl ⟨rfl, rfl⟩, by rw [e4], rfl, h24, ge K J24 v (vat k24), fun p25 n25 => ?_⟩
        have S25 := K0.same_upd (o := .lst [.str "deed", .str e.shown]) n25
        have k25 := k24.same S25
        have f25 := @upd_same J24 p25 (.lst [.str "deed", .str e.shown])
        generalize upd J24 p25 (.lst [.str "deed", .str e.shown]) = J25 at k25 f25 ⊢
        have sh25 := ge K J25 v (vat k25)
        refine ⟨_, h5, _, _, rfl, sh25.dq, sh25.nl, sh25.sh, sh25.dp, sh25.sz, (by show 2 ≤ sizeLine; rw [sizeLine_eq]; decide), fun p26 n26 => ?_⟩
        have S26 := K0.same_upd (o := .lst [.str "deed", .str e.shown]) n26
        have k26 := k25.same S26
        refine ⟨p25, p26, "deed", e.shown, rfl, rfl, SqL.of (S26 _ _ f25), SqL.of upd_same, _, rfl, iteF ?_⟩
        generalize upd J25 p26 (.lst [.str "deed", .str e.shown]) = J26 at k26 ⊢
        refine ⟨k26.t, fun J27 ex27 t27 => ?_⟩
        have k27 := k26.ext ex27 t27
        refine ⟨_, h5, v, .non, e, .none, rfl, vat k27, .non, fun z => noD z, fun _ J28 dd' S28 h28 => ?_⟩
        have k28 := k27.same S28
        refine ⟨4, "deed", dd', v, e, .inl ⟨rfl, rfl⟩, by rw [e4], rfl, h28, ge K J28 v (vat k28), fun p29 n29 => ?_⟩
        have S29 := K0.same_upd (o := .lst [.str "deed", .str e.shown]) n29
        have k29 := k28.same S29
        have f29 := @upd_same J28 p29 (.lst [.str "deed", .str e.shown])
        generalize upd J28 p29 (.lst [.str "deed", .str e.shown]) = J29 at k29 f29 ⊢
        have sh29 := ge K J29 v (vat k29)
        refine ⟨_, h5, _, _, rfl, sh29.dq, sh29.nl, sh29.sh, sh29.dp, sh29.sz, (by show 2 ≤ sizeLine; rw [sizeLine_eq]; decide), fun p30 n30 => ?_⟩
        have S30 := K0.same_upd (o := .lst [.str "deed", .str e.shown]) n30
        have k30 := k29.same S30
        exact ⟨p29, p30, "deed", e.shown, rfl, rfl, SqL.of (S30 _ _ f29), SqL.of upd_same, _, rfl, iteF ⟨sl7, k30⟩⟩
    · have g34 : Same (nt J) (nt J4) := fun b o e => by
        have e1 := g2 _ _ e
        have e2 := (K3.g.trans k4.g) _ _ e1
        obtain ⟨e3, e4⟩ := nt_at e2
        exact nt_of ((hid_at e3).2) e4
      exact ⟨sl4.len, sl4.s0, s0.trans g34, k4.t⟩
end
end K1
set_option maxHeartbeats 4000000
/-! the head's facts -/
namespace K1
open PySem L2 LamX
theorem dn_mk {K : PySem.W.Frag} {mg : Str → Option Value} {h : Heap} {x : Str} {ps : List Str} {st : Stmt} {g : Addr} {oc : Value} {od an : Option Addr} {osl : Array (Option Value)} {kV doc pm cdv ct : Value} (X : K.In h) (G : h.Ns mainGlobals mg) (a : PySem.W.nsIn K mainGlobals x = some (some (.ref g)))
    (l : K.lookup g = some ⟨oc, od, .func (PySem.W.fnOf x x (defArgs st) (defBody st) (defScope st) .none kV doc pm an cdv ct), osl⟩) (cc : PySem.W.codeIn K cdv x = true) (k : PySem.W.keepIn K (.ref g) = true)
    (b : ∀ (kV doc pm : Value) (an : Option Addr) (cdv ct : Value) (us : List Value), us.length = ps.length → bindArgs (PySem.W.fnOf x x (defArgs st) (defBody st) (defScope st) .none kV doc pm an cdv ct) ⟨us, []⟩ = pure (ps.zip us)) :
    ∃ g fd, Dn K mg x ps st g fd := by
  have F := fun_mk (st := st) l cc k
  exact ⟨_, _, F, F.binds b, PySem.W.mg_of X G a⟩
theorem dc_mk {K : PySem.W.Frag} {mg : Str → Option Value} {h : Heap} {x : Str} {ps : List Str} {st : Stmt} {g c : Addr} {oc : Value} {od an : Option Addr} {osl : Array (Option Value)} {kV doc pm ct : Value} (X : K.In h) (G : h.Ns mainGlobals mg) (a : PySem.W.nsIn K mainGlobals x = some (some (.ref g)))
    (l : K.lookup g = some ⟨oc, od, .func (PySem.W.fnOf x x (defArgs st) (defBody st) (defScope st) .none kV doc pm an (.ref c) ct), osl⟩) (cc : PySem.W.codeIn K (.ref c) x = true) (k : PySem.W.keepIn K (.ref g) = true)
    (b : ∀ (kV doc pm : Value) (an : Option Addr) (cdv ct : Value) (us : List Value), us.length = ps.length → bindArgs (PySem.W.fnOf x x (defArgs st) (defBody st) (defScope st) .none kV doc pm an cdv ct) ⟨us, []⟩ = pure (ps.zip us)) :
    ∃ g fd, Dn K mg x ps st g fd ∧ FunC K x x st g fd c := by
  have F := fun_mk (st := st) l cc k
  exact ⟨_, _, ⟨F, F.binds b, PySem.W.mg_of X G a⟩, ⟨_, _, _, _, _, _, _, _, rfl, l, cc⟩⟩
theorem dc_dn {K : PySem.W.Frag} {mg : Str → Option Value} {x : Str} {ps : List Str} {st : Stmt} {c : Addr} (h : ∃ g fd, Dn K mg x ps st g fd ∧ FunC K x x st g fd c) : ∃ g fd, Dn K mg x ps st g fd := by
  obtain ⟨g, fd, h1, _⟩ := h
  exact ⟨g, fd, h1⟩
theorem dn_nil {K : PySem.W.Frag} {mg : Str → Option Value} : ∀ i x ps, ([] : List (Nat × Str × List Str)).lookup i = some (x, ps) → ∃ g fd, Dn K mg x ps (top i) g fd := fun _ _ _ e => by cases e
theorem dn_cons {K : PySem.W.Frag} {mg : Str → Option Value} {i : Nat} {x : Str} {ps : List Str} {r : List (Nat × Str × List Str)} (d : ∃ g fd, Dn K mg x ps (top i) g fd) (h : ∀ i x ps, r.lookup i = some (x, ps) → ∃ g fd, Dn K mg x ps (top i) g fd) :
    ∀ j y qs, ((i, x, ps) :: r).lookup j = some (y, qs) → ∃ g fd, Dn K mg y qs (top j) g fd := fun j y qs e => by
  rw [List.lookup_cons] at e
  cases q : j == i with
  | true =>
    rw [q] at e
    cases e
    rw [eq_of_beq q]
    exact d
  | false =>
    rw [q] at e
    exact h j y qs e
/-- the built-in names that the text does not name anew -/
def namesB (K : PySem.W.Frag) : Bool := [("isinstance" : Str), "int", "bool", "str", "tuple", "len", "all", "max", "min", "list", "range", "sorted", "dict", "repr"].all fun x => decide (PySem.W.nsIn K mainGlobals x = some none)
theorem names_of {K : PySem.W.Frag} {h : Heap} {mg : Str → Option Value} (X : K.In h) (G : h.Ns mainGlobals mg) (hb : namesB K = true) : Bi mg ∧ Nms mg ∧ Nms2 mg ∧ Nm2 mg := by
  unfold namesB at hb
  simp only [Bool.and_eq_true, List.all_cons, List.all_nil, decide_eq_true_eq] at hb
  obtain ⟨e1, e2, e3, e4, e5, e6, e7, e8, e9, e10, e11, e12, e13, e14, _⟩ := hb
  have n : ∀ {x : Str}, PySem.W.nsIn K mainGlobals x = some none → mg x = none := fun e => PySem.W.mg_none_of X G e
  exact ⟨⟨n e1, n e2, n e3, n e4, n e5, n e6, n e7⟩, ⟨n e6, n e8, n e2⟩, ⟨n e10, n e11, n e5, n e12, n e13, n e14, n e9⟩, ⟨n e6, n e8, n e9, n e10, n e11⟩⟩
/-- a class's facts, all but its own object -/
def erB (K : PySem.W.Frag) (C fI : Addr) : Bool :=
  decide (PySem.W.findIn K (.ref C) "__setattr__" = some (some (.builtin "object.__setattr__"))) && (decide (PySem.W.subIn K (.ref C) (.type "BaseException") = some true) && (decide (PySem.W.typeIn K (.ref C) = some (.type "type")) && (PySem.W.keepIn K (.ref C) &&
  (xfB K C && (decide (PySem.W.findIn K (.ref C) "told" = some none) && (decide (PySem.W.findIn K (.ref C) "__init__" = some (some (.ref fI))) && (decide (PySem.W.typeIn K (.ref fI) = some (.type "function")) && decide (PySem.W.exmOne K (.ref C) (.ref C) = some true))))))))
theorem er_mk {K : PySem.W.Frag} {mg : Str → Option Value} {h : Heap} {x : Str} {C fI : Addr} {nm q : Str} {N : Addr} {bs bm : List Value} {sn : List Str} {sub : List Value} {ab : Bool} {col : Option Bool} {dd : Option Addr} {k0 k1 k2 k3 k5 : Option Value} (X : K.In h) (G : h.Ns mainGlobals mg)
    (a : PySem.W.nsIn K mainGlobals x = some (some (.ref C)))
    (l : K.lookup C = some (excClassObj nm q C N bs bm true sn sub ab col dd k0 k1 k2 k3 k5 "ValueError.__new__")) (r : PySem.HandSPX.refsVE bm = true) (b : erB K C fI = true) (ini : ∃ fd, Fun K "__init__" "ScopeError.__init__" s_init fI fd ∧ Binds K fd ["self", "told"] []) : Er K mg x C fI := by
  unfold erB at b
  simp only [Bool.and_eq_true, decide_eq_true_eq] at b
  obtain ⟨h1, h2, h3, h4, h5, h6, h7, h8, h9⟩ := b
  exact ⟨PySem.W.mg_of X G a, ⟨⟨nm, q, N, bs, bm, sn, sub, ab, col, dd, k0, k1, k2, k3, k5, l, r⟩, h1, h2, h3, h4⟩, xfB_ok h5, h6, h7, h8, h9, ini⟩
theorem ini_mk {K : PySem.W.Frag} {fI : Addr} {oc : Value} {od an : Option Addr} {osl : Array (Option Value)} {kV doc pm cdv ct : Value}
    (l : K.lookup fI = some ⟨oc, od, .func (PySem.W.fnOf "__init__" "ScopeError.__init__" (defArgs s_init) (defBody s_init) (defScope s_init) .none kV doc pm an cdv ct), osl⟩) (cc : PySem.W.codeIn K cdv "ScopeError.__init__" = true) (k : PySem.W.keepIn K (.ref fI) = true)
    (b : ∀ (kV doc pm : Value) (an : Option Addr) (cdv ct : Value) (us : List Value), us.length = (["self", "told"] : List Str).length → bindArgs (PySem.W.fnOf "__init__" "ScopeError.__init__" (defArgs s_init) (defBody s_init) (defScope s_init) .none kV doc pm an cdv ct) ⟨us, []⟩ = pure ((["self", "told"] : List Str).zip us)) :
    ∃ fd, Fun K "__init__" "ScopeError.__init__" s_init fI fd ∧ Binds K fd ["self", "told"] [] := by
  have F := fun_mk (st := s_init) l cc k
  exact ⟨_, F, F.binds b⟩
/-- where the caught classes stand -/
def cA (i : Nat) : Addr := [228, 77, 89, 101, 65, 113, 125, 137, 149, 197, 161, 173, 185, 209].getD i 0
def cauB (K : PySem.W.Frag) : Bool := (cNs.all fun p => decide (PySem.W.nsIn K mainGlobals p.2 = some (some (.ref (cA p.1))))) && ([4, 8].all fun i => ((List.range i).all fun j => decide (PySem.W.exmOne K (.ref (cA i)) (.ref (cA j)) = some false)) &&
  (decide (PySem.W.exmOne K (.ref (cA i)) (.ref (cA i)) = some true) && (xfB K (cA i) && decide (PySem.W.findIn K (.ref (cA i)) "told" = some none))))
theorem lk_mem {i : Nat} {x : Str} : ∀ {l : List (Nat × Str)}, l.lookup i = some x → (i, x) ∈ l
  | [], e => by cases e
  | (j, y) :: r, e => by
    rw [List.lookup_cons] at e
    cases q : i == j with
    | true =>
      rw [q] at e
      cases e
      rw [eq_of_beq q]
      exact .head _
    | false =>
      rw [q] at e
      exact .tail _ (lk_mem e)
theorem cau_of {K : PySem.W.Frag} {h : Heap} {mg : Str → Option Value} (X : K.In h) (G : h.Ns mainGlobals mg) (hb : cauB K = true) : Cau K mg cA := by
  unfold cauB at hb
  obtain ⟨h1, h2⟩ := Bool.and_eq_true_iff.mp hb
  have two : ∀ i, (i = 4 ∨ i = 8) → ((List.range i).all fun j => decide (PySem.W.exmOne K (.ref (cA i)) (.ref (cA j)) = some false)) = true ∧ PySem.W.exmOne K (.ref (cA i)) (.ref (cA i)) = some true ∧ xfB K (cA i) = true ∧ PySem.W.findIn K (.ref (cA i)) "told" = some none := fun i hi => by
    have z := List.all_eq_true.mp h2 i (by simpa using hi)
    obtain ⟨z1, z2⟩ := Bool.and_eq_true_iff.mp z
    obtain ⟨z3, z4⟩ := Bool.and_eq_true_iff.mp z2
    obtain ⟨z5, z6⟩ := Bool.and_eq_true_iff.mp z4
    exact ⟨z1, of_decide_eq_true z3, z5, of_decide_eq_true z6⟩
  exact ⟨fun i x e => PySem.W.mg_of X G (of_decide_eq_true (List.all_eq_true.mp h1 (i, x) (lk_mem e))), fun i j hi hj => of_decide_eq_true (List.all_eq_true.mp (two i hi).1 j (List.mem_range.mpr hj)), fun i hi => (two i hi).2.1, fun i hi => xfB_ok (two i hi).2.2.1, fun i hi => (two i hi).2.2.2⟩
/-- a written tuple of two ints -/
theorem sqt_ints {K : PySem.W.Frag} {a : Addr} {x y : Int} {t u : Tok} {d : Option Addr} {n : Nat} {sl : Array (Option Value)} (l : K.lookup a = some ⟨.type "tuple", d, .seq #[.int x t, .int y u] n, sl⟩) : ∀ H, SqT K H a [.int x, .int y] :=
  fun H => .inr ⟨_, _, _, l, rfl, rfl, (by show 2 ≤ sizeLine; rw [sizeLine_eq]; decide), .cons ⟨t, rfl⟩ (.cons ⟨u, rfl⟩ .nil)⟩
theorem sqt_two {K : PySem.W.Frag} {a : Addr} {x y : Str} {t u : Tok} {d : Option Addr} {n : Nat} {sl : Array (Option Value)} (l : K.lookup a = some ⟨.type "tuple", d, .seq #[.str x t, .str y u] n, sl⟩) : ∀ H, SqT K H a [.str x, .str y] :=
  fun H => .inr ⟨_, _, _, l, rfl, rfl, (by show 2 ≤ sizeLine; rw [sizeLine_eq]; decide), .cons ⟨t, rfl⟩ (.cons ⟨u, rfl⟩ .nil)⟩
theorem sqt_four {K : PySem.W.Frag} {a : Addr} {x y z v : Str} {t u t' u' : Tok} {d : Option Addr} {n : Nat} {sl : Array (Option Value)} (l : K.lookup a = some ⟨.type "tuple", d, .seq #[.str x t, .str y u, .str z t', .str v u'] n, sl⟩) : ∀ H, SqT K H a [.str x, .str y, .str z, .str v] :=
  fun H => .inr ⟨_, _, _, l, rfl, rfl, (by show 4 ≤ sizeLine; rw [sizeLine_eq]; decide), .cons ⟨t, rfl⟩ (.cons ⟨u, rfl⟩ (.cons ⟨t', rfl⟩ (.cons ⟨u', rfl⟩ .nil)))⟩
theorem cn_mk {K : PySem.W.Frag} {h : Heap} {mg : Str → Option Value} {t t' : Tok} {a b : Addr} (X : K.In h) (G : h.Ns mainGlobals mg) (m : PySem.W.nsIn K mainGlobals "MOST_TIME" = some (some (.int 999 t))) (ho : PySem.W.nsIn K mainGlobals "_HOLDERS" = some (some (.ref a)))
    (sh : ∀ H, SqT K H a [.str "block", .str "let", .str "sum", .str "product"]) (ma : PySem.W.nsIn K mainGlobals "_MARKS" = some (some (.ref b))) (sm : ∀ H, SqT K H b [.str "undo", .str "redo"]) (le : PySem.W.nsIn K mainGlobals "_LETTERS" = some (some (.str "abcdefghijklmnopqrstuvwxyz" t'))) : Cn K mg :=
  ⟨⟨t, PySem.W.mg_of X G m⟩, ⟨a, PySem.W.mg_of X G ho, sh⟩, ⟨b, PySem.W.mg_of X G ma, sm⟩, ⟨t', PySem.W.mg_of X G le⟩⟩
/-- the law, at its call -/
theorem good_all {P : Program} {w : World} {K : PySem.W.Frag} {h : Heap} {mg : Str → Option Value} {fa C fI Ch fI' aR c tb c2 tb2 : Addr} (X : K.In h) (G : h.Ns mainGlobals mg) (hfa : mg "law" = some (.ref fa)) (nb : namesB K = true) (cn : Cn K mg)
    (dn : ∀ i x ps, tabL.lookup i = some (x, ps) → ∃ g fd, Dn K mg x ps (top i) g fd) (R : Er K mg "NoDeed" C fI) (R' : Er K mg "NoHand" Ch fI') (cb : cauB K = true) (mR : PySem.W.nsIn K mainGlobals "ROOT" = some (some (.ref aR))) (tR : ∀ H, SqT K H aR [.int 0, .int 0])
    (D75 : ∃ g fd, Dn K mg "_law_deed_right" ["_law_source", "_law_deed"] (top 75) g fd ∧ FunC K "_law_deed_right" "_law_deed_right" (top 75) g fd c2) (D76 : ∃ g fd, Dn K mg "law" ["_law_script"] (top 76) g fd ∧ FunC K "law" "law" (top 76) g fd c) (ne : tb ≠ tb2) :
    GoodT P w K mg fa 63 [(c, tb), (c2, tb2)] := by
  intro base s H a ns hl TB e0 S hS
  obtain ⟨b1, b2, b3, b4⟩ := names_of X G nb
  have T : All K mg := ⟨dn, b1, cn⟩
  have Ca := cau_of X G cb
  obtain ⟨gl, fdl, Dl, Fl⟩ := D76
  obtain ⟨gr, fdr, Dr, Fr⟩ := D75
  have eq := hfa.symm.trans Dl.mg
  cases eq
  obtain ⟨gc, fdc, Dc⟩ := dn 63 _ _ rfl
  have mRt := PySem.W.mg_of X G mR
  have TL := TB (c, tb) (.head _)
  have TR := TB (c2, tb2) (.tail _ (.head _))
  have hL : (tb, ("law.<locals>.<lambda>" : Str)) ∈ [(tb, ("law.<locals>.<lambda>" : Str)), (tb2, ("_law_deed_right.<locals>.<lambda>" : Str))] := .head _
  have hR : (tb2, ("_law_deed_right.<locals>.<lambda>" : Str)) ∈ [(tb, ("law.<locals>.<lambda>" : Str)), (tb2, ("_law_deed_right.<locals>.<lambda>" : Str))] := .tail _ (.head _)
  have uL : ∀ p ∈ [(tb, ("law.<locals>.<lambda>" : Str)), (tb2, ("_law_deed_right.<locals>.<lambda>" : Str))], p.1 = tb → p.2 = ("law.<locals>.<lambda>" : Str) := fun p hp e => by
    simp only [List.mem_cons, List.not_mem_nil, or_false] at hp
    rcases hp with z | z
    · rw [z]
    · rw [z] at e
      exact absurd e.symm ne
  have uR : ∀ p ∈ [(tb, ("law.<locals>.<lambda>" : Str)), (tb2, ("_law_deed_right.<locals>.<lambda>" : Str))], p.1 = tb2 → p.2 = ("_law_deed_right.<locals>.<lambda>" : Str) := fun p hp e => by
    simp only [List.mem_cons, List.not_mem_nil, or_false] at hp
    rcases hp with z | z
    · rw [z] at e
      exact absurd e ne
    · rw [z]
  have tabs : Tabs [(tb, ("law.<locals>.<lambda>" : Str)), (tb2, ("_law_deed_right.<locals>.<lambda>" : Str))] H := fun p hp => by
    simp only [List.mem_cons, List.not_mem_nil, or_false] at hp
    rcases hp with z | z
    · rw [z]
      exact TabS.nil (S.tab (c, tb) (.head _))
    · rw [z]
      exact TabS.nil (S.tab (c2, tb2) (.tail _ (.head _)))
  have DR : ClG P w K mg base 15 "_law_deed_right" ["_law_source", "_law_deed"] (spDR K [(tb, ("law.<locals>.<lambda>" : Str)), (tb2, ("_law_deed_right.<locals>.<lambda>" : Str))]) := ⟨_, _, ok_dright T b2 b3 R R' Ca mRt tR Dc Fr TR hR uR, Dr.mg, Dr.fn.kp, Dr.bn⟩
  have L := ok_law (aR := aR) T b2 b3 b4 R R' Ca DR Dc Fl TL hL uL
  have hb := Dl.bn s [.ref a] (fun b o e => (e0.bs b o (e0.mod.kin b o e)).1) rfl
  exact L.run callerA [] s H ⟨[.ref a], []⟩ [.ref a] [.ref a] _ _ rfl ⟨rfl, by decide, by decide⟩ e0 hb (.cons rfl .nil) ⟨a, ns, rfl, hS, tabs, fun H' => rfl⟩
theorem good_S {l : PySem.W.OpenLaw} {w : World} {K : PySem.W.Frag} {h : Heap} {mg : Str → Option Value} {fa c tb c2 tb2 : Addr} (X : K.In h) (hT : ∀ p ∈ [tb2, tb], h.get? p = some { cls := .none, data := .fields #[] }) (n1 : K.lookup tb = none) (n2 : K.lookup tb2 = none) (h1 : PySem.W.codeHdIn K c tb = true) (h2 : PySem.W.codeHdIn K c2 tb2 = true)
    (g : GoodT l.prog w K mg fa 63 [(c, tb), (c2, tb2)]) : GoodAtS l w K 63 mg fa h := by
  have two : ∀ {Q : Addr × Addr → Prop}, Q (c, tb) → Q (c2, tb2) → ∀ p ∈ [(c, tb), (c2, tb2)], Q p := fun q1 q2 p hp => by
    simp only [List.mem_cons, List.not_mem_nil, or_false] at hp
    rcases hp with z | z
    · rw [z]
      exact q1
    · rw [z]
      exact q2
  exact ⟨_, two (hT tb (.tail _ (.head _))) (hT tb2 (.head _)), two n1 n2, two (PySem.W.codeHd_of_K X h1) (PySem.W.codeHd_of_K X h2), g⟩
end K1
open PySem PySem.W PyProof.Rows
set_option maxRecDepth 100000 in
set_option maxHeartbeats 0 in
theorem PySem.Challenge.cw_sharedscopes_k01_deeds_and_names_holds : PySem.Challenge.rw_sharedscopes_k01_deeds_and_names.Holds := by
  w_on; o_law; k_head; (case hw => w_witness2)
  k_fill
  refine K1.walk_tabs (n := 63) rfl (by decide) rfl (fun w h Y => PySem.W.km_in_of Y) ?F
  case F =>
    intro w mg fa h Y KX G hmg
    have hT := PySem.W.km_tabs_of Y
    refine' K1.good_S (c := 553) (tb := 549) (c2 := 546) (tb2 := 544) KX hT ?n1 ?n2 ?h1 ?h2 ?g
    (case n1 => kernel_rfl)
    (case n2 => kernel_rfl)
    (case h1 => kernel_rfl)
    (case h2 => kernel_rfl)
    case g =>
      refine' K1.good_all (C := 65) (fI := 49) (Ch := 149) (fI' := 49) (aR := 232) KX G hmg ?nb ?cn ?dn ?R ?R' ?cb ?mR ?tR ?D75 ?D76 ?ne
      (case nb => kernel_rfl)
      (case cb => kernel_rfl)
      (case ne => decide)
      (case mR => k_is)
      (case tR => refine' K1.sqt_ints ?l; (case l => k_is))
      case cn =>
        refine' K1.cn_mk KX G ?m ?ho ?sh ?ma ?sm ?hle
        (case m => k_is)
        (case ho => k_is)
        (case sh => refine' K1.sqt_four ?l; (case l => k_is))
        (case ma => k_is)
        (case sm => refine' K1.sqt_two ?l; (case l => k_is))
        (case hle => k_is)
      case R =>
        refine' K1.er_mk KX G ?a ?l ?r ?b ?ini
        (case a => k_is)
        (case l => k_is)
        (case r => kernel_rfl)
        (case b => kernel_rfl)
        case ini =>
          refine' K1.ini_mk ?l ?c ?k ?b
          (case l => k_is)
          (case c => k_is)
          (case k => k_is)
          (case b => exact fun _ _ _ _ _ _ us hl => match us, hl with | [_, _], _ => rfl)
      case R' =>
        refine' K1.er_mk KX G ?a ?l ?r ?b ?ini
        (case a => k_is)
        (case l => k_is)
        (case r => kernel_rfl)
        (case b => kernel_rfl)
        case ini =>
          refine' K1.ini_mk ?l ?c ?k ?b
          (case l => k_is)
          (case c => k_is)
          (case k => k_is)
          (case b => exact fun _ _ _ _ _ _ us hl => match us, hl with | [_, _], _ => rfl)
      case D75 =>
        refine' K1.dc_mk KX G ?a ?l ?c ?k ?b
        (case a => k_is); (case l => k_is); (case c => k_is); (case k => k_is); (case b => exact fun _ _ _ _ _ _ us hl => match us, hl with | [_, _], _ => rfl)
      case D76 =>
        refine' K1.dc_mk KX G ?a ?l ?c ?k ?b
        (case a => k_is); (case l => k_is); (case c => k_is); (case k => k_is); (case b => exact fun _ _ _ _ _ _ us hl => match us, hl with | [_], _ => rfl)
      case dn =>
        refine' K1.dn_cons ?d ?r
        case d =>
          refine' K1.dn_mk KX G ?a ?l ?c ?k ?b
          (case a => k_is); (case l => k_is); (case c => k_is); (case k => k_is); (case b => exact fun _ _ _ _ _ _ us hl => match us, hl with | [_], _ => rfl)
        case r =>
         refine' K1.dn_cons ?d ?r
         case d =>
           refine' K1.dn_mk KX G ?a ?l ?c ?k ?b
           (case a => k_is); (case l => k_is); (case c => k_is); (case k => k_is); (case b => exact fun _ _ _ _ _ _ us hl => match us, hl with | [_, _, _], _ => rfl)
         case r =>
          refine' K1.dn_cons ?d ?r
          case d =>
            refine' K1.dn_mk KX G ?a ?l ?c ?k ?b
            (case a => k_is); (case l => k_is); (case c => k_is); (case k => k_is); (case b => exact fun _ _ _ _ _ _ us hl => match us, hl with | [_, _], _ => rfl)
          case r =>
           refine' K1.dn_cons ?d ?r
           case d =>
             refine' K1.dn_mk KX G ?a ?l ?c ?k ?b
             (case a => k_is); (case l => k_is); (case c => k_is); (case k => k_is); (case b => exact fun _ _ _ _ _ _ us hl => match us, hl with | [_], _ => rfl)
           case r =>
            refine' K1.dn_cons ?d ?r
            case d =>
              refine' K1.dn_mk KX G ?a ?l ?c ?k ?b
              (case a => k_is); (case l => k_is); (case c => k_is); (case k => k_is); (case b => exact fun _ _ _ _ _ _ us hl => match us, hl with | [_], _ => rfl)
            case r =>
             refine' K1.dn_cons ?d ?r
             case d =>
               refine' K1.dn_mk KX G ?a ?l ?c ?k ?b
               (case a => k_is); (case l => k_is); (case c => k_is); (case k => k_is); (case b => exact fun _ _ _ _ _ _ us hl => match us, hl with | [_], _ => rfl)
             case r =>
              refine' K1.dn_cons ?d ?r
              case d =>
                refine' K1.dn_mk KX G ?a ?l ?c ?k ?b
                (case a => k_is); (case l => k_is); (case c => k_is); (case k => k_is); (case b => exact fun _ _ _ _ _ _ us hl => match us, hl with | [_], _ => rfl)
              case r =>
               refine' K1.dn_cons ?d ?r
               case d =>
                 refine' K1.dn_mk KX G ?a ?l ?c ?k ?b
                 (case a => k_is); (case l => k_is); (case c => k_is); (case k => k_is); (case b => exact fun _ _ _ _ _ _ us hl => match us, hl with | [_], _ => rfl)
               case r =>
                refine' K1.dn_cons ?d ?r
                case d =>
                  refine' K1.dn_mk KX G ?a ?l ?c ?k ?b
                  (case a => k_is); (case l => k_is); (case c => k_is); (case k => k_is); (case b => exact fun _ _ _ _ _ _ us hl => match us, hl with | [_], _ => rfl)
                case r =>
                 refine' K1.dn_cons ?d ?r
                 case d =>
                   refine' K1.dn_mk KX G ?a ?l ?c ?k ?b
                   (case a => k_is); (case l => k_is); (case c => k_is); (case k => k_is); (case b => exact fun _ _ _ _ _ _ us hl => match us, hl with | [_], _ => rfl)
                 case r =>
                  refine' K1.dn_cons ?d ?r
                  case d =>
                    refine' K1.dn_mk KX G ?a ?l ?c ?k ?b
                    (case a => k_is); (case l => k_is); (case c => k_is); (case k => k_is); (case b => exact fun _ _ _ _ _ _ us hl => match us, hl with | [_, _], _ => rfl)
                  case r =>
                   refine' K1.dn_cons ?d ?r
                   case d =>
                     refine' K1.dn_mk KX G ?a ?l ?c ?k ?b
                     (case a => k_is); (case l => k_is); (case c => k_is); (case k => k_is); (case b => exact fun _ _ _ _ _ _ us hl => match us, hl with | [_], _ => rfl)
                   case r =>
                    refine' K1.dn_cons ?d ?r
                    case d =>
                      refine' K1.dn_mk KX G ?a ?l ?c ?k ?b
                      (case a => k_is); (case l => k_is); (case c => k_is); (case k => k_is); (case b => exact fun _ _ _ _ _ _ us hl => match us, hl with | [_], _ => rfl)
                    case r =>
                     refine' K1.dn_cons ?d ?r
                     case d =>
                       refine' K1.dn_mk KX G ?a ?l ?c ?k ?b
                       (case a => k_is); (case l => k_is); (case c => k_is); (case k => k_is); (case b => exact fun _ _ _ _ _ _ us hl => match us, hl with | [_], _ => rfl)
                     case r =>
                      refine' K1.dn_cons ?d ?r
                      case d =>
                        refine' K1.dn_mk KX G ?a ?l ?c ?k ?b
                        (case a => k_is); (case l => k_is); (case c => k_is); (case k => k_is); (case b => exact fun _ _ _ _ _ _ us hl => match us, hl with | [_], _ => rfl)
                      case r =>
                       refine' K1.dn_cons ?d ?r
                       case d =>
                         refine' K1.dn_mk KX G ?a ?l ?c ?k ?b
                         (case a => k_is); (case l => k_is); (case c => k_is); (case k => k_is); (case b => exact fun _ _ _ _ _ _ us hl => match us, hl with | [_], _ => rfl)
                       case r =>
                        refine' K1.dn_cons ?d ?r
                        case d =>
                          refine' K1.dn_mk KX G ?a ?l ?c ?k ?b
                          (case a => k_is); (case l => k_is); (case c => k_is); (case k => k_is); (case b => exact fun _ _ _ _ _ _ us hl => match us, hl with | [_], _ => rfl)
                        case r =>
                         refine' K1.dn_cons ?d ?r
                         case d =>
                           refine' K1.dn_mk KX G ?a ?l ?c ?k ?b
                           (case a => k_is); (case l => k_is); (case c => k_is); (case k => k_is); (case b => exact fun _ _ _ _ _ _ us hl => match us, hl with | [_, _], _ => rfl)
                         case r =>
                          refine' K1.dn_cons ?d ?r
                          case d =>
                            refine' K1.dn_mk KX G ?a ?l ?c ?k ?b
                            (case a => k_is); (case l => k_is); (case c => k_is); (case k => k_is); (case b => exact fun _ _ _ _ _ _ us hl => match us, hl with | [_, _], _ => rfl)
                          case r =>
                           refine' K1.dn_cons ?d ?r
                           case d =>
                             refine' K1.dn_mk KX G ?a ?l ?c ?k ?b
                             (case a => k_is); (case l => k_is); (case c => k_is); (case k => k_is); (case b => exact fun _ _ _ _ _ _ us hl => match us, hl with | [_], _ => rfl)
                           case r =>
                            refine' K1.dn_cons ?d ?r
                            case d =>
                              refine' K1.dn_mk KX G ?a ?l ?c ?k ?b
                              (case a => k_is); (case l => k_is); (case c => k_is); (case k => k_is); (case b => exact fun _ _ _ _ _ _ us hl => match us, hl with | [_], _ => rfl)
                            case r =>
                             refine' K1.dn_cons ?d ?r
                             case d =>
                               refine' K1.dn_mk KX G ?a ?l ?c ?k ?b
                               (case a => k_is); (case l => k_is); (case c => k_is); (case k => k_is); (case b => exact fun _ _ _ _ _ _ us hl => match us, hl with | [_], _ => rfl)
                             case r =>
                              refine' K1.dn_cons ?d ?r
                              case d =>
                                refine' K1.dn_mk KX G ?a ?l ?c ?k ?b
                                (case a => k_is); (case l => k_is); (case c => k_is); (case k => k_is); (case b => exact fun _ _ _ _ _ _ us hl => match us, hl with | [_, _], _ => rfl)
                              case r =>
                               refine' K1.dn_cons ?d ?r
                               case d =>
                                 refine' K1.dn_mk KX G ?a ?l ?c ?k ?b
                                 (case a => k_is); (case l => k_is); (case c => k_is); (case k => k_is); (case b => exact fun _ _ _ _ _ _ us hl => match us, hl with | [_], _ => rfl)
                               case r =>
                                refine' K1.dn_cons ?d ?r
                                case d =>
                                  refine' K1.dn_mk KX G ?a ?l ?c ?k ?b
                                  (case a => k_is); (case l => k_is); (case c => k_is); (case k => k_is); (case b => exact fun _ _ _ _ _ _ us hl => match us, hl with | [_, _], _ => rfl)
                                case r =>
                                 refine' K1.dn_cons ?d ?r
                                 case d =>
                                   refine' K1.dn_mk KX G ?a ?l ?c ?k ?b
                                   (case a => k_is); (case l => k_is); (case c => k_is); (case k => k_is); (case b => exact fun _ _ _ _ _ _ us hl => match us, hl with | [_, _], _ => rfl)
                                 case r =>
                                  refine' K1.dn_cons ?d ?r
                                  case d =>
                                    refine' K1.dn_mk KX G ?a ?l ?c ?k ?b
                                    (case a => k_is); (case l => k_is); (case c => k_is); (case k => k_is); (case b => exact fun _ _ _ _ _ _ us hl => match us, hl with | [_, _], _ => rfl)
                                  case r =>
                                   refine' K1.dn_cons ?d ?r
                                   case d =>
                                     refine' K1.dn_mk KX G ?a ?l ?c ?k ?b
                                     (case a => k_is); (case l => k_is); (case c => k_is); (case k => k_is); (case b => exact fun _ _ _ _ _ _ us hl => match us, hl with | [_], _ => rfl)
                                   case r =>
                                    refine' K1.dn_cons ?d ?r
                                    case d =>
                                      refine' K1.dn_mk KX G ?a ?l ?c ?k ?b
                                      (case a => k_is); (case l => k_is); (case c => k_is); (case k => k_is); (case b => exact fun _ _ _ _ _ _ us hl => match us, hl with | [_], _ => rfl)
                                    case r =>
                                     refine' K1.dn_cons ?d ?r
                                     case d =>
                                       refine' K1.dn_mk KX G ?a ?l ?c ?k ?b
                                       (case a => k_is); (case l => k_is); (case c => k_is); (case k => k_is); (case b => exact fun _ _ _ _ _ _ us hl => match us, hl with | [_], _ => rfl)
                                     case r =>
                                      refine' K1.dn_cons ?d ?r
                                      case d =>
                                        refine' K1.dn_mk KX G ?a ?l ?c ?k ?b
                                        (case a => k_is); (case l => k_is); (case c => k_is); (case k => k_is); (case b => exact fun _ _ _ _ _ _ us hl => match us, hl with | [_, _], _ => rfl)
                                      case r =>
                                       refine' K1.dn_cons ?d ?r
                                       case d =>
                                         refine' K1.dn_mk KX G ?a ?l ?c ?k ?b
                                         (case a => k_is); (case l => k_is); (case c => k_is); (case k => k_is); (case b => exact fun _ _ _ _ _ _ us hl => match us, hl with | [_, _, _], _ => rfl)
                                       case r =>
                                        refine' K1.dn_cons ?d ?r
                                        case d =>
                                          refine' K1.dn_mk KX G ?a ?l ?c ?k ?b
                                          (case a => k_is); (case l => k_is); (case c => k_is); (case k => k_is); (case b => exact fun _ _ _ _ _ _ us hl => match us, hl with | [_, _, _], _ => rfl)
                                        case r =>
                                         refine' K1.dn_cons ?d ?r
                                         case d =>
                                           refine' K1.dn_mk KX G ?a ?l ?c ?k ?b
                                           (case a => k_is); (case l => k_is); (case c => k_is); (case k => k_is); (case b => exact fun _ _ _ _ _ _ us hl => match us, hl with | [_], _ => rfl)
                                         case r =>
                                          refine' K1.dn_cons ?d ?r
                                          case d =>
                                            refine' K1.dn_mk KX G ?a ?l ?c ?k ?b
                                            (case a => k_is); (case l => k_is); (case c => k_is); (case k => k_is); (case b => exact fun _ _ _ _ _ _ us hl => match us, hl with | [_, _], _ => rfl)
                                          case r =>
                                           refine' K1.dn_cons ?d ?r
                                           case d =>
                                             refine' K1.dn_mk KX G ?a ?l ?c ?k ?b
                                             (case a => k_is); (case l => k_is); (case c => k_is); (case k => k_is); (case b => exact fun _ _ _ _ _ _ us hl => match us, hl with | [_, _], _ => rfl)
                                           case r =>
                                            refine' K1.dn_cons ?d ?r
                                            case d =>
                                              refine' K1.dn_mk KX G ?a ?l ?c ?k ?b
                                              (case a => k_is); (case l => k_is); (case c => k_is); (case k => k_is); (case b => exact fun _ _ _ _ _ _ us hl => match us, hl with | [_, _, _, _], _ => rfl)
                                            case r =>
                                             refine' K1.dn_cons ?d ?r
                                             case d =>
                                               refine' K1.dn_mk KX G ?a ?l ?c ?k ?b
                                               (case a => k_is); (case l => k_is); (case c => k_is); (case k => k_is); (case b => exact fun _ _ _ _ _ _ us hl => match us, hl with | [_, _], _ => rfl)
                                             case r =>
                                              refine' K1.dn_cons ?d ?r
                                              case d =>
                                                refine' K1.dn_mk KX G ?a ?l ?c ?k ?b
                                                (case a => k_is); (case l => k_is); (case c => k_is); (case k => k_is); (case b => exact fun _ _ _ _ _ _ us hl => match us, hl with | [_, _, _], _ => rfl)
                                              case r =>
                                               refine' K1.dn_cons ?d ?r
                                               case d =>
                                                 refine' K1.dn_mk KX G ?a ?l ?c ?k ?b
                                                 (case a => k_is); (case l => k_is); (case c => k_is); (case k => k_is); (case b => exact fun _ _ _ _ _ _ us hl => match us, hl with | [_], _ => rfl)
                                               case r =>
                                                refine' K1.dn_cons ?d ?r
                                                case d =>
                                                  refine' K1.dn_mk KX G ?a ?l ?c ?k ?b
                                                  (case a => k_is); (case l => k_is); (case c => k_is); (case k => k_is); (case b => exact fun _ _ _ _ _ _ us hl => match us, hl with | [_, _, _], _ => rfl)
                                                case r =>
                                                 refine' K1.dn_cons ?d ?r
                                                 case d =>
                                                   refine' K1.dn_mk KX G ?a ?l ?c ?k ?b
                                                   (case a => k_is); (case l => k_is); (case c => k_is); (case k => k_is); (case b => exact fun _ _ _ _ _ _ us hl => match us, hl with | [_], _ => rfl)
                                                 case r =>
                                                  refine' K1.dn_cons ?d ?r
                                                  case d =>
                                                    refine' K1.dn_mk KX G ?a ?l ?c ?k ?b
                                                    (case a => k_is); (case l => k_is); (case c => k_is); (case k => k_is); (case b => exact fun _ _ _ _ _ _ us hl => match us, hl with | [_], _ => rfl)
                                                  case r =>
                                                   refine' K1.dn_cons ?d ?r
                                                   case d =>
                                                     refine' K1.dn_mk KX G ?a ?l ?c ?k ?b
                                                     (case a => k_is); (case l => k_is); (case c => k_is); (case k => k_is); (case b => exact fun _ _ _ _ _ _ us hl => match us, hl with | [_], _ => rfl)
                                                   case r =>
                                                    refine' K1.dn_cons ?d ?r
                                                    case d =>
                                                      refine' K1.dn_mk KX G ?a ?l ?c ?k ?b
                                                      (case a => k_is); (case l => k_is); (case c => k_is); (case k => k_is); (case b => exact fun _ _ _ _ _ _ us hl => match us, hl with | [_, _], _ => rfl)
                                                    case r =>
                                                     refine' K1.dn_cons ?d ?r
                                                     case d =>
                                                       refine' K1.dn_mk KX G ?a ?l ?c ?k ?b
                                                       (case a => k_is); (case l => k_is); (case c => k_is); (case k => k_is); (case b => exact fun _ _ _ _ _ _ us hl => match us, hl with | [_], _ => rfl)
                                                     case r =>
                                                      refine' K1.dn_cons ?d ?r
                                                      case d =>
                                                        refine' K1.dn_mk KX G ?a ?l ?c ?k ?b
                                                        (case a => k_is); (case l => k_is); (case c => k_is); (case k => k_is); (case b => exact fun _ _ _ _ _ _ us hl => match us, hl with | [_], _ => rfl)
                                                      case r =>
                                                       refine' K1.dn_cons ?d ?r
                                                       case d =>
                                                         refine' K1.dn_mk KX G ?a ?l ?c ?k ?b
                                                         (case a => k_is); (case l => k_is); (case c => k_is); (case k => k_is); (case b => exact fun _ _ _ _ _ _ us hl => match us, hl with | [_], _ => rfl)
                                                       case r =>
                                                        refine' K1.dn_cons ?d ?r
                                                        case d =>
                                                          refine' K1.dn_mk KX G ?a ?l ?c ?k ?b
                                                          (case a => k_is); (case l => k_is); (case c => k_is); (case k => k_is); (case b => exact fun _ _ _ _ _ _ us hl => match us, hl with | [_], _ => rfl)
                                                        case r =>
                                                         refine' K1.dn_cons ?d ?r
                                                         case d =>
                                                           refine' K1.dn_mk KX G ?a ?l ?c ?k ?b
                                                           (case a => k_is); (case l => k_is); (case c => k_is); (case k => k_is); (case b => exact fun _ _ _ _ _ _ us hl => match us, hl with | [_, _], _ => rfl)
                                                         case r =>
                                                          refine' K1.dn_cons ?d ?r
                                                          case d =>
                                                            refine' K1.dn_mk KX G ?a ?l ?c ?k ?b
                                                            (case a => k_is); (case l => k_is); (case c => k_is); (case k => k_is); (case b => exact fun _ _ _ _ _ _ us hl => match us, hl with | [_], _ => rfl)
                                                          case r =>
                                                           refine' K1.dn_cons ?d ?r
                                                           case d =>
                                                             refine' K1.dn_mk KX G ?a ?l ?c ?k ?b
                                                             (case a => k_is); (case l => k_is); (case c => k_is); (case k => k_is); (case b => exact fun _ _ _ _ _ _ us hl => match us, hl with | [_, _], _ => rfl)
                                                           case r =>
                                                            refine' K1.dn_cons ?d ?r
                                                            case d =>
                                                              refine' K1.dn_mk KX G ?a ?l ?c ?k ?b
                                                              (case a => k_is); (case l => k_is); (case c => k_is); (case k => k_is); (case b => exact fun _ _ _ _ _ _ us hl => match us, hl with | [_], _ => rfl)
                                                            case r =>
                                                             exact K1.dn_nil
