import PyProof.Rows.All
import Wide.All
import OpenK.AllK
import Wide.FinOn
import HandS.Base
import HandS.Call
import HandS.List
import HandS.Dict
import PyProof.Rows.TupDisplay
import PyProof.DictMoreH
import KE.KExcInit
import HandS.Ends
import HandS.Exc
import HandS.ForMost
import HandS.ExcInit
import HandS.ExcIs
import HandS.IsInst
import KE.KExcIs
import HandS.Walk
import HandS.Wide
import HandS.TryMany
import HandS.ExcField
import HandS.WordsExc
import PyProof.NeKinds
import PyProof.NeData
import HandS.Steps
import HandS.Lambda
import HandS.TupSets
import HandS.SetBool
import HandS.TupAny
import PyProof.FitsInt
import HandS.Conv
import HandS.Zip
import KE.GoesEnum
import HandS.SetKeys
import KE.SortCalls
import KE.LtData
import KE.SortData
import HandS.DictComp
import HandS.DictTup
import HandS.OwnEq
import KE.KDictPairs
import KE.KDictSum
import KE.KDictKeyed
import HandS.TupLen
import HandS.EndTab
import KE.DataCmp
import KE.DatumOrd
import PyProof.InstNe
import KE.KDictIter
import KE.KDictZip
import KE.SortKeyHeap
import KE.KLam
import HandS.Style
import HandS.Star
import HandS.Text
import HandS.StrMore
import HandS.RaiseMore
import KE.GoesZip
import HandS.Comp
import HandS.Iter
import HandS.TryOnly
import PySem.Challenge.RW_sharedscopes_k67_whole_plain_programs_of
set_option Elab.async false
set_option linter.all false
set_option maxRecDepth 100000
set_option maxHeartbeats 8000000
set_option maxHeartbeats 4000000
/-! a dict whose keys are tuples of ints that stand anywhere: tracked ones, and those that the program's text holds -/
namespace DX
open PySem PySem.Spec PyProof.Rows L2
def kI (k : List Int) : List Key := k.map Sum.inl
theorem kI_V (k : List Int) : (kI k).map kV = k.map V.int := by
  unfold kI
  rw [List.map_map]
  rfl
theorem kI_inj {a b : List Int} (h : kI a = kI b) : a = b := by
  have e := congrArg (List.map kV) h
  rw [kI_V, kI_V] at e
  exact List.map_inj_right (fun x y z => V.int.inj z) |>.mp e
/-- an entry: its key, where the key's tuple stands, its value -/
abbrev En := List Int × Addr × V
abbrev EnR (x : En) (y : List Key × Addr × Value) : Prop := kI x.1 = y.1 ∧ x.2.1 = y.2.1 ∧ RelV x.2.2 y.2.2
/-- the dict at a has these entries, in their order -/
def dxO (P : Program) (w : World) (a : Addr) (xs : List En) : HO := .ext fun h => xs.length ≤ sizeLine ∧ (a == sysModules) = false ∧ ∃ ys, Paired EnR xs ys ∧
  ∃ o es ep, h.get? a = some o ∧ o.ExactDict ∧ o.data = .dict es ep ∧ es.toList = ys.map (entryOfKey (tupleKind (mixKind P w))) ∧ (ys.map (·.1)).Nodup
/-- where the keys' tuples stand -/
def DxK (K : PySem.W.Frag) (H : Hp) (xs : List En) : Prop := ∀ x ∈ xs, SqT K H x.2.1 (x.1.map V.int)
theorem dxO_ok {P : Program} {w : World} {H : Hp} {h : Heap} {a : Addr} {xs : List En} {ys : List (List Key × Addr × Value)} {o : Obj} {es : Array DictEntry} {ep : Nat} (l : xs.length ≤ sizeLine) (hs : (a == sysModules) = false) (r : Paired EnR xs ys) (ho : h.get? a = some o) (hx : o.ExactDict) (hd : o.data = .dict es ep)
    (he : es.toList = ys.map (entryOfKey (tupleKind (mixKind P w)))) (nd : (ys.map (·.1)).Nodup) : ObjOk P w H h a (dxO P w a xs) :=
  ⟨⟨l, hs, ys, r, o, es, ep, ho, hx, hd, he, nd⟩, ⟨o, ho⟩, fun h1 h2 ⟨l, hs, ys, r, o, es, ep, ho, g⟩ k => ⟨l, hs, ys, r, o, es, ep, k _ ho, g⟩⟩
def valX (xs : List En) (k : List Int) : Option V := (xs.find? fun x => decide (x.1 = k)).map (·.2.2)
theorem rel_val {xs : List En} {ys : List (List Key × Addr × Value)} (r : Paired EnR xs ys) (k : List Int) : RelO (valX xs k) ((atKey ys (kI k)).map (·.2)) := by
  induction r with
  | nil => exact True.intro
  | @cons p q ps qs h t ih =>
    obtain ⟨h1, _, h2⟩ := h
    by_cases e : p.1 = k
    · have e' : q.1 = kI k := by rw [← h1, e]
      have b : atKey (q :: qs) (kI k) = some q.2 := by simp [atKey, List.find?_cons, e']
      have c : valX (p :: ps) k = some p.2.2 := by simp [valX, List.find?_cons, e]
      rw [c, b]
      exact h2
    · have e' : ¬ q.1 = kI k := fun z => e (kI_inj (h1.trans z))
      have b : atKey (q :: qs) (kI k) = atKey qs (kI k) := by simp [atKey, List.find?_cons, e']
      have c : valX (p :: ps) k = valX ps k := by simp [valX, List.find?_cons, e]
      rw [c, b]
      exact ih
section
variable {X : Cx} {pins : List (Addr × Obj)} {σ : L2.St} {H : Hp} {s : Shared}
theorem key_any {b : Addr} {k : List Key} (I : Inv X pins σ H s) (e : SqT X.K H b (k.map kV)) : (tupleKind (mixKind X.prog X.w)).is s.heap k b := by
  obtain ⟨its, r, ⟨o, h1, h2, n, h3⟩, _⟩ := I.tuple e
  exact ⟨o, its.toArray, n, h1, h2, h3, by simpa using items_are r⟩
theorem keys_is {xs : List En} {ys : List (List Key × Addr × Value)} (I : Inv X pins σ H s) (hk : DxK X.K H xs) (r : Paired EnR xs ys) : ∀ y ∈ ys, (tupleKind (mixKind X.prog X.w)).is s.heap y.1 y.2.1 := by
  induction r with
  | nil => exact fun y hy => absurd hy List.not_mem_nil
  | @cons p q ps qs h t ih =>
    intro y hy
    rcases List.mem_cons.mp hy with z | z
    · obtain ⟨e1, e2, _⟩ := h
      rw [z, ← e1, ← e2]
      exact key_any I (by rw [kI_V]; exact hk p List.mem_cons_self)
    · exact ih (fun x hx => hk x (List.mem_cons_of_mem _ hx)) y z
/-- read or held -/
abbrev RdX (X : Cx) (H : Hp) (a : Addr) (xs : List En) : Prop := Rd H a (dxO X.prog X.w a xs)
theorem dx_rd {a : Addr} {xs : List En} (I : Inv X pins σ H s) (e : RdX X H a xs) (hk : DxK X.K H xs) : xs.length ≤ sizeLine ∧ (a == sysModules) = false ∧ ∃ ys, Paired EnR xs ys ∧ s.heap.DictOfH (tupleKind (mixKind X.prog X.w)) a ys := by
  obtain ⟨⟨l, hs, ys, r, o, es, ep, h1, h2, h3, h4, h5⟩, _, _⟩ := (show ObjOk X.prog X.w H s.heap a (dxO X.prog X.w a xs) from rd_of I.hok e)
  exact ⟨l, hs, ys, r, o, es, ep, h1, h2, h3, h4, keys_is I hk r, h5⟩
/-- k in the dict -/
def rInX (X : Cx) (neg : Bool) : R2 := fun x y H Q => ∃ (a b : Addr) (xs : List En) (k : List Int), x = .ref b ∧ y = .ref a ∧ RdX X H a xs ∧ DxK X.K H xs ∧ SqT X.K H b (k.map V.int) ∧ Q (.bl (neg != (valX xs k).isSome)) H
theorem op_inX (hu : X.A.units + 1 < cLine) : OpR X (compareOp .In) (rInX X false) := by
  intro pins s σ H x y v u Q I rx ry h
  obtain ⟨a, b, xs, k, rfl, rfl, hd, hx, hk, q⟩ := h
  cases rx
  cases ry
  obtain ⟨_, hs, ys, rel, dd⟩ := dx_rd I hd hx
  refine wpAny_in_heap (tupleKind_room_in1 hu) (key_any (k := kI k) I (by rw [kI_V]; exact hk)) hs dd ?_
  have z := (rel_val rel k).isSome_eq
  rw [Option.isSome_map] at z
  refine ⟨_, H, I.tok _, ?_, q⟩
  show Value.bool _ = Value.bool _
  rw [← z]
  simp
theorem op_notInX (hu : X.A.units + 1 < cLine) : OpR X (compareOp .NotIn) (rInX X true) := by
  intro pins s σ H x y v u Q I rx ry h
  obtain ⟨a, b, xs, k, rfl, rfl, hd, hx, hk, q⟩ := h
  cases rx
  cases ry
  obtain ⟨_, hs, ys, rel, dd⟩ := dx_rd I hd hx
  refine wpAny_notIn_heap (tupleKind_room_in1 hu) (key_any (k := kI k) I (by rw [kI_V]; exact hk)) hs dd ?_
  have z := (rel_val rel k).isSome_eq
  rw [Option.isSome_map] at z
  refine ⟨_, H, I.tok _, ?_, q⟩
  show Value.bool _ = Value.bool _
  rw [← z]
  cases (valX xs k).isSome <;> rfl
/-- d[k] -/
def tXGet (X : Cx) (td ty : TE) : TE := fun σ H Q => td σ H fun x H1 => ty σ H1 fun y H2 => ∃ (a b : Addr) (xs : List En) (v : V) (k : List Int), x = .ref a ∧ y = .ref b ∧ RdX X H2 a xs ∧ DxK X.K H2 xs ∧ SqT X.K H2 b (k.map V.int) ∧ valX xs k = some v ∧ Q v H2
theorem pe_xget {o i : Expr} {td ty : TE} {pos : Pos} (hu : X.A.units + 1 < cLine) (ho : PE X o td) (hi : PE X i ty) (hs : NoSl i) : PE X (.Subscript o i pos) (tXGet X td ty) := by
  refine ⟨fun pins s σ H Q I h => ?_⟩
  refine subD_of PySem.F.slot_dict_getitem.lookup hs (thn (ho.run pins s σ H _ I h) fun u s1 q1 => ?_)
  obtain ⟨x, H1, I1, rx, q1⟩ := q1
  refine thn (hi.run pins s1 σ H1 _ I1 q1) fun iv s2 q2 => ?_
  obtain ⟨y, H2, I2, ry, a, b, xs, v, k, rfl, rfl, hd, hx, hk, hv, q⟩ := q2
  cases rx
  cases ry
  obtain ⟨_, hm, ys, rel, dd⟩ := dx_rd I2 hd hx
  refine ⟨?_, ?_⟩
  · obtain ⟨ob, es, ep, e1, e2, _⟩ := id dd
    exact ⟨ob, e1, e2.1⟩
  · obtain ⟨w', hw, rw'⟩ := RelO.some_of (v := v) (o := (atKey ys (kI k)).map (·.2)) (by rw [← hv]; exact rel_val rel k)
    obtain ⟨p, hp, hp2⟩ := Option.map_eq_some_iff.mp hw
    refine wpAny_getItem_heap (tupleKind_room_in1 hu) (key_any (k := kI k) I2 (by rw [kI_V]; exact hk)) dd hp ?_
    rw [hp2]
    exact ⟨v, H2, I2.tok _, rw', q⟩
/-- the entries behind d[k] = v, k's tuple at b -/
def putX (xs : List En) (k : List Int) (b : Addr) (v : V) : List En := if (valX xs k).isSome = true then xs.map (fun x => if x.1 = k then (x.1, x.2.1, v) else x) else xs ++ [(k, b, v)]
theorem len_putX {xs : List En} {k : List Int} {b : Addr} {v : V} : (putX xs k b v).length ≤ xs.length + 1 := by
  unfold putX
  split
  · rw [List.length_map]
    omega
  · rw [List.length_append]
    exact Nat.le_refl _
theorem rel_put {xs : List En} {ys : List (List Key × Addr × Value)} (r : Paired EnR xs ys) (k : List Int) {b : Addr} {v : V} {u : Value} (rv : RelV v u) : Paired EnR (putX xs k b v) (storedH ys (kI k) b u) := by
  have e : (valX xs k).isSome = (atKey ys (kI k)).isSome := by
    have z := (rel_val r k).isSome_eq
    rw [Option.isSome_map] at z
    exact z
  unfold putX storedH
  rw [e]
  by_cases q : (atKey ys (kI k)).isSome = true
  · rw [if_pos q, if_pos q]
    clear e q
    induction r with
    | nil => exact .nil
    | @cons p q ps qs h t ih =>
      rw [List.map_cons, List.map_cons]
      refine .cons ?_ ih
      obtain ⟨h1, h2, h3⟩ := h
      unfold putAt
      by_cases e : p.1 = k
      · rw [if_pos e, if_pos (by rw [← h1, e])]
        exact ⟨h1, h2, rv⟩
      · rw [if_neg e, if_neg (fun z => e (kI_inj (h1.trans z)))]
        exact ⟨h1, h2, h3⟩
  · rw [if_neg q, if_neg q]
    exact Paired.snoc r ⟨rfl, rfl, rv⟩
/-- d[k] = v -/
def sXPut (X : Cx) (td ty tv : TE) : TS := fun D σ H => tv σ H fun v H1 => td σ H1 fun x H2 => ty σ H2 fun y H3 => ∃ (a b : Addr) (xs : List En) (k : List Int), x = .ref a ∧ y = .ref b ∧ H3 a = some (dxO X.prog X.w a xs) ∧ DxK X.K H3 xs ∧ SqT X.K H3 b (k.map V.int) ∧ xs.length < sizeLine ∧
  D.nx σ (upd H3 a (dxO X.prog X.w a (putX xs k b v)))
theorem ps_xput {o i value : Expr} {td ty tv : TE} {pos pos' : Pos} (hu : X.A.units + 1 < cLine) (ho : PE X o td) (hi : PE X i ty) (hv : PE X value tv) (hs : swapsWith value (some (.Subscript o i pos')) pos.line X.env = pure false) :
    PS X (.Assign [.Subscript o i pos'] value pos) (sXPut X td ty tv) := by
  refine ⟨fun pins s σ H D I h => ?_⟩
  refine wpAny_Assign_Subscript (thn (hv.run pins s σ H _ I h) fun r s1 ⟨v, H1, I1, rv, q1⟩ => thn (ho.run pins s1 σ H1 _ I1 q1) fun u s2 ⟨x, H2, I2, rx, q2⟩ => thn (hi.run pins s2 σ H2 _ I2 q2) fun iv s3 ⟨y, H3, I3, ry, a, b, xs, k, ex, ey, hd, hx, hk, lx, q3⟩ => ?_) hs
  subst ex
  subst ey
  obtain rfl : u = Value.ref a := rx
  obtain rfl : iv = Value.ref b := ry
  obtain ⟨z, hsm, ys, rel, dd⟩ := dx_rd I3 (.inl hd) hx
  have hz : ys.length ≤ sizeLine := by rw [← Paired.length rel]; exact z
  have hl : (putX xs k b v).length ≤ sizeLine := by have := @len_putX xs k b v; omega
  refine wpAny_setItem_heap (hsz := hz) (tupleKind_room_in1 hu) (key_any (k := kI k) I3 (by rw [kI_V]; exact hk)) dd fun h' dd' hsb => ?_
  obtain ⟨q, es, ep, hq, h2, h3, h4, _, h5⟩ := dd'
  exact ⟨σ, _, d_write (ob := dxO X.prog X.w a (putX xs k b v)) I3 (by rw [hd]; exact True.intro) hsb ⟨q, hq⟩ (dxO_ok hl hsm (rel_put rel k rv) hq h2 h3 h4 h5), q3⟩
end
end DX
set_option maxHeartbeats 4000000
/-! {k: v}, one pair, its key a tuple of ints that stands anywhere; an empty one -/
namespace DX
open PySem PySem.Spec PyProof.Rows L2
section
variable {X : Cx}
theorem dx_empty {P : Program} {w : World} {H : Hp} (h : Heap) (hb : sysModules < h.objs.size) : ObjOk P w H (h.push { cls := .type "dict", data := .dict #[] }) h.objs.size (dxO P w h.objs.size []) :=
  dxO_ok (ys := []) (Nat.zero_le _) (beq_eq_false_iff_ne.mpr (Ne.symm (Nat.ne_of_lt hb))) .nil (Heap.get?_push_size _ rfl) ⟨rfl, rfl, rfl⟩ rfl rfl List.nodup_nil
def tXDisp (X : Cx) (tk tv : TE) : TE := fun σ H Q => ∀ p, H p = none → tPairs [(tk, tv)] σ (upd H p (dxO X.prog X.w p [])) fun ps H2 => ∃ (x y : V) (b : Addr) (k : List Int), ps = [(x, y)] ∧ x = .ref b ∧ H2 p = some (dxO X.prog X.w p []) ∧ SqT X.K H2 b (k.map V.int) ∧ Q (.ref p) (upd H2 p (dxO X.prog X.w p [(k, b, y)]))
theorem pe_xdisp {k v : Expr} {tk tv : TE} {pos : Pos} (hu : X.A.units + 1 < cLine) (hk : PE X k tk) (hv : PE X v tv) : PE X (.Dict [some k] [v] pos) (tXDisp X tk tv) := by
  refine ⟨fun pins s σ H Q I q => ?_⟩
  have hn := I.hok.fresh (Nat.le_refl s.heap.objs.size)
  have I1 := I.laid (a := s.heap.objs.size) (o := dxO X.prog X.w s.heap.objs.size []) (h' := s.heap.push { cls := .type "dict", data := .dict #[] }) (t' := s.toks) (fun _ _ q => Heap.get?_push_of_some _ q) (Nat.le_refl _) (dx_empty s.heap I.big)
  refine wpAny_Dict_any rfl rfl (by simp) (by show 1 ≤ 15; decide) (thn ((pps_cons hk hv pps_nil).run pins _ σ _ _ I1 (q _ hn)) fun ws s2 ⟨ps, H2, I2, rel, x, y, b, k, eps, ex, e, hb, q2⟩ => ?_)
  subst eps
  subst ex
  cases rel with
  | @cons _ w' _ _ r t =>
    cases t
    obtain ⟨r1, r2⟩ := r
    obtain ⟨u, r'⟩ := w'
    obtain rfl : u = Value.ref b := r1
    obtain ⟨z, hsm, ys, rel, dd⟩ := dx_rd I2 (.inl e) (fun x hx => absurd hx List.not_mem_nil)
    cases rel
    unfold storeAll
    rw [List.forIn_cons]
    refine wpAny_bind (wpAny_bind (wpAny_dictSet_heap (hsz := Nat.zero_le _) (show X.A.units < cLine by omega) (key_any (k := kI k) I2 (by rw [kI_V]; exact hb)) dd fun h' dd' hs => wpAny_pure ?_))
    dsimp only
    rw [List.forIn_nil]
    refine wpAny_pure ?_
    obtain ⟨q', es, ep, hq, h2, h3, h4, _, h5⟩ := dd'
    exact ⟨.ref s.heap.objs.size, _, d_write (ob := dxO X.prog X.w s.heap.objs.size [(k, b, y)]) I2 (by rw [e]; exact True.intro) hs ⟨q', hq⟩ (dxO_ok (by show 1 ≤ sizeLine; rw [sizeLine_eq]; decide) hsm (.cons ⟨rfl, rfl, r2⟩ .nil) hq h2 h3 h4 h5), rfl, q2⟩
end
end DX
set_option maxHeartbeats 4000000
/-! d.get(k, x) of such a dict -/
namespace DX
open PySem PySem.Spec PyProof.Rows L2
section
variable {X : Cx}
/-- d stands there as such a dict when the call begins, and when it is asked -/
def tXGet2 (X : Cx) (td ty tx : TE) : TE := fun σ H Q => td σ H fun x H1 => ∃ (a : Addr) (ws : List En), x = .ref a ∧ RdX X H1 a ws ∧ DxK X.K H1 ws ∧ ty σ H1 fun y H2 => tx σ H2 fun z H3 => ∃ (b : Addr) (xs : List En) (k : List Int), y = .ref b ∧ RdX X H3 a xs ∧ DxK X.K H3 xs ∧ SqT X.K H3 b (k.map V.int) ∧ Q ((valX xs k).getD z) H3
theorem pe_xget2 {o e f : Expr} {td ty tx : TE} {apos cpos : Pos} (hu : X.A.units + 1 < cLine) (ho : PE X o td) (he : PE X e ty) (hf : PE X f tx) (m : M2 X o "get" apos e f cpos) : PE X (.Call (.Attribute o "get" apos) [e, f] [] cpos) (tXGet2 X td ty tx) := by
  refine ⟨fun pins s σ H Q I h => ?_⟩
  refine wpAny_Call_method m.base m.few m.line PySem.F.plainAttrs_dict PySem.F.slot_dict_get PySem.F.type_dict_get (thn (ho.run pins s σ H _ I h) fun u s1 ⟨x, H1, I1, rx, a, ws, ex, d, dk, q1⟩ => ?_)
  subst ex
  obtain rfl : u = Value.ref a := rx
  obtain ⟨_, _, ys0, _, dd0⟩ := dx_rd I1 d dk
  obtain ⟨ob, es, ep, e1, e2, _⟩ := id dd0
  refine ⟨dd0.typeIs, fun c ec => by cases ec; exact ⟨ob, e1, e2.2.1⟩, ?_⟩
  rw [m.trees]
  refine Calls.callWith_builtin rfl (Calls.evalArgs_plain (Calls.spliced_cons (thn (he.run pins s1 σ H1 _ I1 q1) fun iv s2 ⟨y, H2, I2, ry, q2⟩ =>
    Calls.spliced_cons (thn (hf.run pins s2 σ H2 _ I2 q2) fun fv s3 ⟨z, H3, I3, rz, b, xs, k, ey, hd, hx, hk, q3⟩ => Calls.spliced_nil ?_))))
  subst ey
  obtain rfl : iv = Value.ref b := ry
  obtain ⟨_, hs, ys, rel, dd⟩ := dx_rd I3 hd hx
  exact call_meetsIn PySem.F.slot_dict_get dd.typeIs PySem.F.entry_dict_get (PySem.F.args_dict_get_3 _ _ _) (meetsH_dict_get_default (tupleKind (mixKind X.prog X.w)) a b hs fv) ⟨tupleKind_room_in1 hu, kI k, ys, key_any (k := kI k) I3 (by rw [kI_V]; exact hk), dd, _, H3, I3.tok _, (rel_val rel k).getD rz, q3⟩
end
end DX
set_option maxHeartbeats 4000000
/-! d.setdefault(k, x) of such a dict -/
namespace DX
open PySem PySem.Spec PyProof.Rows L2
section
variable {X : Cx}
theorem put_none {xs : List En} {k : List Int} {b : Addr} {v : V} (h : valX xs k = none) : putX xs k b v = xs ++ [(k, b, v)] := by
  unfold putX
  rw [h]
  rfl
def tXSetd (X : Cx) (td ty tx : TE) : TE := fun σ H Q => td σ H fun x H1 => ∃ (a : Addr) (ws : List En), x = .ref a ∧ RdX X H1 a ws ∧ DxK X.K H1 ws ∧ ty σ H1 fun y H2 => tx σ H2 fun z H3 => ∃ (b : Addr) (xs : List En) (k : List Int), y = .ref b ∧ H3 a = some (dxO X.prog X.w a xs) ∧ DxK X.K H3 xs ∧ SqT X.K H3 b (k.map V.int) ∧ xs.length < sizeLine ∧
  (∀ v, valX xs k = some v → Q v H3) ∧ (valX xs k = none → Q z (upd H3 a (dxO X.prog X.w a (xs ++ [(k, b, z)]))))
theorem pe_xsetd {o e f : Expr} {td ty tx : TE} {apos cpos : Pos} (hu : X.A.units + 1 < cLine) (ho : PE X o td) (he : PE X e ty) (hf : PE X f tx) (m : M2 X o "setdefault" apos e f cpos) : PE X (.Call (.Attribute o "setdefault" apos) [e, f] [] cpos) (tXSetd X td ty tx) := by
  refine ⟨fun pins s σ H Q I h => ?_⟩
  refine wpAny_Call_method m.base m.few m.line PySem.F.plainAttrs_dict PySem.F.slot_dict_setdefault PySem.F.type_dict_setdefault (thn (ho.run pins s σ H _ I h) fun u s1 ⟨x, H1, I1, rx, a, ws, ex, d, dk, q1⟩ => ?_)
  subst ex
  obtain rfl : u = Value.ref a := rx
  obtain ⟨_, _, ys0, _, dd0⟩ := dx_rd I1 d dk
  obtain ⟨ob, es, ep, e1, e2, _⟩ := id dd0
  refine ⟨dd0.typeIs, fun c ec => by cases ec; exact ⟨ob, e1, e2.2.1⟩, ?_⟩
  rw [m.trees]
  refine Calls.callWith_builtin rfl (Calls.evalArgs_plain (Calls.spliced_cons (thn (he.run pins s1 σ H1 _ I1 q1) fun iv s2 ⟨y, H2, I2, ry, q2⟩ =>
    Calls.spliced_cons (thn (hf.run pins s2 σ H2 _ I2 q2) fun fv s3 ⟨z, H3, I3, rz, b, xs, k, ey, hd, hx, hk, lx, q3, q4⟩ => Calls.spliced_nil ?_))))
  subst ey
  obtain rfl : iv = Value.ref b := ry
  obtain ⟨zl, hs, ys, rel, dd⟩ := dx_rd I3 (.inl hd) hx
  have hz : ys.length ≤ sizeLine := by rw [← Paired.length rel]; exact zl
  have rv := rel_val rel k
  refine call_setdefault_heap (knd := tupleKind (mixKind X.prog X.w)) (k := kI k) (tupleKind_room_in1 hu) (key_any (k := kI k) I3 (by rw [kI_V]; exact hk)) hs dd (fun p hp => ?_) (fun hn h' dd' hsb => ?_) hz
  · rw [hp] at rv
    cases e : valX xs k with
    | none =>
      rw [e] at rv
      exact (show False from rv).elim
    | some v =>
      rw [e] at rv
      exact ⟨v, H3, I3.tok _, rv, q3 v e⟩
  · rw [hn] at rv
    cases e : valX xs k with
    | some v =>
      rw [e] at rv
      exact (show False from rv).elim
    | none =>
      have rp := rel_put rel k (b := b) rz
      rw [put_none e] at rp
      obtain ⟨q, es, ep, hq, h2, h3, h4, _, h5⟩ := dd'
      have hl : (xs ++ [(k, b, z)]).length ≤ sizeLine := by
        rw [List.length_append, List.length_singleton]
        omega
      exact ⟨z, _, d_write (ob := dxO X.prog X.w a (xs ++ [(k, b, z)])) I3 (by rw [hd]; exact True.intro) hsb ⟨q, hq⟩ (dxO_ok hl hs rp hq h2 h3 h4 h5), rz, q4 e⟩
end
end DX
set_option maxHeartbeats 4000000
/-! a law's def at the caller itself -/
namespace L2
open PySem PySem.Spec PyProof.Rows
/-- a def's body, run at the caller -/
theorem run_at {CX : CXT} {P : Program} {w : World} {K : PySem.W.Frag} {mg : Str → Option Value} {base : Heap} {k : Nat} {A : Around} {outer : List Env} {f : Addr} {name qual : Str} {params : Arguments} {body : List Stmt} {scope : Scope} {dV kV doc pm cdv ct oc : Value} {an od : Option Addr}
    {osl : Array (Option Value)} {N ps : List Str} {s : Shared} {H : Hp} {args : Args} {us : List Value} {vs : List V} {Q : VK} {E : XK} (lk : K.lookup f = some ⟨oc, od, .func (PySem.W.fnOf name qual params body scope dV kV doc pm an cdv ct), osl⟩) (hcd : PySem.W.codeIn K cdv qual = true) (S : FnScope N ps scope)
    (hl : vs.length = ps.length) (hr : Room (k + 1) A) (e0 : Env0 P w K mg base A outer s H) (hb : BindsTo s (PySem.W.fnOf name qual params body scope dV kV doc pm an cdv ct) args (ps.zip us)) (r : Vals vs us)
    (hbody : ∃ t, PSs (cxOf CX P w K mg base N qual scope f cdv A outer s H E) body t ∧ t { nx := fun _ H' => Q .non H', rt := Q } (start N vs) H) :
    codeAny (model P w) A (.call (.ref f) args) (CR CX outer P w H s Q E) s := by
  have KX : K.In s.heap := e0.mod.kin.keeps fun b o e => (e0.bs b o e).1
  have lim : s.heap.NoLimit := e0.mod.nolimit.keeps fun b o e => (e0.bs b o e).1
  have hkind : ∀ y ∈ ps.zip us, scope.names.lookup y.1 = some .local ∨ (scope.names.lookup y.1 = some .cell ∧ ((cellsFrom (s.heap.objs.size + 1) scope.names []).lookup y.1).isSome = true) := fun y hy => by
    have hm : y.1 ∈ ps := (List.of_mem_zip (show (y.1, y.2) ∈ ps.zip us from hy)).1
    exact (S.par y.1 hm).imp id fun q => ⟨q, PySem.W.cellsFrom_some _ _ _ (.inl q)⟩
  refine codeAny_call_function hr.depth (KX _ _ lk) rfl S.co S.gen rfl (PySem.W.codeRec_of KX hcd) (hb _ _ _ _ ?_)
  refine wpAny_newFunctionEnv_cells S.kind hkind fun env he s1 x => ?_
  subst he
  refine ⟨lim.keeps x.toInCall.keep, codeAny_func ?_⟩
  obtain ⟨t, ht, hq⟩ := hbody
  have I := inv_start (CX := CX) (E := E) S hr.hd e0 hl r x
  refine wpAny_mono (ht.run [] s1 (start N vs) H _ I hq) (fun fl s' hs => ?_) fun e s' hs => hs
  cases fl with
  | ret u =>
    obtain ⟨v, σ', H', J, rv, q⟩ := hs
    exact ⟨v, H', J.os, J.bare, J.base, J.hok, rv, q⟩
  | next =>
    obtain ⟨σ', H', J, q⟩ := hs
    exact ⟨V.non, H', J.os, J.bare, J.base, J.hok, rfl, q⟩
  | brk =>
    obtain ⟨_, _, _, q⟩ := hs
    exact False.elim q
  | cont =>
    obtain ⟨_, _, _, q⟩ := hs
    exact False.elim q

/-- what is asked of a law's def: at the caller, wherever the script stands, it gives True -/
def GoodAt (P : Program) (w : World) (K : PySem.W.Frag) (mg : Str → Option Value) (fa : Addr) (n : Nat) : Prop :=
  ∀ (base : Heap) (s : Shared) (H : Hp) (a : Addr) (ns : List Int), ns.length ≤ n → Env0 P w K mg base callerA [] s H → Only H → SqL K H a (ns.map V.int) →
    codeAny (model P w) callerA (.call (.ref fa) ⟨[.ref a], []⟩) (CR CX0 [] P w H s (fun v _ => v = .bl true) E0) s

theorem good_call {P : Program} {w : World} {K : PySem.W.Frag} {mg mb : Str → Option Value} {n : Nat} {fa a : Addr} {s₁ : Shared} {vs : List Value} {ns : List Int}
    (KX : K.In s₁.heap) (hns : s₁.heap.Ns mainGlobals mg) (hb : s₁.heap.Ns builtinsNs mb) (hbb : ∀ x : Str, x ≠ "__name__" → mb x = bootBuiltins x) (hlim : s₁.heap.NoLimit) (hg : s₁.gens = #[])
    (ha : s₁.heap.get? a = some { cls := .type "list", data := .seq vs.toArray }) (hi : IntsAre vs ns) (hl : ns.length ≤ n) (hn : n ≤ sizeLine) (F : GoodAt P w K mg fa n) :
    codeAny (model P w) callerA (.call (.ref fa) ⟨[.ref a], []⟩) (fun r s' => r = .ok (.ret (.bool true)) ∧ OldK s₁.heap s'.heap ∧ s'.os = s₁.os ∧ AllBare s'.gens) s₁ := by
  have rv := vals_ints hi
  have lenV := hi.length
  have hls : ns.length ≤ sizeLine := Nat.le_trans hl hn
  have main : ∀ H : Hp, Only H → SqL K H a (ns.map V.int) → HOk P w H s₁.heap → (∀ b, H b ≠ none → b = a) → (H a ≠ none → K.lookup a = none) →
      codeAny (model P w) callerA (.call (.ref fa) ⟨[.ref a], []⟩) (fun r s' => r = .ok (.ret (.bool true)) ∧ OldK s₁.heap s'.heap ∧ s'.os = s₁.os ∧ AllBare s'.gens) s₁ := by
    intro H hO hS hok hA hK
    have isA : ∀ {b : Addr} {u : HO}, H b = some u → b = a := fun {b u} q => hA b (by rw [q]; exact fun z => nomatch z)
    have free : ∀ {b : Addr}, b ≠ a → H b = none := fun {b} hb => by
      cases q : H b with
      | none => rfl
      | some u => exact absurd (isA q) hb
    have nsK : ∀ {b : Addr} {m : Str → Option Value}, s₁.heap.Ns b m → (hidT s₁.heap H).Ns b m := fun {b m} ⟨o, es, ep, e, d, r⟩ => ⟨o, es, ep, hidT_get e (free fun z => by
      rw [z, ha] at e
      cases e
      cases d), d, r⟩
    have hKb : K.In (hidT s₁.heap H) := fun b o e => hidT_get (KX b o e) (by
      cases q : H b with
      | none => rfl
      | some u =>
        have z := isA q
        subst z
        have z2 := hK (by rw [q]; exact fun z => nomatch z)
        rw [e] at z2
        cases z2)
    obtain ⟨mc, l1, l2⟩ := hlim
    have e0 : Env0 P w K mg (hidT s₁.heap H) callerA [] s₁ H :=
      ⟨rfl, ⟨hKb, nsK hns, ⟨mb, nsK hb, hbb⟩, ⟨mc, nsK l1, l2⟩⟩, fun b o e => of_hidT e, Nat.le_of_eq (hidT_size _ _), trivial, fun b hb => absurd hb List.not_mem_nil, hok, .of_eq hg⟩
    refine codeAny_mono (F _ s₁ H a ns hl e0 hO hS) fun r s' h => ?_
    cases r with
    | error e => exact False.elim h
    | ok fl =>
      cases fl with
      | next => exact False.elim h
      | brk => exact False.elim h
      | cont => exact False.elim h
      | ret u =>
        obtain ⟨v, H', os, bare, un, hok', r', q⟩ := h
        have q' : v = .bl true := q
        subst q'
        obtain rfl : u = Value.bool true := r'
        refine ⟨rfl, OldK.of_keep fun b o e => ?_, os, bare⟩
        cases q : H b with
        | none => exact un.keep b o e q List.not_mem_nil List.not_mem_nil
        | some u =>
          rcases hO b with z | ⟨ob, xs, z⟩
          · rw [q] at z
            cases z
          · obtain ⟨e1, _⟩ := hok b _ z
            obtain ⟨e2, _⟩ := hok' b _ (un.frzs b ob _ z)
            rw [e] at e1
            cases e1
            exact e2
  cases hk : K.lookup a with
  | some o =>
    have e := KX a o hk
    rw [ha] at e
    cases e
    exact main (fun _ => none) (fun _ => .inl rfl) (.inr ⟨_, vs.toArray, _, hk, rfl, rfl, rfl, by rw [List.size_toArray, lenV]; exact hls, by simpa using rv⟩) (fun b u z => nomatch z) (fun b z => absurd rfl z) fun z => absurd rfl z
  | none =>
    let o : Obj := { cls := .type "list", data := .seq vs.toArray }
    have at_a : ∀ b, (if b = a then some (HO.frz o (.lst (ns.map V.int))) else none) = none ∨ b = a := fun b => by
      by_cases hb : b = a
      · exact .inr hb
      · exact .inl (if_neg hb)
    refine main (fun b => if b = a then some (.frz o (.lst (ns.map V.int))) else none) (fun b => ?_) (.inl (.inr ⟨o, if_pos rfl⟩)) (fun b u z => ?_) (fun b z => ?_) fun _ => hk
    · exact (at_a b).imp id fun hb => ⟨_, _, if_pos hb⟩
    · rcases at_a b with q | hb
      · rw [show (fun b => if b = a then some (HO.frz o (.lst (ns.map V.int))) else none) b = none from q] at z
        cases z
      · rw [show (fun b => if b = a then some (HO.frz o (.lst (ns.map V.int))) else none) b = some (.frz o (.lst (ns.map V.int))) from if_pos hb] at z
        cases z
        subst hb
        exact ⟨ha, by rw [List.length_map]; exact hls, vs, _, rv, ha⟩
    · exact (at_a b).resolve_left z

/-- the goal that k_head leaves, from GoodAt -/
theorem walk_at {l : PySem.W.OpenLaw} {n : Nat} {q : Program} {loose : List Str} {XP : (Str → Option Value) → Heap → Prop} {YP : World → Heap → Prop} {d : DefRec} {K : Params → PySem.W.Frag}
    (hn : l.most = some n) (hn2 : n ≤ sizeLine) (hdf : d.params.defaults = []) (hY : ∀ (w : World) (h : Heap), YP w h → (K w.params).In h)
    (F : ∀ (w : World) (mg : Str → Option Value) (fa : Addr) (h : Heap), (K w.params).In h → h.Ns mainGlobals mg → mg d.name = some (.ref fa) → GoodAt l.prog w (K w.params) mg fa n) :
    PySem.W.WalkO q loose XP YP l.row.toRowW d [] (fun f vs => PySem.call f vs) := by
  refine Att.attach_call hn hdf fun w s₀ s₁ mg mb fa o pm cd doc a vs ns G Y ho hd hcd hmg hobj hints hlen hg => ?_
  have KX := hY w _ Y
  exact good_call KX G.T.g G.T.b G.T.builtins G.T.nolimit hg hobj hints hlen hn2 (F w mg fa _ KX G.T.g hmg)
end L2
namespace K0
open PySem L2
theorem b01 (c : Bool) : (-2 ^ 64 < (if c = true then 1 else 0 : Int)) ∧ (if c = true then 1 else 0 : Int) < 2 ^ 64 := by cases c <;> decide
theorem fmod_nn (a : Int) {b : Int} (h : 0 < b) : 0 ≤ a.fmod b := by
  rw [Int.fmod_eq_emod_of_nonneg a (by omega)]
  exact Int.emod_nonneg a (by omega)
theorem fmod_lt (a : Int) {b : Int} (h : 0 < b) : a.fmod b < b := by
  rw [Int.fmod_eq_emod_of_nonneg a (by omega)]
  exact Int.emod_lt_of_pos a h
theorem paired_append {α β : Type} {F : α → β → Prop} {l2 : List α} {m2 : List β} (k : Paired F l2 m2) : ∀ {l1 : List α} {m1 : List β}, Paired F l1 m1 → Paired F (l1 ++ l2) (m1 ++ m2)
  | _, _, .nil => k
  | _, _, .cons r t => .cons r (paired_append k t)
theorem same_upd {H : Hp} {a : Addr} {o : HO} (n : H a = none) : Same H (upd H a o) := fun b u e => by
  rw [upd_ne (ne_of_none e n)]
  exact e
theorem pa_imp {X : Cx} {es : List Expr} {t t' : TA} (h : PA X es t) (k : ∀ σ H Q, t' σ H Q → t σ H Q) : PA X es t' := ⟨fun pos pins s σ H Q I q => h.run pos pins s σ H Q I (k σ H Q q)⟩
theorem pe_imp {X : Cx} {e : Expr} {t t' : TE} (h : PE X e t) (k : ∀ σ H Q, t' σ H Q → t σ H Q) : PE X e t' := ⟨fun pins s σ H Q I q => h.run pins s σ H Q I (k σ H Q q)⟩
theorem seqT_same {K : PySem.W.Frag} {H H' : Hp} {a : Addr} {xs : List V} (e : Same H H') (h : SqT K H a xs) : SqT K H' a xs := by
  rcases h with (h | ⟨o, h⟩) | h
  · exact .inl (.inl (e _ _ h))
  · exact .inl (.inr ⟨o, e _ _ h⟩)
  · exact .inr h
mutual
theorem dp_same {K : PySem.W.Frag} {H H' : Hp} (s : Same H H') : ∀ (d : PyData) (v : V), Dp K H v d → Dp K H' v d
  | .none, _, h => by
    cases h
    exact .non
  | .bool b, _, h => by
    cases h
    exact .bl b
  | .int i, _, h => by
    cases h
    exact .int i
  | .str x, _, h => by
    cases h
    exact .str x
  | .list ds, _, h => by
    cases h with
    | lst h1 h2 => exact .lst (s.seq h1) (dpAll_same s ds _ h2)
  | .tuple ds, _, h => by
    cases h with
    | tup h1 h2 => exact .tup (seqT_same s h1) (dpAll_same s ds _ h2)
  | .dict _, _, h => by cases h
theorem dpAll_same {K : PySem.W.Frag} {H H' : Hp} (s : Same H H') : ∀ (ds : List PyData) (vs : List V), DpAll K H vs ds → DpAll K H' vs ds
  | [], _, h => by
    cases h
    exact .nil
  | d :: ds, _, h => by
    cases h with
    | cons h1 h2 => exact .cons (dp_same s d _ h1) (dpAll_same s ds _ h2)
end
theorem eqv_shaped {d : PyData} (h : SeqAt.shaped d = true) : PyData.eqv d d = true := SeqAt.eqv_refl d (SeqAt.canLay_of_shaped h)
theorem same_over {H H' : Hp} {d : Addr} {o : HO} (s : Same H H') (n : H d = none) : Same H (upd H' d o) := fun b u e => by
  rw [upd_ne (ne_of_none e n)]
  exact s b u e
/-- a comprehension over a list that stands still: the i-th item is f i -/
theorem lc_fun {K : PySem.W.Frag} {a : Addr} {xs : List V} {te : TE} {j : Nat} {σ : St} {H1 : Hp} {D : Addr} {Qd : Hp → Prop} (f : Nat → V) (nD : H1 D = none) (ha : SqL K H1 a xs) (hz : xs.length ≤ 1000) (hw : ∀ x, wipe ((wipe σ [j]).set j (some x)) [j] = wipe σ [j])
    (he : ∀ i x H' Q, xs[i]? = some x → Same H1 H' → Q (f i) H' → te ((wipe σ [j]).set j (some x)) H' Q) (hd : ∀ H', Same H1 H' → H' D = some (.lst ((List.range xs.length).map f)) → Qd H') :
    ∃ W : Nat → Nat → Hp → Prop, (∃ m, W 0 m (upd H1 D (.lst []))) ∧ ∀ i m H, W i m H →
      ((Itl K a).stop i H ∧ Qd H) ∨ ((Itl K a).go i H ∧ ∃ Nx : Hp → Prop, (∀ H', Nx H' → ∃ m', m' < m ∧ W (i + 1) m' H') ∧ ∀ x H', (Itl K a).yld i H x H' → (gName j) x (wipe σ [j]) H' fun σ2 H2 => wipe σ2 [j] = wipe σ [j] ∧ tYes σ2 H2 fun b H3 =>
        if b = true then te σ2 H3 fun y H4 => ∃ acc, H4 D = some (.lst acc) ∧ acc.length < sizeLine ∧ Nx (upd H4 D (.lst (acc ++ [y]))) else Nx H3) := by
  refine lc_list (K := K) (a := a) (xs := xs) (fun i H' => i ≤ xs.length ∧ Same H1 H' ∧ H' D = some (.lst ((List.range i).map f))) ⟨Nat.zero_le _, same_upd nD, upd_same⟩ (fun i H' _ ⟨_, s, _⟩ => s.seq ha) ?_ (fun H' ⟨_, s, h⟩ => hd H' s h)
  intro i x H' hi ⟨hle, s, h⟩
  have hlt := (List.getElem?_eq_some_iff.mp hi).1
  refine ⟨hw x, ?_⟩
  unfold tYes
  dsimp only
  rw [if_pos rfl]
  refine he i x H' _ hi s ⟨_, h, ?_, hlt, same_over s nD, ?_⟩
  · rw [List.length_map, List.length_range, sizeLine_eq]
    omega
  · rw [upd_same, List.range_succ, List.map_append]
    rfl
/-- .. over a range -/
theorem lc_funR {n : Nat} {te : TE} {j : Nat} {σ : St} {H1 : Hp} {D : Addr} {Qd : Hp → Prop} (f : Nat → V) (nD : H1 D = none) (hz : n ≤ 1000) (hw : ∀ x, wipe ((wipe σ [j]).set j (some x)) [j] = wipe σ [j])
    (he : ∀ i H' Q, i < n → Same H1 H' → Q (f i) H' → te ((wipe σ [j]).set j (some (.int (0 + (i : Int))))) H' Q) (hd : ∀ H', Same H1 H' → H' D = some (.lst ((List.range n).map f)) → Qd H') :
    ∃ W : Nat → Nat → Hp → Prop, (∃ m, W 0 m (upd H1 D (.lst []))) ∧ ∀ i m H, W i m H →
      ((Itr 0 n).stop i H ∧ Qd H) ∨ ((Itr 0 n).go i H ∧ ∃ Nx : Hp → Prop, (∀ H', Nx H' → ∃ m', m' < m ∧ W (i + 1) m' H') ∧ ∀ x H', (Itr 0 n).yld i H x H' → (gName j) x (wipe σ [j]) H' fun σ2 H2 => wipe σ2 [j] = wipe σ [j] ∧ tYes σ2 H2 fun b H3 =>
        if b = true then te σ2 H3 fun y H4 => ∃ acc, H4 D = some (.lst acc) ∧ acc.length < sizeLine ∧ Nx (upd H4 D (.lst (acc ++ [y]))) else Nx H3) := by
  refine lc_range (lo := 0) (n := n) (fun i H' => i ≤ n ∧ Same H1 H' ∧ H' D = some (.lst ((List.range i).map f))) ⟨Nat.zero_le _, same_upd nD, upd_same⟩ ?_ (fun H' ⟨_, s, h⟩ => hd H' s h)
  intro i H' hlt ⟨hle, s, h⟩
  refine ⟨hw _, ?_⟩
  unfold tYes
  dsimp only
  rw [if_pos rfl]
  refine he i H' _ hlt s ⟨_, h, ?_, hlt, same_over s nD, ?_⟩
  · rw [List.length_map, List.length_range, sizeLine_eq]
    omega
  · rw [upd_same, List.range_succ, List.map_append]
    rfl
theorem map_range_const {α : Type} (x : α) (n : Nat) : (List.range n).map (fun _ => x) = List.replicate n x := by
  induction n with
  | zero => rfl
  | succ n ih => rw [List.range_succ, List.map_append, ih, List.replicate_succ']; rfl
end K0
/-! data -/
namespace K1
open PySem L2
mutual
/-- a value that is data: lists are tracked or written, dicts empty -/
inductive DQ (K : PySem.W.Frag) (H : Hp) : V → PyData → Prop
  | non : DQ K H .non .none
  | bl (b : Bool) : DQ K H (.bl b) (.bool b)
  | int (i : Int) : DQ K H (.int i) (.int i)
  | str (x : Str) (h : x.length ≤ 1000) : DQ K H (.str x) (.str x)
  | lst {a : Addr} {xs : List V} {ds : List PyData} : SqL K H a xs → DQs K H xs ds → DQ K H (.ref a) (.list ds)
  | tup {a : Addr} {xs : List V} {ds : List PyData} : SqT K H a xs → DQs K H xs ds → DQ K H (.ref a) (.tuple ds)
  | dct {a : Addr} : H a = some (.dK []) → DQ K H (.ref a) (.dict [])
inductive DQs (K : PySem.W.Frag) (H : Hp) : List V → List PyData → Prop
  | nil : DQs K H [] []
  | cons {v : V} {vs : List V} {d : PyData} {ds : List PyData} : DQ K H v d → DQs K H vs ds → DQs K H (v :: vs) (d :: ds)
end
mutual
theorem DQ.same {K : PySem.W.Frag} {H H' : Hp} (s : Same H H') : ∀ (d : PyData) (v : V), DQ K H v d → DQ K H' v d
  | .none, _, h => by
    cases h
    exact .non
  | .bool b, _, h => by
    cases h
    exact .bl b
  | .int i, _, h => by
    cases h
    exact .int i
  | .str x, _, h => by
    cases h with
    | str _ h => exact .str x h
  | .list ds, _, h => by
    cases h with
    | lst h1 h2 => exact .lst (s.seq h1) (DQs.same s ds _ h2)
  | .tuple ds, _, h => by
    cases h with
    | tup h1 h2 => exact .tup (K0.seqT_same s h1) (DQs.same s ds _ h2)
  | .dict [], _, h => by
    cases h with
    | dct h => exact .dct (s _ _ h)
  | .dict (_ :: _), _, h => by cases h
theorem DQs.same {K : PySem.W.Frag} {H H' : Hp} (s : Same H H') : ∀ (ds : List PyData) (vs : List V), DQs K H vs ds → DQs K H' vs ds
  | [], _, h => by
    cases h
    exact .nil
  | d :: ds, _, h => by
    cases h with
    | cons h1 h2 => exact .cons (DQ.same s d _ h1) (DQs.same s ds _ h2)
end
theorem DQ.to {K : PySem.W.Frag} {H H' : Hp} {d : PyData} {v : V} (h : DQ K H v d) (s : Same H H') : DQ K H' v d := DQ.same s d v h
theorem DQs.len {K : PySem.W.Frag} {H : Hp} : ∀ {vs : List V} {ds : List PyData}, DQs K H vs ds → vs.length = ds.length
  | _, _, .nil => rfl
  | _, _, .cons _ t => by rw [List.length_cons, List.length_cons, t.len]
theorem DQs.get {K : PySem.W.Frag} {H : Hp} : ∀ {vs : List V} {ds : List PyData} {i : Nat} {d : PyData}, DQs K H vs ds → ds[i]? = some d → ∃ v, vs[i]? = some v ∧ DQ K H v d
  | _, _, i, d, .nil, h => by simp at h
  | _, _, 0, d, .cons r t, h => by
    simp at h
    subst h
    exact ⟨_, rfl, r⟩
  | _, _, i + 1, d, .cons r t, h => by
    obtain ⟨v, h1, h2⟩ := t.get (i := i) (d := d) (by simpa using h)
    exact ⟨v, by simpa using h1, h2⟩
/-- the name of its type -/
def tyD : PyData → String
  | .none => "NoneType"
  | .bool _ => "bool"
  | .int _ => "int"
  | .str _ => "str"
  | .list _ => "list"
  | .tuple _ => "tuple"
  | .dict _ => "dict"
def isInt : PyData → Bool
  | .int _ => true
  | .bool _ => true
  | _ => false
def isBool : PyData → Bool
  | .bool _ => true
  | _ => false
def isStr : PyData → Bool
  | .str _ => true
  | _ => false
def isTup : PyData → Bool
  | .tuple _ => true
  | _ => false
theorem kit_int (d : PyData) : kitB (tyD d) "int" = some (isInt d) := by cases d <;> (simp only [tyD, isInt]; decide +kernel)
theorem kit_bool (d : PyData) : kitB (tyD d) "bool" = some (isBool d) := by cases d <;> (simp only [tyD, isBool]; decide +kernel)
theorem kit_str (d : PyData) : kitB (tyD d) "str" = some (isStr d) := by cases d <;> (simp only [tyD, isStr]; decide +kernel)
theorem kit_tup (d : PyData) : kitB (tyD d) "tuple" = some (isTup d) := by cases d <;> (simp only [tyD, isTup]; decide +kernel)
theorem tyX_of {K : PySem.W.Frag} {H : Hp} {v : V} {d : PyData} (h : DQ K H v d) : TyX K H v (.type (tyD d)) := by
  cases h with
  | non => exact .base .non
  | bl b => exact .base (.bl b)
  | int i => exact .base (.int i)
  | str x _ => exact .base (.str x)
  | lst h _ =>
    rcases h with (h | ⟨o, h⟩) | ⟨o, its, n, h1, h2, _⟩
    · exact .base (.lst h)
    · exact .base (.frz h)
    · exact .kList h1 h2
  | tup h _ =>
    rcases h with (h | ⟨o, h⟩) | ⟨o, its, n, h1, h2, _⟩
    · exact .base (.tup h)
    · exact .fTuple h
    · exact .kTuple h1 h2
  | dct h => exact .base (.dK h)
theorem isi_ask {K : PySem.W.Frag} {H : Hp} {v : V} {d : PyData} {n : String} {b : Bool} {Q : VK} (h : DQ K H v d) (e : kitB (tyD d) n = some b) (q : Q (.bl b) H) : rIsi K [v, .ty n] H Q :=
  ⟨v, .ty n, .type (tyD d), .type n, b, rfl, .ty n, tyX_of h, kit_ty e, q⟩
def numD : PyData → Bool
  | .int _ => true
  | _ => false
def fromD (lo hi : Int) : PyData → Bool
  | .int i => decide (lo ≤ i) && decide (i ≤ hi)
  | _ => false
def tupD (n : Nat) : PyData → Bool
  | .tuple ds => decide (ds.length = n)
  | _ => false
def holdsD : PyData → Bool
  | .str x => x == "block" || x == "let" || x == "sum" || x == "product"
  | _ => false
/-- a question of one value of data -/
def spD (K : PySem.W.Frag) (f : PyData → Bool) : Sp := fun vs H Q _ => ∃ v d, vs = [v] ∧ DQ K H v d ∧ ∀ H', Same H H' → Q (.bl (f d)) H'
def spFrom (K : PySem.W.Frag) : Sp := fun vs H Q _ => ∃ v d lo hi, vs = [v, .int lo, .int hi] ∧ DQ K H v d ∧ ∀ H', Same H H' → Q (.bl (fromD lo hi d)) H'
def top (i : Nat) : Stmt := PySem.Challenge.pw_sharedscopes_k67_whole_plain_programs_of.main.body.getD i (.Pass ⟨0, 0, 0, 0⟩)
/-- the built-ins' names are not the module's -/
structure Bi (mg : Str → Option Value) : Prop where
  isi : mg "isinstance" = none
  int : mg "int" = none
  bool : mg "bool" = none
  str : mg "str" = none
  tuple : mg "tuple" = none
  len : mg "len" = none
  all : mg "all" = none
/-- a def of the text, called by its name -/
structure Dn (K : PySem.W.Frag) (mg : Str → Option Value) (x : Str) (ps : List Str) (st : Stmt) (g : Addr) (fd : FuncData) : Prop where
  fn : Fun K x x st g fd
  bn : Binds K fd ps []
  mg : mg x = some (.ref g)
theorem DQ.item {K : PySem.W.Frag} {H : Hp} {v : V} {ds : List PyData} {i : Nat} {d : PyData} (h : DQ K H v (.tuple ds)) (hi : ds[i]? = some d) : ∃ a xs u, v = .ref a ∧ SqT K H a xs ∧ atI xs (i : Int) = some u ∧ DQ K H u d := by
  cases h with
  | tup h1 h2 =>
    obtain ⟨u, e, q⟩ := h2.get hi
    exact ⟨_, _, u, rfl, h1, atI_nat e, q⟩
/-- isinstance(v, a built-in type), of data -/
def rIsiD (K : PySem.W.Frag) : List V → Hp → VK → Prop := fun xs H Q => ∃ v d n b, xs = [v, .ty n] ∧ DQ K H v d ∧ kitB (tyD d) n = some b ∧ Q (.bl b) H
theorem call_isiD {X : Cx} : CallR X (.builtin "isinstance") (rIsiD X.K) := by
  intro pins s σ H xs us Q I r ⟨v, d, n, b, e, hd, hk, q⟩
  subst e
  exact call_isi pins s σ H _ us Q I r (isi_ask hd hk q)
section
variable {P : Program} {w : World} {K : PySem.W.Frag} {mg : Str → Option Value} {base : Heap}
end
theorem dec_len {a b : Nat} : decide (V.int (a : Int) = V.int (b : Int)) = decide (a = b) := by
  by_cases h : a = b
  · subst h
    rw [decide_eq_true rfl, decide_eq_true rfl]
  · rw [decide_eq_false h, decide_eq_false fun z => h ?_]
    injection z with z
    omega
/-- a comprehension over a text's signs -/
theorem lc_funS {z : Str} {te : TE} {j : Nat} {σ : St} {H1 : Hp} {D : Addr} {Qd : Hp → Prop} (f : Nat → V) (nD : H1 D = none) (hz : z.cps.size ≤ 1000) (hw : ∀ x, wipe ((wipe σ [j]).set j (some x)) [j] = wipe σ [j])
    (he : ∀ i c H' Q, z.cps[i]? = some c → Same H1 H' → Q (f i) H' → te ((wipe σ [j]).set j (some (.str ⟨#[c]⟩))) H' Q) (hd : ∀ H', Same H1 H' → H' D = some (.lst ((List.range z.cps.size).map f)) → Qd H') :
    ∃ W : Nat → Nat → Hp → Prop, (∃ m, W 0 m (upd H1 D (.lst []))) ∧ ∀ i m H, W i m H →
      ((Its z).stop i H ∧ Qd H) ∨ ((Its z).go i H ∧ ∃ Nx : Hp → Prop, (∀ H', Nx H' → ∃ m', m' < m ∧ W (i + 1) m' H') ∧ ∀ x H', (Its z).yld i H x H' → (gName j) x (wipe σ [j]) H' fun σ2 H2 => wipe σ2 [j] = wipe σ [j] ∧ tYes σ2 H2 fun b H3 =>
        if b = true then te σ2 H3 fun y H4 => ∃ acc, H4 D = some (.lst acc) ∧ acc.length < sizeLine ∧ Nx (upd H4 D (.lst (acc ++ [y]))) else Nx H3) := by
  refine lc_it (walk_str (z := z)) (fun i H' => i ≤ z.cps.size ∧ Same H1 H' ∧ H' D = some (.lst ((List.range i).map f))) ⟨Nat.zero_le _, K0.same_upd nD, upd_same⟩ (fun _ _ _ _ => trivial) ?_ (fun H' ⟨_, s, h⟩ => hd H' s h)
  rintro i x H2 H' hlt ⟨hle, s, h⟩ ⟨rfl, c, hc, rfl⟩
  refine ⟨hw _, ?_⟩
  unfold tYes
  dsimp only
  rw [if_pos rfl]
  refine he i c _ _ hc s ⟨_, h, ?_, hlt, K0.same_over s nD, ?_⟩
  · rw [List.length_map, List.length_range, sizeLine_eq]
    omega
  · rw [upd_same, List.range_succ, List.map_append]
    rfl
def ask {α : Type} (p : α → Bool) : Option α → Bool
  | some x => p x
  | none => true
theorem all_range {α : Type} (p : α → Bool) : ∀ (l : List α), ((List.range l.length).map fun i => ask p l[i]?).all id = l.all p := by
  intro l
  rw [Bool.eq_iff_iff]
  simp only [List.all_map, List.all_eq_true, List.mem_range, Function.comp, id]
  constructor
  · intro h x hx
    obtain ⟨i, hi, e⟩ := List.mem_iff_getElem.mp hx
    have z := h i hi
    rw [List.getElem?_eq_getElem hi] at z
    rw [e] at z
    exact z
  · intro h i hi
    rw [List.getElem?_eq_getElem hi]
    exact h _ (List.getElem_mem hi)
theorem in_holders (x : Str) : inV (.str x) [.str "block", .str "let", .str "sum", .str "product"] = (x == "block" || x == "let" || x == "sum" || x == "product") := by
  have c : ∀ y : Str, eqV (.str y) (.str x) = (x == y) := fun y => by
    show (y == x) = (x == y)
    rw [Bool.eq_iff_iff, beq_iff_eq, beq_iff_eq]
    exact ⟨Eq.symm, Eq.symm⟩
  unfold inV
  rw [List.any_cons, List.any_cons, List.any_cons, List.any_cons, List.any_nil, c, c, c, c, Bool.or_false, Bool.or_assoc, Bool.or_assoc]
theorem dec_str {x y : Str} : decide (V.str x = V.str y) = decide (x = y) := by
  by_cases h : x = y
  · rw [h, decide_eq_true rfl, decide_eq_true rfl]
  · rw [decide_eq_false h, decide_eq_false fun z => h (V.str.inj z)]
mutual
/-- data without dicts, for the hand layer's rules of == -/
theorem DQ.dp {K : PySem.W.Frag} {H : Hp} : ∀ (d : PyData) (v : V), d.hasDict = false → DQ K H v d → Dp K H v d
  | .none, _, _, h => by
    cases h
    exact .non
  | .bool b, _, _, h => by
    cases h
    exact .bl b
  | .int i, _, _, h => by
    cases h
    exact .int i
  | .str x, _, _, h => by
    cases h
    exact .str x
  | .list ds, _, n, h => by
    cases h with
    | lst h1 h2 => exact .lst h1 (DQs.dp ds _ n h2)
  | .tuple ds, _, n, h => by
    cases h with
    | tup h1 h2 => exact .tup h1 (DQs.dp ds _ n h2)
  | .dict _, _, n, _ => by cases n
theorem DQs.dp {K : PySem.W.Frag} {H : Hp} : ∀ (ds : List PyData) (vs : List V), PyData.hasDictAll ds = false → DQs K H vs ds → DpAll K H vs ds
  | [], _, _, h => by
    cases h
    exact .nil
  | d :: ds, _, n, h => by
    have z : (d.hasDict || PyData.hasDictAll ds) = false := n
    rw [Bool.or_eq_false_iff] at z
    cases h with
    | cons h1 h2 => exact .cons (DQ.dp d _ z.1 h1) (DQs.dp ds _ z.2 h2)
end
end K1
namespace K1
open PySem L2
def s_init : Stmt := match top 1 with
  | .ClassDef (body := b) .. => b.getD 0 (.Pass ⟨0, 0, 0, 0⟩)
  | s => s
/-- an error class of the program that tells: told -/
structure Er (K : PySem.W.Frag) (mg : Str → Option Value) (x : Str) (C fI : Addr) : Prop where
  mg : mg x = some (.ref C)
  ox : OexC K C
  xf : XfC K C
  noN : PySem.W.findIn K (.ref C) "told" = some none
  iC : PySem.W.findIn K (.ref C) "__init__" = some (some (.ref fI))
  tI : PySem.W.typeIn K (.ref fI) = some (.type "function")
  te : PySem.W.exmOne K (.ref C) (.ref C) = some true
  ini : ∃ fd, Fun K "__init__" "ScopeError.__init__" s_init fI fd ∧ Binds K fd ["self", "told"] []
def spIni (K : PySem.W.Frag) : Sp := fun vs H Q _ => ∃ (a C : Addr) (v : V), vs = [.ref a, v] ∧ OexC K C ∧ PySem.W.findIn K (.ref C) "told" = some none ∧ H a = some (exo a C none) ∧ ∀ dx, H dx = none → dx ≠ a → Q .non (upd (upd H dx (exd dx [("told", v)])) a (exo a C (some dx)))
section
variable {P : Program} {w : World} {K : PySem.W.Frag} {mg : Str → Option Value} {base : Heap}
theorem sc_init : FnScope ["self", "told"] ["self", "told"] (defScope s_init) := ⟨rfl, rfl, rfl, by decide +kernel, rfl, by decide +kernel, by decide +kernel⟩
theorem ok_init {f : Addr} {fd : FuncData} (F : Fun K "__init__" "ScopeError.__init__" s_init f fd) : FnOk P w K mg base CX0 1 f fd ["self", "told"] (spIni K) := by
  refine F.ok sc_init (fun vs H Q E h => ?_) (fun cdv A outer s H vs Q E hr h => ?_)
  · obtain ⟨a, C, v, rfl, _⟩ := h
    rfl
  · obtain ⟨a, C, v, rfl, T, hno, ha, k⟩ := h
    exact ⟨_, pss_one (ps_ost (pv 0) (pv 1)), _, rfl, _, rfl, a, C, rfl, T, hno, .inl ⟨ha, k⟩⟩
def up (t : TA) : TA := fun σ H Q => ∃ Q0 : List V → Hp → Prop, t σ H Q0 ∧ ∀ vs H1, Q0 vs H1 → Q vs H1
theorem pa_up {X : Cx} {es : List Expr} {t : TA} (h : PA X es t) : PA X es (up t) := ⟨fun pos pins s σ H Q I ⟨Q0, q, k⟩ => wpAny_mono (h.run pos pins s σ H Q0 I q) (fun us s1 ⟨vs, H1, I1, r, z⟩ => ⟨vs, H1, I1, r, k _ _ z⟩) fun _ _ z => z⟩
/-- X(e), to be raised -/
def tErr (C : Addr) (ta : TA) : St → Hp → XK → Prop := fun σ H Q => ta σ H fun vs H1 => ∃ v, vs = [v] ∧ ∀ H2 d, Same H1 H2 → H2 d = some (.xd [("told", v)]) → Q (.ref C) (some d) H2
theorem pmk_err {X : Cx} {x : Str} {C fI : Addr} {e : Expr} {ta : TA} {p pos : Pos} {k : Nat} (R : Er X.K X.mg x C fI) (hr : Room k X.A) (hk : 2 ≤ k) (ha : PA X [e] ta) (hg : Gl X x := by rfl) (hdb : (x == ("__debug__" : Str)) = false := by decide)
    (he : starEach (e :: []) X.env = (false, eval e X.env) :: starEach [] X.env := by rfl) (hpl : (backTo pos (starEach [] X.env)).any (·.1) = false := by rfl) : PMk X (.Call (.Name x p) [e] [] pos) (tErr C ta) := by
  obtain ⟨fd, F, hb⟩ := R.ini
  have G : FnOk X.prog X.w X.K X.mg X.base CX0 1 fI fd ["self", "told"] (spIni X.K) := ok_init F
  have M := pmk_oex (p := p) (dvs := []) R.ox R.iC R.tI G (hr.mono hk) hb .nil (fun _ _ _ _ _ _ _ h => h.elim) hg R.mg (pa_up ha) hdb he hpl
  intro pins s σ H Q I h
  refine M pins s σ H Q I ⟨_, h, fun vs H1 ⟨v, ev, q⟩ => ?_⟩
  subst ev
  refine ⟨(by show 1 ≤ 1000; decide), fun a na => ⟨a, C, v, rfl, R.ox, R.noN, upd_same, fun dx nd ne => ⟨rfl, dx, [("told", v)], upd_same, ?_, ?_, ?_⟩⟩⟩
  · rw [upd_ne ne, upd_same]
  · rw [upd_ne ne] at nd
    exact nd
  · have nd' : H1 dx = none := by
      rw [upd_ne ne] at nd
      exact nd
    refine q _ dx (fun b u hb => ?_) upd_same
    have h1 : b ≠ a := ne_of_none hb na
    have h2 : b ≠ dx := ne_of_none hb nd'
    rw [upd_ne h2, del_ne h1, upd_ne h1, upd_ne h2, upd_ne h1]
    exact hb

/-- nothing, or the error of the class at C that tells v -/
def okOr (C : Addr) (c : Bool) (v : V) (H : Hp) (E : XK) (k : Prop) : Prop := (c = true → k) ∧ (c = false → ∀ H' d, Same H H' → H' d = some (.xd [("told", v)]) → E (.ref C) (some d) H')
def spChk (K : PySem.W.Frag) (C : Addr) (f : PyData → Bool) : Sp := fun vs H Q E => ∃ v d, vs = [v] ∧ DQ K H v d ∧ okOr C (f d) v H E (∀ H', Same H H' → Q .non H')
/-- a def that may raise, called by its name -/
def ClX (P : Program) (w : World) (K : PySem.W.Frag) (mg : Str → Option Value) (base : Heap) (k : Nat) (x : Str) (ps : List Str) (sp : Sp) : Prop :=
  ∃ g fd, FnOk P w K mg base (L2.CX P w) k g fd ps sp ∧ mg x = some (.ref g) ∧ PySem.W.keepIn K (.ref g) = true ∧ Binds K fd ps []
theorem Dn.clX {k : Nat} {x : Str} {ps : List Str} {st : Stmt} {g : Addr} {fd : FuncData} {sp : Sp} (D : Dn K mg x ps st g fd) (F : FnOk P w K mg base (L2.CX P w) k g fd ps sp) : ClX P w K mg base k x ps sp :=
  ⟨g, fd, F, D.mg, D.fn.kp, D.bn⟩
theorem pe_clX {X : Cx} {k m : Nat} {W : WX} {x : Str} {ps : List Str} {sp : Sp} {e : Expr} {es : List Expr} {t : TA} {p pos : Pos} (C : ClX X.prog X.w X.K X.mg X.base k x ps sp) (hr : Room m X.A) (tk : Takes X W) (hk : k ≤ m) (ha : PA X (e :: es) t) (hg : Gl X x := by rfl) (hdb : (x == ("__debug__" : Str)) = false := by decide)
    (he : starEach (e :: es) X.env = (false, eval e X.env) :: starEach es X.env := by rfl) (hpl : (backTo pos (starEach es X.env)).any (·.1) = false := by rfl) : PE X (.Call (.Name x p) (e :: es) [] pos) (tCallS sp (WE W) t) := by
  obtain ⟨g, fd, F, hm, hk', hb⟩ := C
  exact pe_callS F (hr.mono hk) hg hm hk' hb (fun σ => passAt tk σ) ha hdb he hpl
end
end K1
namespace K1
open PySem L2 PySem.Spec PyProof.Rows
/-! ### a def that is called where nothing is being shown: repr of lists and tuples is told in it -/
structure FnG (P : Program) (w : World) (K : PySem.W.Frag) (mg : Str → Option Value) (base : Heap) (k : Nat) (f : Addr) (fd : FuncData) (ps : List Str) (sp : Sp) : Prop where
  len : ∀ vs H Q E, sp vs H Q E → vs.length = ps.length
  run : ∀ (A : Around) (outer : List Env) (s : Shared) (H : Hp) (args : Args) (us : List Value) (vs : List V) (Q : VK) (E : XK), A.guards = some [] → Room k A → Env0 P w K mg base A outer s H → BindsTo s fd args (ps.zip us) → Vals vs us → sp vs H Q E →
    codeAny (model P w) A (.call (.ref f) args) (CR CX0 outer P w H s Q E) s
section
variable {P : Program} {w : World} {K : PySem.W.Frag} {mg : Str → Option Value} {base : Heap}
theorem okG {x qual : Str} {st : Stmt} {f : Addr} {fd : FuncData} {N ps : List Str} {k : Nat} {sp : Sp} (F : Fun K x qual st f fd) (S : FnScope N ps (defScope st)) (len : ∀ vs H Q E, sp vs H Q E → vs.length = ps.length)
    (hbody : ∀ (cdv : Value) (A : Around) (outer : List Env) (s : Shared) (H : Hp) (vs : List V) (Q : VK) (E : XK), A.guards = some [] → Room k (A.deeper (envOfC qual (defScope st) s.heap.objs.size f cdv)) → sp vs H Q E →
      ∃ t, PSs (cxOf CX0 P w K mg base N qual (defScope st) f cdv A outer s H E).nox (defBody st) t ∧ t { nx := fun _ H' => Q .non H', rt := Q } (start N vs) H) : FnG P w K mg base (k + 1) f fd ps sp := by
  obtain ⟨oc, od, kV, doc, pm, an, cdv, ct, osl, rfl, lk, hcd⟩ := F.ex
  refine ⟨len, fun A outer s H args us vs Q E hg hr e0 hb r h => ?_⟩
  obtain ⟨t, ht, q⟩ := hbody cdv A outer s H vs Q E hg (hr.deeper _) h
  exact run_at lk hcd S (len _ _ _ _ h) hr e0 hb r ⟨t, ht.nox, q⟩
end
def ClG (P : Program) (w : World) (K : PySem.W.Frag) (mg : Str → Option Value) (base : Heap) (k : Nat) (x : Str) (ps : List Str) (sp : Sp) : Prop :=
  ∃ g fd, FnG P w K mg base k g fd ps sp ∧ mg x = some (.ref g) ∧ PySem.W.keepIn K (.ref g) = true ∧ Binds K fd ps []
theorem pe_clG {X : Cx} {k m : Nat} {x : Str} {ps : List Str} {sp : Sp} {e : Expr} {es : List Expr} {t : TA} {p pos : Pos} (C : ClG X.prog X.w X.K X.mg X.base k x ps sp) (hgd : X.A.guards = some []) (hr : Room m X.A) (hk : k ≤ m) (ha : PA X (e :: es) t) (hg : Gl X x := by rfl) (hdb : (x == ("__debug__" : Str)) = false := by decide)
    (he : starEach (e :: es) X.env = (false, eval e X.env) :: starEach es X.env := by rfl) (hpl : (backTo pos (starEach es X.env)).any (·.1) = false := by rfl) : PE X (.Call (.Name x p) (e :: es) [] pos) (tCall sp [] E0 t) := by
  obtain ⟨g, fd, F, hm, hk', hb⟩ := C
  refine ⟨fun pins s σ H Q I h => wpAny_Call_Name_kw (ld_glob I hg hm ?_ hdb)⟩
  refine PySem.W.callWith_K (h₀ := X.base) I.ok.mod.kin hk' (thn (ha.run pos pins s σ H _ I h) fun us s1 hh => ?_) he hpl
  obtain ⟨vs, H1, I1, r, q⟩ := hh
  rw [List.append_nil] at q
  have hl : us.length = ps.length := r.length.symm.trans (F.len _ _ _ _ q)
  have hb' := hb s1 us I1.kIn (by rw [List.append_nil]; exact hl)
  rw [List.append_nil] at hb'
  refine ⟨I1.kIn, wpAny_call (codeAny_mono (F.run X.A X.stack s1 H1 ⟨us, []⟩ us vs Q E0 hgd (hr.mono hk) I1.env0 hb' r q) fun o s' z => ?_)⟩
  cases o with
  | error e => exact (show False from z).elim
  | ok fl =>
    cases fl with
    | ret u => exact I1.after z
    | next => exact z.elim
    | brk => exact z.elim
    | cont => exact z.elim
end K1
namespace K1
open PySem L2 PySem.Spec PyProof.Rows
abbrev SuiteT := Addr → Value → Option Addr → TS
/-- the ends of a suite whose name, in slot i, is taken away behind it -/
def gone (i : Nat) (D : Ends) : Ends := { nx := fun σ H => D.nx (σ.set i none) H, rt := D.rt, bk := fun σ H => D.bk (σ.set i none) H, ct := fun σ H => D.ct (σ.set i none) H }
/-- what the clauses 'except x as n' wish, one behind the other: slot i is n's -/
def wEach (K : PySem.W.Frag) (i : Nat) (Wo : WX) (D : Ends) : List (Value × SuiteT) → WX
  | [] => Wo
  | (c, ts) :: r => fun cls d σ H => ∃ b, PySem.W.exmOne K cls c = some b ∧ (b = true → ∀ a, H a = none → ts a cls d (gone i D) (σ.set i (some (.ref a))) H) ∧ (b = false → wEach K i Wo D r cls d σ H)
inductive Clauses (X : Cx) (n : Str) : List ExceptHandler → List (Value × SuiteT) → Prop
  | nil : Clauses X n [] []
  | cons {x : Str} {c : Value} {ts : SuiteT} {st : Stmt} {sts : List Stmt} {np hp : Pos} {hds : List ExceptHandler} {l : List (Value × SuiteT)} (nm : Names X x c)
      (su : ∀ (a : Addr) (oe : Obj) (cls : Value) (d : Option Addr) (pn : List (Addr × Obj)), Zc cls d oe → (∃ vs, oe.data = .fields vs) → PSs (X.suite a ((a, oe) :: pn)) (st :: sts) (ts a cls d)) (r : Clauses X n hds l) :
      Clauses X n (.ExceptHandler (some (.Name x np)) (some n) (st :: sts) hp :: hds) ((c, ts) :: l)
section
variable {X : Cx} {n : Str} {i : Nat} {Wo : WX}
/-- an exception that has come to the clauses -/
theorem clauses_run {pins : List (Addr × Obj)} {σ : L2.St} {H : Hp} {D : Ends} {a : Addr} {B : Heap} {sI : Shared} {cls : Value} {d : Option Addr} (ok : X.Ok) (hs : X.stack = X.env :: X.outer) (hf : X.env.frame = some X.env.locals) (hN : X.N.Nodup) (hi : X.N[i]? = some n) (hln : X.env.kindOf n = some .local) (tk : Takes X Wo)
    (J : Inv X pins σ H sI) (nb : ∀ b o, sI.heap.get? b = some o → b ∉ frs X.stack → B.get? b = some o) (na : H a = none) :
    ∀ {hds : List ExceptHandler} {l : List (Value × SuiteT)}, Clauses X n hds l → ∀ {s : Shared}, HandSPX.FlyingZ B (X.env :: X.outer) a (Zc cls d) s.heap → sI.heap.UpToSlots s.heap → s.os = sI.os → AllBare s.gens → wEach X.K i Wo D l cls d σ H →
      wpAny (model X.prog X.w) X.A (handleBy (.ref a) X.env hds) (SP X pins D) X.xe s := by
  intro hds l C
  induction C with
  | nil =>
    intro s fl up os ag w
    refine wpAny_handleBy_nil ?_
    obtain ⟨_, _, _, oe, vs, T, oT, ts', he, hz, hd, h1, hr⟩ := id fl
    unfold PySem.passOn
    refine wpAny_bind (wpAny_field he hd h1 ?_)
    rw [if_neg (show ¬ ((Value.ref T == Value.none) = true) from by simp)]
    have away : wpAny (model X.prog X.w) X.A (setFlight (.ref a) X.env.frame) (fun _ s4 => wpAny (model X.prog X.w) X.A (throw (.ref a) : Sem Flow) (SP X pins D) X.xe s4) X.xe s := by
      rw [hf]
      exact HandSPX.setFlight_upZ fl fun h4 fl4 up4 => wpAny_throw (tk _ _ ⟨a, B, sI, pins, σ, H, cls, d, rfl, J, nb, up.trans up4, .inr (.inr (by rw [hs]; exact fl4)), na, os, ag, w⟩)
    first
      | exact wpAny_bind (wpAny_pure (wpAny_bind away))
      | exact wpAny_bind away
  | @cons x c ts st sts np hp hds2 l2 nm su _ ih =>
    intro s fl up os ag w
    obtain ⟨b, hb1, yes, no⟩ := w
    obtain ⟨oe, vs, he, hz, hd⟩ := fl.there
    have Jl : Inv X pins σ H s := J.landed nb fl.1 up os ag
    have notIn : ∀ {h : Heap} {o : Obj} {us : Array Value}, h.FunFrames B (X.env :: X.outer) → h.get? a = some o → o.data = .fields us → a ∉ frs (X.env :: X.outer) := fun ff e dd hm => by
      obtain ⟨_, o', e', z⟩ := ff.mem hm
      rw [e] at e'
      cases e'
      exact z _ dd
    have nfr := notIn fl.2.2.1 he hd
    have nL : a ≠ X.env.locals := fun z => nfr (List.mem_filterMap.mpr ⟨X.env, List.mem_cons_self, by rw [hf, z]⟩)
    have nF : a ∉ X.fs := fun hm => by
      obtain ⟨e, he', q⟩ := List.mem_filterMap.mp hm
      exact nfr (List.mem_filterMap.mpr ⟨e, List.mem_cons_of_mem _ he', q⟩)
    have S3 := Jl.suite he hd na nL nF
    have LT : PySem.W.Looks (model X.prog X.w) s.heap (typeOf (.ref a)) cls := fun A Q E s' k q => wpAny_typeOf_ref (k _ _ he) (by rw [hz.1]; exact q)
    have LM := PySem.W.exm_one (M := model X.prog X.w) Jl.kIn LT hb1
    refine wpAny_handleBy_cons (codeAny_handlers_test ?_) (by intro q; cases q)
    have look : ∀ {Q : Value → Shared → Prop} {E : Value → Shared → Prop}, Q c s → wpAny (model X.prog X.w) (X.A.mark (some (.ref a))) (eval (.Name x np) X.env) Q E s := fun q => by
      obtain ⟨hg, hdbg, hm | ⟨hm, hv, hnn⟩⟩ := nm
      · exact ld_glob (X := X.suite a ((a, oe) :: (X.pn ++ pins))) S3 hg hm q hdbg
      · exact ld_blt (X := X.suite a ((a, oe) :: (X.pn ++ pins))) S3 hg hm hv q hnn hdbg
    refine look (LM.here ?_)
    cases b with
    | false => exact ih fl up os ag (no rfl)
    | true =>
      refine codeAny_handlers_suite_as ?_
      refine HandSPX.lands_againZ fl fun h4 fl4 up4 => ?_
      have J4 : Inv X pins σ H { s with heap := h4 } := J.landed nb fl4.1 (up.trans up4) os ag
      obtain ⟨oe4, vs4, he4, hz4, hd4⟩ := fl4.there
      have S4 := J4.suite he4 hd4 na nL nF
      refine store_ok (X := X.suite a ((a, oe4) :: (X.pn ++ pins))) (v := .ref a) S4 hN hi (.inl hln) rfl (fun s5 S5 => ?_) (.inr hln)
      refine wpAny_mono ((su a oe4 cls d (X.pn ++ pins) hz4 ⟨_, hd4⟩).run [] s5 _ H _ S5 (yes rfl a na)) (fun f s6 z => ?_) fun _ _ z => False.elim z
      have last : ∀ {σ6 : L2.St} {H6 : Hp} {Q : Shared → Prop}, Inv (X.suite a ((a, oe4) :: (X.pn ++ pins))) [] σ6 H6 s6 → (∀ s7, Inv X pins (σ6.set i none) H6 s7 → Q s7) →
          wpAny (model X.prog X.w) X.A (do bindName X.env n .none; unbindBehindTheSuite X.env n hp) (fun _ s7 => Q s7) X.xe s6 := fun S6 q => gone_ok (S6.unsuite ok) hN hi hln q
      cases f with
      | next =>
        obtain ⟨σ6, H6, S6, q⟩ := z
        exact last S6 fun s7 J7 => ⟨_, _, J7, q⟩
      | brk =>
        obtain ⟨σ6, H6, S6, q⟩ := z
        exact last S6 fun s7 J7 => ⟨_, _, J7, q⟩
      | cont =>
        obtain ⟨σ6, H6, S6, q⟩ := z
        exact last S6 fun s7 J7 => ⟨_, _, J7, q⟩
      | ret u =>
        obtain ⟨v6, σ6, H6, S6, r6, q⟩ := z
        exact last S6 fun s7 J7 => ⟨_, _, _, J7, r6, q⟩
/-- try: body, then clauses that name the exception -/
theorem ps_try_each {body : List Stmt} {h₀ : ExceptHandler} {hds : List ExceptHandler} {l : List (Value × SuiteT)} {pos : Pos} {tb : WX → TS} (hs : X.stack = X.env :: X.outer) (hf : X.env.frame = some X.env.locals) (hN : X.N.Nodup) (hi : X.N[i]? = some n) (hln : X.env.kindOf n = some .local) (tk : Takes X Wo)
    (hb : ∀ (W : WX) (pn : List (Addr × Obj)) (xe : Value → Shared → Prop), Takes (X.tr pn xe) W → PassesOwn (model X.prog X.w) X.A X.env xe → PSs (X.tr pn xe) body (tb W)) (C : Clauses X n (h₀ :: hds) l) :
    PS X (.Try body (h₀ :: hds) [] [] pos) (fun D σ H => tb (wEach X.K i Wo D l) D σ H) := by
  refine ⟨fun pins s σ H D I h => ?_⟩
  have ok := I.ok
  refine wpAny_Try_except (wpAny_mono ((hb (wEach X.K i Wo D l) (X.pn ++ pins) (fun e s₁ => wpAny (model X.prog X.w) X.A (noteFrame e X.env) (fun _ s₂ => wpAny (model X.prog X.w) X.A (setFlight e none) (fun _ s₃ =>
    wpAny (model X.prog X.w) X.A (handleBy e X.env (h₀ :: hds)) (SP X pins D) X.xe s₃) X.xe s₂) X.xe s₁) (fun u s' xx => ?_) PassesOwn.looking).run [] s σ H D (I.toTry _) h) (fun f s1 z => ?_) (fun e s1 z => z))
  · obtain ⟨a, B, sI, pins', σ', H', cls, d, rfl, J', nb, up, sky, na, os, ag, w⟩ := xx
    refine Sky.land Zc.steady (by rw [ok.frames, hs]) hf (by rw [← hs]; exact sky) fun h3 fl3 up3 => ?_
    exact clauses_run ok hs hf hN hi hln tk (J'.ofTry ok) nb na C fl3 (up.trans up3) os ag w
  · cases f with
    | next =>
      obtain ⟨σ', H', J', q⟩ := z
      exact wpAny_execs_nil ⟨σ', H', J'.ofTry ok, q⟩
    | brk =>
      obtain ⟨σ', H', J', q⟩ := z
      exact ⟨σ', H', J'.ofTry ok, q⟩
    | cont =>
      obtain ⟨σ', H', J', q⟩ := z
      exact ⟨σ', H', J'.ofTry ok, q⟩
    | ret u =>
      obtain ⟨v, σ', H', J', r, q⟩ := z
      exact ⟨v, σ', H', J'.ofTry ok, r, q⟩
end
end K1
namespace K1
open PySem L2
mutual
def noList : PyData → Bool
  | .list _ => false
  | .tuple ds => noListAll ds
  | .dict ps => ps.isEmpty
  | _ => true
def noListAll : List PyData → Bool
  | [] => true
  | d :: ds => noList d && noListAll ds
end
section
variable {X : Cx} {pins : List (Addr × Obj)} {σ : St} {H : Hp} {s : Shared}
theorem dct_reads {a : Addr} (I : Inv X pins σ H s) (h : H a = some (.dK [])) : ∃ as, PySem.Reads s.heap (.ref a) (.dict []) as ∧ sysModules ∉ as := by
  have z : ObjOk X.prog X.w H s.heap a (.dK []) := I.hok a _ h
  obtain ⟨_, hs, vs, hkv, o, es, ep, ho, hx, hd, hk, hp, _⟩ := z
  cases hkv
  generalize hl : es.toList = el at hp
  cases hp
  have hr := PySem.Reads.dict (kvs := []) (as := []) (bs := []) ho hx.1 hd (by rw [hl]; exact .nil) (by rw [hl]; exact .nil)
  refine ⟨_, hr, fun hm => ?_⟩
  have hm2 : sysModules = a := by simpa using hm
  rw [hm2] at hs
  exact absurd hs (by simp)
mutual
theorem DQ.reads (I : Inv X pins σ H s) : ∀ (d : PyData) (v : V) (u : Value), DQ X.K H v d → RelV v u → ∃ as, PySem.Reads s.heap u d as ∧ (noList d = true → sysModules ∉ as)
  | .none, _, _, h, r => by
    cases h
    cases r
    exact ⟨_, .none, fun _ => List.not_mem_nil⟩
  | .bool b, _, _, h, r => by
    cases h
    cases r
    exact ⟨_, .bool b, fun _ => List.not_mem_nil⟩
  | .int i, _, _, h, r => by
    cases h
    obtain ⟨t, rfl⟩ := r
    exact ⟨_, .int i t, fun _ => List.not_mem_nil⟩
  | .str x, _, _, h, r => by
    cases h
    obtain ⟨t, rfl⟩ := r
    exact ⟨_, .str x t, fun _ => List.not_mem_nil⟩
  | .list ds, _, _, h, r => by
    cases h with
    | lst hs ha =>
      cases r
      obtain ⟨its, rv, ⟨o, n, ho, hc, _, hd⟩, _⟩ := I.list hs
      obtain ⟨as, hr, _⟩ := DQs.reads I ds _ its ha rv
      exact ⟨_, .list ho hc hd hr, fun z => Bool.noConfusion z⟩
  | .tuple ds, _, _, h, r => by
    cases h with
    | tup hs ha =>
      cases r
      obtain ⟨its, rv, ⟨o, ho, hc, n, hd⟩, _⟩ := I.tuple hs
      obtain ⟨as, hr, hn⟩ := DQs.reads I ds _ its ha rv
      exact ⟨_, .tuple ho hc hd hr, hn⟩
  | .dict [], _, _, h, r => by
    cases h with
    | dct h =>
      cases r
      obtain ⟨as, q, n⟩ := dct_reads I h
      exact ⟨as, q, fun _ => n⟩
  | .dict (_ :: _), _, _, h, _ => by cases h
theorem DQs.reads (I : Inv X pins σ H s) : ∀ (ds : List PyData) (vs : List V) (us : List Value), DQs X.K H vs ds → L2.Vals vs us → ∃ as, PySem.ReadsAll s.heap us ds as ∧ (noListAll ds = true → sysModules ∉ as)
  | [], _, _, h, r => by
    cases h
    cases r
    exact ⟨_, .nil, fun _ => List.not_mem_nil⟩
  | d :: ds, _, _, h, r => by
    cases h with
    | cons h1 h2 =>
      cases r with
      | cons r1 r2 =>
        obtain ⟨as, q1, n1⟩ := DQ.reads I d _ _ h1 r1
        obtain ⟨bs, q2, n2⟩ := DQs.reads I ds _ _ h2 r2
        refine ⟨_, .cons q1 q2, fun z => ?_⟩
        have z' : (noList d && noListAll ds) = true := z
        rw [Bool.and_eq_true] at z'
        rw [List.mem_append]
        exact fun hm => hm.elim (n1 z'.1) (n2 z'.2)
end
end
/-- repr of data -/
def rReprQ (K : PySem.W.Frag) : List V → Hp → VK → Prop := fun xs H Q => ∃ (v : V) (d : PyData), xs = [v] ∧ DQ K H v d ∧ (d.hasDict = true → noList d = true) ∧ d.showable = true ∧ d.depth ≤ 8 ∧ d.shown.length ≤ sizeLine ∧ Q (.str d.shown) H
theorem call_reprQ {X : Cx} (hg : X.A.guards = some []) (hu : X.A.units + 64 < cLine) : CallR X (.builtin "repr") (rReprQ X.K) := by
  intro pins s σ H xs us Q I r h
  obtain ⟨v, d, rfl, hD, hn, hsh, hdp, hsz, q⟩ := h
  obtain ⟨u, rfl, ru⟩ := vals1 r
  obtain ⟨as, hr, hsm⟩ := DQ.reads I d v u hD ru
  have hsm' : d.hasDict = true → sysModules ∉ as := fun z => hsm (hn z)
  cases hr with
  | none => exact PySem.P.repr_of_none ⟨.str _, H, I.tok _, ⟨_, rfl⟩, q⟩
  | bool b => exact PySem.P.repr_of_bool ⟨.str _, H, I.tok _, ⟨_, rfl⟩, q⟩
  | int i t => exact PySem.P.repr_of_int (of_decide_eq_true hsh) ⟨.str _, H, I.tok _, ⟨_, rfl⟩, q⟩
  | str x t => exact PySem.P.repr_of_str ⟨.str _, H, I.tok _, ⟨_, rfl⟩, q⟩ hsz
  | list a1 a2 a3 a4 => exact repr_of_reads' (PySem.Reads.list a1 a2 a3 a4) hsh hsm' hg (by omega) (fun _ _ e => e) (fun h' u tk hk => ⟨.str _, H, I.kept hk, ⟨_, rfl⟩, q⟩) hsz
  | tuple a1 a2 a3 a4 => exact repr_of_reads' (PySem.Reads.tuple a1 a2 a3 a4) hsh hsm' hg (by omega) (fun _ _ e => e) (fun h' u tk hk => ⟨.str _, H, I.kept hk, ⟨_, rfl⟩, q⟩) hsz
  | dict a1 a2 a3 a4 a5 => exact repr_of_reads' (PySem.Reads.dict a1 a2 a3 a4 a5) hsh hsm' hg (by omega) (fun _ _ e => e) (fun h' u tk hk => ⟨.str _, H, I.kept hk, ⟨_, rfl⟩, q⟩) hsz
def lenT (n : Nat) (t : TS) : TS := fun D σ H => σ.length = n → t D σ H
theorem pss_len {X : Cx} {sts : List Stmt} {t : TS} {n : Nat} (h : PSs X sts t) (hn : X.N.length = n) : PSs X sts (lenT n t) := ⟨fun pins s σ H D I q => h.run pins s σ H D I (q (I.len.trans hn))⟩
def tsNo : SuiteT := fun _ _ _ => tNever
/-- data that repr tells -/
structure Shows (K : PySem.W.Frag) (H : Hp) (v : V) (d : PyData) : Prop where
  dq : DQ K H v d
  nl : d.hasDict = true → noList d = true
  sh : d.showable = true
  dp : d.depth ≤ 8
  sz : d.shown.length ≤ sizeLine
theorem Shows.to {K : PySem.W.Frag} {H H' : Hp} {v : V} {d : PyData} (h : Shows K H v d) (s : Same H H') : Shows K H' v d := ⟨h.dq.to s, h.nl, h.sh, h.dp, h.sz⟩
end K1
/-! what the top has written -/
namespace K1
open PySem L2
def tabL : List (Nat × Str × List Str) := [(5, (("does_hold" : Str), [("kind" : Str)])),
  (11, (("written_end" : Str), [("text" : Str), ("at" : Str)])),
  (12, (("number_end" : Str), [("text" : Str), ("at" : Str)])),
  (13, (("_positive_end" : Str), [("text" : Str), ("at" : Str)])),
  (14, (("_stands" : Str), [("text" : Str), ("at" : Str), ("signs" : Str)])),
  (17, (("nested" : Str), [("paths" : Str), ("heads" : Str)])),
  (18, (("_in_order" : Str), [("parts" : Str)])),
  (19, (("_head" : Str), [("text" : Str), ("at" : Str)])),
  (20, (("_bracket" : Str), [("text" : Str), ("at" : Str)])),
  (22, (("plain_of" : Str), [("text" : Str)])),
  (23, (("is_text" : Str), [("value" : Str)])),
  (25, (("_law_pool" : Str), [("_law_script" : Str), ("_law_k" : Str)])),
  (26, (("_law_take" : Str), [("_law_pool_here" : Str), ("_law_bound" : Str)])),
  (27, (("_law_one" : Str), [("_law_pool_here" : Str), ("_law_things" : Str)])),
  (28, (("_law_item" : Str), [("_law_pool_here" : Str), ("_law_deep" : Str), ("_law_names" : Str)])),
  (29, (("_law_program" : Str), [("_law_pool_here" : Str), ("_law_names" : Str)])),
  (30, (("_law_word" : Str), [("_law_item_here" : Str)])),
  (31, (("_law_text" : Str), [("_law_program_here" : Str)])),
  (32, (("_law_goes" : Str), [("_law_word_here" : Str), ("_law_sign" : Str)])),
  (33, (("_law_wrong" : Str), [("_law_text_here" : Str)])),
  (34, (("_law_told" : Str), [("_law_text_here" : Str)])),
  (35, (("_law_bent" : Str), [("_law_pool_here" : Str), ("_law_text_here" : Str)])),
  (36, (("law" : Str), [("_law_script" : Str)]))]

/-- the module's constants -/
structure Cn (K : PySem.W.Frag) (mg : Str → Option Value) : Prop where
  hol : ∃ a, mg "_HOLDERS" = some (.ref a) ∧ ∀ H, SqT K H a [.str "block", .str "let", .str "sum", .str "product"]
  let_ : ∃ t, mg "_LETTERS" = some (.str "abcdefghijklmnopqrstuvwxyz" t)
  fig : ∃ t, mg "_FIGURES" = some (.str "0123456789" t)
  ffig : ∃ t, mg "_FIRST_FIGURES" = some (.str "123456789" t)
  most : ∃ t, mg "_MOST_LETTERS" = some (.int 4 t)
/-- all that the top has written -/
structure All (K : PySem.W.Frag) (mg : Str → Option Value) : Prop where
  dn : ∀ i x ps, tabL.lookup i = some (x, ps) → ∃ g fd, Dn K mg x ps (top i) g fd
  bi : Bi mg
  cn : Cn K mg
/-- a def that keeps a promise, called by its name -/
def Cl (P : Program) (w : World) (K : PySem.W.Frag) (mg : Str → Option Value) (base : Heap) (k : Nat) (x : Str) (ps : List Str) (sp : Sp) : Prop :=
  ∃ g fd, FnOk P w K mg base CX0 k g fd ps sp ∧ mg x = some (.ref g) ∧ PySem.W.keepIn K (.ref g) = true ∧ Binds K fd ps []
theorem Dn.cl {P : Program} {w : World} {K : PySem.W.Frag} {mg : Str → Option Value} {base : Heap} {k : Nat} {x : Str} {ps : List Str} {st : Stmt} {g : Addr} {fd : FuncData} {sp : Sp} (D : Dn K mg x ps st g fd) (F : FnOk P w K mg base CX0 k g fd ps sp) : Cl P w K mg base k x ps sp :=
  ⟨g, fd, F, D.mg, D.fn.kp, D.bn⟩
theorem pe_cl {X : Cx} {k m : Nat} {x : Str} {ps : List Str} {sp : Sp} {e : Expr} {es : List Expr} {t : TA} {p pos : Pos} (C : Cl X.prog X.w X.K X.mg X.base k x ps sp) (hr : Room m X.A) (hk : k ≤ m) (ha : PA X (e :: es) t) (hg : Gl X x := by rfl) (hdb : (x == ("__debug__" : Str)) = false := by decide)
    (he : starEach (e :: es) X.env = (false, eval e X.env) :: starEach es X.env := by rfl) (hpl : (backTo pos (starEach es X.env)).any (·.1) = false := by rfl) : PE X (.Call (.Name x p) (e :: es) [] pos) (tCall sp [] E0 t) := by
  obtain ⟨g, fd, F, hm, hk', hb⟩ := C
  exact pe_call F (hr.mono hk) hg hm hk' hb .nil pass0 ha hdb he hpl
section
variable {P : Program} {w : World} {K : PySem.W.Frag} {mg : Str → Option Value} {base : Heap}
end
end K1
/-! the law's drawing -/
namespace K1
open PySem L2
/-- a drawing source at p: two ints, the second one in its range -/
def Src (H : Hp) (p : Addr) : Prop := ∃ a b : Int, H p = some (.lst [.int a, .int b]) ∧ 0 ≤ b ∧ b < 2147483647
def spPool (K : PySem.W.Frag) : Sp := fun vs H Q _ => ∃ (a : Addr) (ns : List Int) (j : Nat), vs = [.ref a, .int (j : Int)] ∧ j ≤ 3 ∧ SqL K H a (ns.map V.int) ∧ ∀ (p : Addr) (A B : Int), H p = none → 0 ≤ B → B < 2147483647 → Q (.ref p) (upd H p (.lst [.int A, .int B]))
def spTake : Sp := fun vs H Q _ => ∃ (p : Addr) (t a b : Int), vs = [.ref p, .int t] ∧ H p = some (.lst [.int a, .int b]) ∧ 0 ≤ b ∧ b < 2147483647 ∧ 0 < t ∧ t.natAbs < 2 ^ 100 ∧
  ∀ r a' b' : Int, 0 ≤ r → r < t → 0 ≤ b' → b' < 2147483647 → Q (.int r) (upd H p (.lst [.int a', .int b']))
structure Nms (mg : Str → Option Value) : Prop where
  len : mg "len" = none
  max : mg "max" = none
  int : mg "int" = none
section
variable {P : Program} {w : World} {K : PySem.W.Frag} {mg : Str → Option Value} {base : Heap}
theorem sc_pool : FnScope ["_law_script", "_law_k", "_law_cell", "_law_big", "_law_mixed"] ["_law_script", "_law_k"] (defScope (top 25)) := ⟨rfl, rfl, rfl, by decide +kernel, rfl, by decide +kernel, by decide +kernel⟩
theorem cl_pool (TT : All K mg) (T : Nms mg) : Cl P w K mg base 1 "_law_pool" ["_law_script", "_law_k"] (spPool K) := by
  obtain ⟨g, fd, D⟩ := TT.dn 25 _ _ rfl
  refine D.cl (D.fn.ok sc_pool (fun vs H Q E h => ?_) (fun cdv A outer s H vs Q E hr h => ?_))
  · obtain ⟨a, ns, j, rfl, _⟩ := h
    rfl
  · obtain ⟨a, ns, j, rfl, hj, hS, k⟩ := h
    refine ⟨_, pss_cons (ps_set (i := 2) sc_pool.nd rfl (Or.inl rfl) pe_int)
      (pss_cons (ps_if (pt_cmpR op_lt (pv 1) (pe_callB call_len_seq (by rfl) T.len PySem.boot_len (pa_cons (pv 0) pa_nil)) (nomark _)) (pss_one (ps_set (i := 2) sc_pool.nd rfl (Or.inl rfl) (pe_ix ix_list (pv 0) (pv 1) (fun _ _ => rfl)))) pss_nil)
      (pss_cons (ps_set (i := 3) sc_pool.nd rfl (Or.inl rfl) (pe_callB (call_max2 rfl) (by rfl) T.max (by decide +kernel) (pa_cons (pe_callTy call_int1 (by rfl) T.int (by decide +kernel) (pa_cons (pv 2) pa_nil)) (pa_cons (pe_callTy call_int1 (by rfl) T.int (by decide +kernel) (pa_cons (pe_op op_sub (pe_un un_neg pe_int) (pv 2)) pa_nil)) pa_nil))))
      (pss_cons (ps_set (i := 4) sc_pool.nd rfl (Or.inl rfl) (pe_op op_modN (pe_callTy call_int1 (by rfl) T.int (by decide +kernel) (pa_cons (pe_op op_mul (pe_op op_add (pe_op op_add (pe_op op_add (pe_op op_modN (pe_callTy call_int1 (by rfl) T.int (by decide +kernel) (pa_cons (pv 3) pa_nil)) pe_int) (pe_op op_mul (pe_op op_mul pe_int (pv 1)) (pv 1))) (pe_op op_mul pe_int (pv 1))) pe_int) pe_int) pa_nil)) pe_int))
      (pss_one (ps_ret (pe_lst (pa_cons (pe_op op_mul (pv 3) (pe_callTy call_int1 (by rfl) T.int (by decide +kernel) (pa_cons (pe_cmpR op_ge (pv 3) (pe_op op_pow pe_int pe_int) (nomark _)) pa_nil))) (pa_cons (pv 4) pa_nil)))))))), ?_⟩
    refine ⟨_, rfl, _, rfl, a, _, rfl, .inl hS, _, _, rfl, rfl, _, rfl, ?_⟩
    have low : ∀ n : Int, ∃ m : Int, ∀ j' : Nat, j' ≤ 2 → True := fun _ => ⟨0, fun _ _ => trivial⟩
    refine ite2 (fun hlt => ?_) (fun hge => ?_)
    · obtain ⟨n, hn⟩ : ∃ n, ns[j]? = some n := by
        have h1 : j < ns.length := by
          rw [List.length_map] at hlt
          have := of_decide_eq_true hlt
          omega
        exact ⟨ns[j], List.getElem?_eq_getElem h1⟩
      have hn' : (ns.map V.int)[j]? = some (V.int n) := by
        rw [List.getElem?_map, hn]
        rfl
      refine ⟨_, rfl, _, rfl, a, _, _, V.int n, rfl, rfl, hS, atI_nat hn', ?_⟩
      obtain rfl | rfl | rfl | rfl : j = 0 ∨ j = 1 ∨ j = 2 ∨ j = 3 := by omega
      all_goals
        refine ⟨_, rfl, .inl ⟨_, rfl, _, rfl, _, rfl, _, _, rfl, rfl, .inl ⟨_, rfl, _, _, rfl, ?_⟩⟩⟩
        refine ⟨_, rfl, .inl ⟨_, rfl, _, _, rfl, rfl, (by show (2147483629 : Int) ≠ 0; decide), _, rfl, _, _, rfl, rfl, .inl ⟨by decide, by decide⟩, _, rfl, _, _, rfl, rfl, .inl ⟨by decide, by decide⟩, _, _, rfl, rfl, _, rfl, _, _, rfl, rfl, .inl ⟨by decide, by decide⟩, _, _, rfl, rfl, _, _, rfl, rfl, _, _, rfl, rfl, .inr ⟨by decide, by decide⟩, .inl ⟨_, rfl, _, _, rfl, rfl, (by show (2147483647 : Int) ≠ 0; decide), ?_⟩⟩⟩
        refine ⟨_, rfl, _, rfl, _, _, rfl, rfl, ⟨by decide, by decide, by decide⟩, _, _, rfl, rfl, .inr ⟨_, rfl, _, _, rfl, rfl, .inr (K0.b01 _), _, rfl, (by show 2 ≤ sizeLine; decide), fun l hl => k l _ _ hl (K0.fmod_nn _ (by decide)) (K0.fmod_lt _ (by decide))⟩⟩
    · obtain rfl | rfl | rfl | rfl : j = 0 ∨ j = 1 ∨ j = 2 ∨ j = 3 := by omega
      all_goals
        refine ⟨_, rfl, .inl ⟨_, rfl, _, rfl, _, rfl, _, _, rfl, rfl, .inl ⟨_, rfl, _, _, rfl, ?_⟩⟩⟩
        refine ⟨_, rfl, .inl ⟨_, rfl, _, _, rfl, rfl, (by show (2147483629 : Int) ≠ 0; decide), _, rfl, _, _, rfl, rfl, .inl ⟨by decide, by decide⟩, _, rfl, _, _, rfl, rfl, .inl ⟨by decide, by decide⟩, _, _, rfl, rfl, _, rfl, _, _, rfl, rfl, .inl ⟨by decide, by decide⟩, _, _, rfl, rfl, _, _, rfl, rfl, _, _, rfl, rfl, .inr ⟨by decide, by decide⟩, .inl ⟨_, rfl, _, _, rfl, rfl, (by show (2147483647 : Int) ≠ 0; decide), ?_⟩⟩⟩
        refine ⟨_, rfl, _, rfl, _, _, rfl, rfl, ⟨by decide, by decide, by decide⟩, _, _, rfl, rfl, .inr ⟨_, rfl, _, _, rfl, rfl, .inr (K0.b01 _), _, rfl, (by show 2 ≤ sizeLine; decide), fun l hl => k l _ _ hl (K0.fmod_nn _ (by decide)) (K0.fmod_lt _ (by decide))⟩⟩
theorem sc_take : FnScope ["_law_pool_here", "_law_bound", "_law_result"] ["_law_pool_here", "_law_bound"] (defScope (top 26)) := ⟨rfl, rfl, rfl, by decide +kernel, rfl, by decide +kernel, by decide +kernel⟩
theorem cl_take (TT : All K mg) (T : Nms mg) : Cl P w K mg base 1 "_law_take" ["_law_pool_here", "_law_bound"] spTake := by
  obtain ⟨g, fd, D⟩ := TT.dn 26 _ _ rfl
  refine D.cl (D.fn.ok sc_take (fun vs H Q E h => ?_) (fun cdv A outer s H vs Q E hr h => ?_))
  · obtain ⟨p, t, a, b, rfl, _⟩ := h
    rfl
  · obtain ⟨p, t, a, b, rfl, hp, b0, b1, t0, t1, k⟩ := h
    refine ⟨_, pss_cons (ps_if (pt_cmpR op_gt (pe_ix ix_list (pv 0) pe_int (fun _ _ => rfl)) pe_int (nomark _))
        (pss_cons (ps_set (i := 2) sc_take.nd rfl (Or.inl rfl) (pe_op op_modN (pe_callTy call_int1 (by rfl) T.int (by decide +kernel) (pa_cons (pe_ix ix_list (pv 0) pe_int (fun _ _ => rfl)) pa_nil)) (pv 1)))
        (pss_cons (ps_asg (pe_op op_fdivW (pe_ix ix_list (pv 0) pe_int (fun _ _ => rfl)) (pv 1)) (pg_sub (pv 0) pe_int set_list))
        (pss_one (ps_ret (pv 2))))) pss_nil)
      (pss_cons (ps_asg (pe_op op_modN (pe_callTy call_int1 (by rfl) T.int (by decide +kernel) (pa_cons (pe_op op_add (pe_op op_mul (pe_ix ix_list (pv 0) pe_int (fun _ _ => rfl)) pe_int) pe_int) pa_nil)) pe_int) (pg_sub (pv 0) pe_int set_list))
      (pss_one (ps_ret (pe_op op_modN (pe_callTy call_int1 (by rfl) T.int (by decide +kernel) (pa_cons (pe_op op_fdiv (pe_op op_modN (pe_callTy call_int1 (by rfl) T.int (by decide +kernel) (pa_cons (pe_op op_mul (pe_ix ix_list (pv 0) pe_int (fun _ _ => rfl)) (pe_ix ix_list (pv 0) pe_int (fun _ _ => rfl))) pa_nil)) pe_int) pe_int) pa_nil)) (pv 1))))), ?_⟩
    refine ⟨_, rfl, p, _, _, .int a, rfl, rfl, SqL.of hp, atI_nat (j := 0) rfl, _, _, rfl, rfl, _, rfl, ?_⟩
    refine ite2 (fun hlt => ?_) (fun hge => ?_)
    · refine ⟨_, rfl, p, _, _, .int a, rfl, rfl, SqL.of hp, atI_nat (j := 0) rfl, .inl ⟨_, rfl, _, rfl, _, _, rfl, rfl, (by omega), ?_⟩⟩
      refine ⟨_, rfl, p, _, _, .int a, rfl, rfl, SqL.of hp, atI_nat (j := 0) rfl, _, rfl, _, _, rfl, rfl, wide_div t0 t1 (by decide) (by decide), _, rfl, p, _, _, 0, rfl, rfl, hp, rfl, ?_⟩
      exact ⟨_, rfl, k _ _ _ (K0.fmod_nn _ t0) (K0.fmod_lt _ t0) b0 b1⟩
    · refine ⟨_, rfl, p, _, _, .int b, rfl, rfl, SqL.of hp, atI_nat (j := 1) rfl, _, _, rfl, rfl, .inr ⟨by decide, by decide⟩, _, _, rfl, rfl, .inl ⟨_, rfl, _, _, rfl, rfl, (by show (2147483647 : Int) ≠ 0; decide), _, rfl, p, _, _, 1, rfl, rfl, hp, rfl, ?_⟩⟩
      have c0 := K0.fmod_nn (b * 39373 + 7) (b := 2147483647) (by decide)
      have c1 := K0.fmod_lt (b * 39373 + 7) (b := 2147483647) (by decide)
      refine ⟨_, rfl, p, _, _, _, rfl, rfl, SqL.of upd_same, atI_nat (j := 1) rfl, _, rfl, p, _, _, _, rfl, rfl, SqL.of upd_same, atI_nat (j := 1) rfl, _, _, rfl, rfl, .inl ⟨by omega, by omega⟩, .inl ⟨_, rfl, _, _, rfl, rfl, (by show (2147483629 : Int) ≠ 0; decide), _, _, rfl, rfl, ⟨by decide, by decide⟩, .inl ⟨_, rfl, _, rfl, _, _, rfl, rfl, (by omega), ?_⟩⟩⟩
      exact k _ _ _ (K0.fmod_nn _ t0) (K0.fmod_lt _ t0) c0 c1
end
/-- all but the source -/
def hid (p : Addr) (H : Hp) : Hp := fun b => if b = p then none else H b
theorem hid_ne {p b : Addr} {H : Hp} (h : b ≠ p) : hid p H b = H b := if_neg h
theorem hid_at {p b : Addr} {H : Hp} {u : HO} (h : hid p H b = some u) : b ≠ p ∧ H b = some u := by
  unfold hid at h
  by_cases e : b = p
  · rw [if_pos e] at h
    cases h
  · rw [if_neg e] at h
    exact ⟨e, h⟩
theorem hid_same (p : Addr) (H : Hp) : Same (hid p H) H := fun b u e => (hid_at e).2
/-- drawn from the source at p; all else stands -/
structure Bt (p : Addr) (H H' : Hp) : Prop where
  same : Same (hid p H) (hid p H')
  src : Src H' p
theorem Bt.refl {p : Addr} {H : Hp} (h : Src H p) : Bt p H H := ⟨Same.refl _, h⟩
theorem Bt.trans {p : Addr} {H H1 H2 : Hp} (a : Bt p H H1) (b : Bt p H1 H2) : Bt p H H2 := ⟨a.same.trans b.same, b.src⟩
theorem Bt.at {p b : Addr} {H H' : Hp} {u : HO} (h : Bt p H H') (n : b ≠ p) (e : H b = some u) : H' b = some u := (hid_at (h.same b u (by rw [hid_ne n]; exact e))).2
/-- something new beside the source -/
theorem Bt.new {p q : Addr} {H H' : Hp} {o : HO} (h : Bt p H H') (n : H' q = none) : Bt p H (upd H' q o) := by
  obtain ⟨a, b, e, r⟩ := h.src
  have nq : p ≠ q := ne_of_none e n
  refine ⟨h.same.trans fun c u hc => ?_, a, b, by rw [upd_ne nq]; exact e, r⟩
  obtain ⟨c1, c2⟩ := hid_at hc
  rw [hid_ne c1, upd_ne (ne_of_none c2 n)]
  exact c2
theorem Bt.put {p : Addr} {H H' : Hp} (h : Bt p H H') {a b : Int} (b0 : 0 ≤ b) (b1 : b < 2147483647) : Bt p H (upd H' p (.lst [.int a, .int b])) := by
  refine ⟨h.same.trans fun c u hc => ?_, a, b, upd_same, b0, b1⟩
  obtain ⟨c1, c2⟩ := hid_at hc
  rw [hid_ne c1, upd_ne c1]
  exact c2
/-- what is grown, nothing else being changed -/
theorem Bt.grow {p : Addr} {H H1 H2 : Hp} (h : Bt p H H1) (s : Same H1 H2) : Bt p H H2 := by
  obtain ⟨a, b, e, r⟩ := h.src
  refine ⟨h.same.trans fun c u hc => ?_, a, b, s _ _ e, r⟩
  obtain ⟨c1, c2⟩ := hid_at hc
  rw [hid_ne c1]
  exact s _ _ c2
/-- .. of the draws -/
def spTakeB : Sp := fun vs H Q _ => ∃ (p : Addr) (t : Int), vs = [.ref p, .int t] ∧ Src H p ∧ 0 < t ∧ t.natAbs < 2 ^ 100 ∧ ∀ (r : Int) H', 0 ≤ r → r < t → Bt p H H' → Q (.int r) H'
def spOne (K : PySem.W.Frag) : Sp := fun vs H Q _ => ∃ (p l : Addr) (us : List V) (ds : List PyData), vs = [.ref p, .ref l] ∧ Src H p ∧ SqL K (hid p H) l us ∧ DQs K (hid p H) us ds ∧ 0 < ds.length ∧ ds.length < 2 ^ 60 ∧
  ∀ H' u d, d ∈ ds → Bt p H H' → DQ K (hid p H') u d → Q u H'
section
variable {P : Program} {w : World} {K : PySem.W.Frag} {mg : Str → Option Value} {base : Heap}
theorem cl_takeB (TT : All K mg) (T : Nms mg) : Cl P w K mg base 1 "_law_take" ["_law_pool_here", "_law_bound"] spTakeB := by
  obtain ⟨g, fd, F, h⟩ := cl_take (P := P) (w := w) (base := base) TT T
  refine ⟨g, fd, F.imp fun vs H Q E q => ?_, h⟩
  obtain ⟨p, t, e, ⟨a, b, hp, b0, b1⟩, t0, t1, k⟩ := q
  exact ⟨p, t, a, b, e, hp, b0, b1, t0, t1, fun r a' b' r0 r1 c0 c1 => k r _ r0 r1 ((Bt.refl ⟨a, b, hp, b0, b1⟩).put c0 c1)⟩
theorem sc_one : FnScope ["_law_pool_here", "_law_things"] ["_law_pool_here", "_law_things"] (defScope (top 27)) := ⟨rfl, rfl, rfl, by decide +kernel, rfl, by decide +kernel, by decide +kernel⟩
theorem cl_one (TT : All K mg) (T : Nms mg) : Cl P w K mg base 2 "_law_one" ["_law_pool_here", "_law_things"] (spOne K) := by
  obtain ⟨g, fd, D⟩ := TT.dn 27 _ _ rfl
  refine D.cl (D.fn.ok sc_one (fun vs H Q E h => ?_) (fun cdv A outer s H vs Q E hr h => ?_))
  · obtain ⟨p, l, us, ds, rfl, _⟩ := h
    rfl
  · obtain ⟨p, l, us, ds, rfl, hsrc, hl, hd, h0, h1, k⟩ := h
    refine ⟨_, pss_one (ps_ret (pe_ix ix_list (pv 1) (pe_cl (cl_takeB TT T) hr (by decide) (pa_cons (pv 0) (pa_cons (pe_callB call_len_seq (by rfl) T.len PySem.boot_len (pa_cons (pv 1) pa_nil)) pa_nil))) (fun _ _ => rfl))), ?_⟩
    have hlen := hd.len
    refine ⟨_, rfl, _, rfl, _, rfl, l, us, rfl, .inl ((hid_same p H).seq hl), p, _, rfl, hsrc, by omega, by omega, fun r H' r0 r1 bt => ?_⟩
    obtain ⟨i, rfl⟩ : ∃ i : Nat, r = (i : Int) := ⟨r.toNat, by omega⟩
    have hi : i < ds.length := by omega
    obtain ⟨u, hu, hq⟩ := hd.get (i := i) (List.getElem?_eq_getElem hi)
    exact ⟨l, us, _, u, rfl, rfl, (hid_same p H').seq (bt.same.seq hl), atI_nat hu, k H' u _ (List.getElem_mem hi) bt (hq.to bt.same)⟩
end
theorem Dn.clG {P : Program} {w : World} {K : PySem.W.Frag} {mg : Str → Option Value} {base : Heap} {k : Nat} {x : Str} {ps : List Str} {st : Stmt} {g : Addr} {fd : FuncData} {sp : Sp} (D : Dn K mg x ps st g fd) (F : FnG P w K mg base k g fd ps sp) : ClG P w K mg base k x ps sp :=
  ⟨g, fd, F, D.mg, D.fn.kp, D.bn⟩
/-- what has come since -/
def nw (H H' : Hp) : Hp := fun b => match H b with
  | none => H' b
  | some _ => none
theorem nw_at {H H' : Hp} {b : Addr} {u : HO} (h : nw H H' b = some u) : H b = none ∧ H' b = some u := by
  unfold nw at h
  cases e : H b with
  | none =>
    rw [e] at h
    exact ⟨rfl, h⟩
  | some x =>
    rw [e] at h
    cases h
theorem nw_of {H H' : Hp} {b : Addr} {u : HO} (n : H b = none) (h : H' b = some u) : nw H H' b = some u := by
  unfold nw
  rw [n]
  exact h
theorem nw_in (H H' : Hp) : Same (nw H H') H' := fun b u e => (nw_at e).2
theorem nw_more {H H1 H2 : Hp} (s : Same H1 H2) : Same (nw H H1) (nw H H2) := fun b u e => nw_of (nw_at e).1 (s _ _ (nw_at e).2)
theorem old_none {H H1 : Hp} {b : Addr} (s : Same H H1) (n : H1 b = none) : H b = none := by
  cases e : H b with
  | none => rfl
  | some u =>
    rw [s b u e] at n
    cases n
theorem nw_less {H H1 H2 : Hp} (s : Same H H1) : Same (nw H1 H2) (nw H H2) := fun b u e => nw_of (old_none s (nw_at e).1) (nw_at e).2
theorem nw_hid {p : Addr} {H H' : Hp} (h : Src H p) : Same (nw H H') (hid p H') := fun b u e => by
  obtain ⟨x, y, z, _⟩ := h
  rw [hid_ne (Ne.symm (ne_of_none z (nw_at e).1))]
  exact (nw_at e).2
def tLit (K : PySem.W.Frag) (d : PyData) : TE := fun _ H Q => ∀ H' v, Same H H' → DQ K (nw H H') v d → Q v H'
def tLits (K : PySem.W.Frag) (ds : List PyData) : TA := fun _ H Q => ∀ H' vs, Same H H' → DQs K (nw H H') vs ds → Q vs H'
theorem DQs.to {K : PySem.W.Frag} {H H' : Hp} {vs : List V} {ds : List PyData} (h : DQs K H vs ds) (s : Same H H') : DQs K H' vs ds := DQs.same s ds vs h
/-- a list that is tracked, of written data -/
def tLstL (K : PySem.W.Frag) (ds : List PyData) : TE := fun _ H Q => ∀ H' p vs, Same H H' → H p = none → H' p = some (.lst vs) → DQs K (nw H H') vs ds → Q (.ref p) H'
section
variable {X : Cx}
theorem li_non {j pos} : PE X (.Constant .none j pos) (tLit X.K .none) := K0.pe_imp pe_non fun σ H Q q => q H _ (Same.refl _) .non
theorem li_bl {b j pos} : PE X (.Constant (.bool b) j pos) (tLit X.K (.bool b)) := K0.pe_imp pe_bl fun σ H Q q => q H _ (Same.refl _) (.bl b)
theorem li_int {i j pos} : PE X (.Constant (.int i) j pos) (tLit X.K (.int i)) := K0.pe_imp pe_int fun σ H Q q => q H _ (Same.refl _) (.int i)
theorem li_neg {i j p1 pos} : PE X (.UnaryOp .USub (.Constant (.int i) j p1) pos) (tLit X.K (.int (-i))) := K0.pe_imp (pe_un un_neg pe_int) fun σ H Q q => ⟨i, rfl, q H _ (Same.refl _) (.int _)⟩
theorem li_str {x j pos} (h : x.length ≤ 1000) : PE X (.Constant (.str x) j pos) (tLit X.K (.str x)) := K0.pe_imp pe_str fun σ H Q q => q H _ (Same.refl _) (.str x h)
theorem li_dct {pos} : PE X (.Dict [] [] pos) (tLit X.K (.dict [])) := K0.pe_imp pe_dnewK fun σ H Q q p np => q _ _ (K0.same_upd np) (.dct (nw_of np upd_same))
theorem las_nil : PA X [] (tLits X.K []) := K0.pa_imp pa_nil fun σ H Q q => q H [] (Same.refl _) .nil
theorem las_cons {e : Expr} {es : List Expr} {d : PyData} {ds : List PyData} (h : PE X e (tLit X.K d)) (hs : PA X es (tLits X.K ds)) (he : starEach (e :: es) X.env = (false, eval e X.env) :: starEach es X.env := by rfl) : PA X (e :: es) (tLits X.K (d :: ds)) :=
  K0.pa_imp (pa_cons h hs he) fun σ H Q q H1 v S1 h1 H2 vs S2 h2 => q H2 (v :: vs) (S1.trans S2) (.cons (h1.to (nw_more S2)) (h2.to (nw_less S1)))
theorem li_tup {es : List Expr} {ds : List PyData} {x1 pos} (h : PA X es (tLits X.K ds)) (hl : ds.length ≤ 1000) : PE X (.Tuple es x1 pos) (tLit X.K (.tuple ds)) :=
  K0.pe_imp (pe_tup h) fun σ H Q q H1 vs S1 h1 => ⟨by rw [h1.len, sizeLine_eq]; omega, fun p np => q _ _ (S1.trans (K0.same_upd np)) (.tup (.inl (.inl (nw_of (old_none S1 np) upd_same))) (h1.to (nw_more (K0.same_upd np))))⟩
theorem li_lst {es : List Expr} {ds : List PyData} {pos} (h : PA X es (tLits X.K ds)) (hl : ds.length ≤ 1000) : PE X (.List es pos) (tLit X.K (.list ds)) :=
  K0.pe_imp (pe_lst h) fun σ H Q q H1 vs S1 h1 => ⟨by rw [h1.len, sizeLine_eq]; omega, fun p np => q _ _ (S1.trans (K0.same_upd np)) (.lst (SqL.of (nw_of (old_none S1 np) upd_same)) (h1.to (nw_more (K0.same_upd np))))⟩
theorem li_list {es : List Expr} {ds : List PyData} {pos} (h : PA X es (tLits X.K ds)) (hl : ds.length ≤ 1000) : PE X (.List es pos) (tLstL X.K ds) :=
  K0.pe_imp (pe_lst h) fun σ H Q q H1 vs S1 h1 => ⟨by rw [h1.len, sizeLine_eq]; omega, fun p np => q _ p vs (S1.trans (K0.same_upd np)) (old_none S1 np) upd_same (h1.to (nw_more (K0.same_upd np)))⟩
end
theorem DQs.app {K : PySem.W.Frag} {H : Hp} : ∀ {vs us : List V} {ds es : List PyData}, DQs K H vs ds → DQs K H us es → DQs K H (vs ++ us) (ds ++ es)
  | _, _, _, _, .nil, k => k
  | _, _, _, _, .cons r t, k => .cons r (t.app k)
def cutD (ds : List PyData) (lo hi : Option Int) : List PyData := (ds.drop (HT.sIx ds.length 0 lo)).take (HT.sIx ds.length ds.length hi - HT.sIx ds.length 0 lo)
theorem DQs.drop {K : PySem.W.Frag} {H : Hp} : ∀ (n : Nat) {vs : List V} {ds : List PyData}, DQs K H vs ds → DQs K H (vs.drop n) (ds.drop n)
  | 0, _, _, h => h
  | n + 1, _, _, .nil => .nil
  | n + 1, _, _, .cons _ t => t.drop n
theorem DQs.take {K : PySem.W.Frag} {H : Hp} : ∀ (n : Nat) {vs : List V} {ds : List PyData}, DQs K H vs ds → DQs K H (vs.take n) (ds.take n)
  | 0, _, _, _ => .nil
  | n + 1, _, _, .nil => .nil
  | n + 1, _, _, .cons r t => .cons r (t.take n)
theorem hid_none {p q : Addr} {H : Hp} (n : H q = none) : hid p H q = none := by
  unfold hid
  by_cases e : q = p
  · rw [if_pos e]
  · rw [if_neg e]
    exact n
/-- small data: nested k deep at most, of weight W at most -/
structure Nice (k W : Nat) (d : PyData) : Prop where
  sh : d.showable = true
  dp : d.depth ≤ k
  lv : d.leavesShort 13 = true
  wt : d.weight ≤ W
theorem Nice.mono {k k' W W' : Nat} {d : PyData} (h : Nice k W d) (a : k ≤ k') (b : W ≤ W') : Nice k' W' d := ⟨h.sh, Nat.le_trans h.dp a, h.lv, Nat.le_trans h.wt b⟩
theorem nice_all {k W : Nat} : ∀ {ds : List PyData}, (∀ d ∈ ds, Nice k W d) → PyData.showableAll ds = true ∧ PyData.depthAll ds ≤ k ∧ PyData.leavesShortAll 13 ds = true ∧ PyData.weightAll ds ≤ ds.length * (W + 1)
  | [], _ => ⟨rfl, Nat.zero_le _, rfl, by simp [PyData.weightAll]⟩
  | d :: ds, h => by
    obtain ⟨h1, h2, h3, h4⟩ := nice_all fun e he => h e (List.mem_cons_of_mem _ he)
    have g := h d List.mem_cons_self
    refine ⟨?_, ?_, ?_, ?_⟩
    · show (d.showable && PyData.showableAll ds) = true
      rw [g.sh, h1]
      rfl
    · show max d.depth (PyData.depthAll ds) ≤ k
      exact Nat.max_le.mpr ⟨g.dp, h2⟩
    · show (d.leavesShort 13 && PyData.leavesShortAll 13 ds) = true
      rw [g.lv, h3]
      rfl
    · show d.weight + 1 + PyData.weightAll ds ≤ (ds.length + 1) * (W + 1)
      rw [Nat.succ_mul]
      have := g.wt
      omega
theorem Nice.tuple {k W : Nat} {ds : List PyData} (h : ∀ d ∈ ds, Nice k W d) : Nice (k + 1) (ds.length * (W + 1)) (.tuple ds) := by
  obtain ⟨h1, h2, h3, h4⟩ := nice_all h
  exact ⟨h1, Nat.succ_le_succ h2, h3, h4⟩
theorem Nice.list {k W : Nat} {ds : List PyData} (h : ∀ d ∈ ds, Nice k W d) : Nice (k + 1) (ds.length * (W + 1)) (.list ds) := by
  obtain ⟨h1, h2, h3, h4⟩ := nice_all h
  exact ⟨h1, Nat.succ_le_succ h2, h3, h4⟩
theorem nice_int {i : Int} (h : i.natAbs < 10000) : Nice 0 14 (.int i) := by
  have lg : i.natAbs.log2 < 14 := by
    by_cases z : i.natAbs = 0
    · rw [z]
      decide
    · exact (Nat.log2_lt z).mpr (by omega)
  refine ⟨?_, Nat.zero_le _, ?_, ?_⟩
  · show decide (i.natAbs.log2 < 1920) = true
    exact decide_eq_true (by omega)
  · show decide ((PyData.shown (.int i)).length ≤ 13) = true
    have e := int_text_length_le10 (a := i) (k := 4) (by decide) h
    refine decide_eq_true ?_
    show (Str.ofString (toString i)).length ≤ 13
    rw [PySem.ofString_length]
    omega
  · show (if i == 0 then 0 else i.natAbs.log2 + 1) ≤ 14
    split <;> omega
theorem nice_none : Nice 0 0 .none := ⟨rfl, Nat.le_refl _, rfl, Nat.le_refl _⟩
theorem nice_str {x : Str} {n : Nat} (h : x.length ≤ n) (hc : x.cps.toList.all (fun c => decide (c < 16 ^ 8)) = true) : Nice 0 n (.str x) := ⟨rfl, Nat.le_refl _, hc, h⟩
theorem shows_of {K : PySem.W.Frag} {H : Hp} {v : V} {d : PyData} {k W : Nat} (h : DQ K H v d) (n : Nice k W d) (hk : k ≤ 8) (hW : W ≤ 2 ^ 20) (p : d.hasDict = true → noList d = true) : Shows K H v d :=
  ⟨h, p, n.sh, Nat.le_trans n.dp hk, PyData.shown_fits (B := 13) (by decide) (by decide) n.lv (Nat.le_trans n.wt hW)⟩
/-- neither dicts nor lists -/
def Pure (d : PyData) : Prop := d.hasDict = false ∧ noList d = true
theorem pure_all : ∀ {ds : List PyData}, (∀ d ∈ ds, Pure d) → PyData.hasDictAll ds = false ∧ noListAll ds = true
  | [], _ => ⟨rfl, rfl⟩
  | d :: ds, h => by
    obtain ⟨h1, h2⟩ := pure_all fun e he => h e (List.mem_cons_of_mem _ he)
    obtain ⟨g1, g2⟩ := h d List.mem_cons_self
    refine ⟨?_, ?_⟩
    · show (d.hasDict || PyData.hasDictAll ds) = false
      rw [g1, h1]
      rfl
    · show (noList d && noListAll ds) = true
      rw [g2, h2]
      rfl
theorem Pure.tuple {ds : List PyData} (h : ∀ d ∈ ds, Pure d) : Pure (.tuple ds) := pure_all h
theorem pure_int (i : Int) : Pure (.int i) := ⟨rfl, rfl⟩
theorem pure_str (x : Str) : Pure (.str x) := ⟨rfl, rfl⟩
theorem pure_none : Pure .none := ⟨rfl, rfl⟩
end K1
/-! texts and their items: data -/
namespace K1
open PySem
def isLet (c : Nat) : Bool := decide (97 ≤ c) && decide (c ≤ 122)
def isFig (c : Nat) : Bool := decide (48 ≤ c) && decide (c ≤ 57)
def isFst (c : Nat) : Bool := decide (49 ≤ c) && decide (c ≤ 57)
/-- does a sign of that kind begin it -/
def sgM (p : Nat → Bool) : List Nat → Bool
  | c :: _ => p c
  | [] => false
def pE (S : List Nat) : Nat := if sgM isFst S = true then (if sgM isFig (S.drop 1) = true then 2 else 1) else 0
/-- the letters ahead, n at most -/
def lE : Nat → List Nat → Nat
  | n + 1, c :: r => if isLet c = true then lE n r + 1 else 0
  | _, _ => 0
def wE (S : List Nat) : Nat := if lE 4 S = 0 then 0 else lE 4 S + pE (S.drop (lE 4 S))
def nE (S : List Nat) : Nat := if sgM (fun c => c == 48) S = true then 1 else pE S
/-- the number that figures tell -/
def numL (l : List Nat) : Int := l.foldl (fun (a : Int) (c : Nat) => 10 * a + ((c : Int) - 48)) 0
def sO (l : List Nat) : Str := ⟨l.toArray⟩
/-- the head behind a bracket, and how many signs it has, the bracket, too -/
def brM (S : List Nat) : List PyData × Nat :=
  if sgM (fun c => c == 43) S = true then ([.str "sum"], 2) else if sgM (fun c => c == 42) S = true then ([.str "product"], 2)
  else if 0 < wE S ∧ (S.drop (wE S)).take 2 = [32, 61] then ([.str "let", .str (sO (S.take (wE S)))], wE S + 3) else ([.str "block"], 1)
def hdM (S : List Nat) : Option (List PyData × Nat) :=
  if sgM (fun c => c == 40) S = true then some (brM (S.drop 1)) else if sgM (fun c => c == 63) S = true then some ([.str "lost"], 1)
  else if 0 < wE S then some ([.str "use", .str (sO (S.take (wE S)))], wE S) else if 0 < nE S then some ([.str "number", .int (numL (S.take (nE S)))], nE S) else none
def holdH : List PyData → Bool
  | .str x :: _ => x == "block" || x == "let" || x == "sum" || x == "product"
  | _ => false
/-- a scan -/
structure Sc where
  paths : List (List Int)
  heads : List (List PyData)
  firsts : List Int
  behinds : List Int
  pos : Nat
  around : List Nat
  counts : List Nat
def Sc.count (S : Sc) : Nat := S.counts.getLast?.getD 0
def Sc.holder (S : Sc) : List Int := match S.around.getLast? with
  | some i => S.paths.getD i []
  | none => []
def Sc.add (S : Sc) (h : List PyData) (n : Nat) : Sc :=
  { paths := S.paths ++ [S.holder ++ [(S.count : Int)]], heads := S.heads ++ [h], firsts := S.firsts ++ [(S.pos : Int)], behinds := S.behinds ++ [((S.pos + n : Nat) : Int)], pos := S.pos + n,
    around := if holdH h = true then S.around ++ [S.heads.length] else S.around,
    counts := if holdH h = true then (S.counts.dropLast ++ [S.count + 1]) ++ [0] else S.counts.dropLast ++ [S.count + 1] }
def Sc.close (S : Sc) : Sc :=
  { S with pos := S.pos + 1, behinds := S.behinds.set (S.around.getLast?.getD 0) ((S.pos + 1 : Nat) : Int), around := S.around.dropLast, counts := S.counts.dropLast }
def blkH : List PyData → Bool
  | [.str x] => x == "block"
  | _ => false
def Sc.newB (S : Sc) : Bool := S.count == 0 && (match S.around.getLast? with
  | some i => blkH (S.heads.getD i [])
  | none => false)
def beginS (T : List Nat) (S : Sc) : Nat ⊕ Sc := match hdM (T.drop S.pos) with
  | none => .inl S.pos
  | some (h, n) => .inr (S.add h n)
def stepS (T : List Nat) (S : Sc) : Nat ⊕ Sc :=
  if T.getD S.pos 0 = 41 ∧ S.around ≠ [] then .inr S.close
  else if S.newB = true then beginS T S
  else if T.getD S.pos 0 = 32 then beginS T { S with pos := S.pos + 1 }
  else .inl S.pos
inductive Runs (T : List Nat) : Nat → Sc → Nat ⊕ Sc → Prop
  | fin {S : Sc} (h : T.length ≤ S.pos) : Runs T 0 S (if S.around = [] then .inr S else .inl S.pos)
  | bad {S : Sc} {e : Nat} (h : S.pos < T.length) (hs : stepS T S = .inl e) : Runs T 0 S (.inl e)
  | go {S S' : Sc} {n : Nat} {r : Nat ⊕ Sc} (h : S.pos < T.length) (hs : stepS T S = .inr S') (ht : Runs T n S' r) : Runs T (n + 1) S r
def sc0 : Sc := ⟨[], [], [], [], 0, [], [0]⟩
/-- steps that lead from one scan to another one -/
inductive Steps (T : List Nat) : Sc → Sc → Prop
  | nil {S : Sc} : Steps T S S
  | cons {S S1 S2 : Sc} (h : S.pos < T.length) (hs : stepS T S = .inr S1) (ht : Steps T S1 S2) : Steps T S S2
theorem Steps.trans {T : List Nat} {S1 S2 S3 : Sc} (a : Steps T S1 S2) (b : Steps T S2 S3) : Steps T S1 S3 := by
  induction a with
  | nil => exact b
  | cons h hs _ ih => exact .cons h hs (ih b)
theorem Steps.runs {T : List Nat} {S1 S2 : Sc} {r : Nat ⊕ Sc} {n : Nat} (a : Steps T S1 S2) (b : Runs T n S2 r) : ∃ m, Runs T m S1 r := by
  induction a with
  | nil => exact ⟨n, b⟩
  | cons h hs _ ih =>
    obtain ⟨m, q⟩ := ih b
    exact ⟨m + 1, .go h hs q⟩
/-! ### items -/
inductive It
  | leaf (h : List PyData) (w : List Nat)
  | node (h : List PyData) (o : List Nat) (b : Bool) (l : List It)
mutual
def It.word : It → List Nat
  | .leaf _ w => w
  | .node _ o b l => o ++ ((if b = true then (gapped l).drop 1 else gapped l) ++ [41])
def gapped : List It → List Nat
  | [] => []
  | x :: r => 32 :: (x.word ++ gapped r)
end
mutual
def It.dat : It → PyData
  | .leaf h _ => .tuple h
  | .node h _ _ l => .tuple (h ++ [.tuple (datL l)])
def datL : List It → List PyData
  | [] => []
  | x :: r => x.dat :: datL r
end
mutual
/-- the rows of an item with that path, from a sign on -/
def It.rows (p : List Int) (at_ : Nat) : It → List (List Int × Int × Int)
  | .leaf _ w => [(p, (at_ : Int), ((at_ + w.length : Nat) : Int))]
  | .node h o b l => (p, (at_ : Int), ((at_ + (It.node h o b l).word.length : Nat) : Int)) :: rowsL p 0 (at_ + o.length + if b = true then 0 else 1) l
/-- .. of those in a holder, from the k-th on -/
def rowsL (p : List Int) (k : Nat) (at_ : Nat) : List It → List (List Int × Int × Int)
  | [] => []
  | x :: r => x.rows (p ++ [(k : Int)]) at_ ++ rowsL p (k + 1) (at_ + x.word.length + 1) r
end
mutual
def It.hds : It → List (List PyData)
  | .leaf h _ => [h]
  | .node h _ _ l => h :: hdsL l
def hdsL : List It → List (List PyData)
  | [] => []
  | x :: r => x.hds ++ hdsL r
end
/-- what stands behind an item -/
def Delim (rest : List Nat) : Prop := rest = [] ∨ (∃ r, rest = 32 :: r) ∨ ∃ r, rest = 41 :: r
/-- .. and does not make a let of the name ahead -/
def Delim2 (rest : List Nat) : Prop := (∃ c r, rest = 32 :: c :: r ∧ c ≠ 61) ∨ ∃ r, rest = 41 :: r
structure LeafOk (h : List PyData) (w : List Nat) : Prop where
  hd : ∀ rest, Delim rest → hdM (w ++ rest) = some (h, w.length)
  br : ∀ rest, Delim2 rest → brM (w ++ rest) = ([.str "block"], 1)
  no : holdH h = false
  st : ∃ c r, w = c :: r ∧ c ≠ 32 ∧ c ≠ 41 ∧ c ≠ 61
inductive NodeOk : List PyData → List Nat → Bool → Prop
  | block : NodeOk [.str "block"] [40] true
  | other {h : List PyData} {o : List Nat} (hd : ∀ rest, hdM (o ++ rest) = some (h, o.length)) (yes : holdH h = true) (nb : blkH h = false) (st : ∃ r, o = 40 :: r) : NodeOk h o false
inductive Gd : Nat → It → Prop
  | leaf {n : Nat} {h : List PyData} {w : List Nat} (k : LeafOk h w) : Gd n (.leaf h w)
  | node {n : Nat} {h : List PyData} {o : List Nat} {b : Bool} {l : List It} (k : NodeOk h o b) (hl : l.length ≤ 3) (hc : ∀ x ∈ l, Gd n x) : Gd (n + 1) (.node h o b l)
theorem NodeOk.yes {h : List PyData} {o : List Nat} {b : Bool} (k : NodeOk h o b) : holdH h = true := by
  cases k with
  | block => decide +kernel
  | other _ y _ _ => exact y
theorem NodeOk.st {h : List PyData} {o : List Nat} {b : Bool} (k : NodeOk h o b) : ∃ r, o = 40 :: r := by
  cases k with
  | block => exact ⟨[], rfl⟩
  | other _ _ _ s => exact s
theorem Gd.st {n : Nat} {x : It} (g : Gd n x) : ∃ c r, x.word = c :: r ∧ c ≠ 32 ∧ c ≠ 41 ∧ c ≠ 61 := by
  cases g with
  | leaf k => exact k.st
  | @node n h o b l k _ _ =>
    obtain ⟨r, rfl⟩ := k.st
    exact ⟨40, _, rfl, by decide, by decide, by decide⟩
/-- the first item of a block: its bracket is a block's -/
theorem br_word {n : Nat} {x : It} (g : Gd n x) {rest : List Nat} (d : Delim2 rest) : brM (x.word ++ rest) = ([.str "block"], 1) := by
  cases g with
  | leaf k => exact k.br rest d
  | @node n h o b l k _ _ =>
    obtain ⟨r, rfl⟩ := k.st
    rfl
theorem br_end (rest : List Nat) : brM (41 :: rest) = ([.str "block"], 1) := rfl
theorem drop_add {T w r : List Nat} {p : Nat} (h : T.drop p = w ++ r) : T.drop (p + w.length) = r := by
  rw [← List.drop_drop, h, List.drop_left]
theorem drop_get {T r : List Nat} {p c : Nat} (h : T.drop p = c :: r) : p < T.length ∧ T.getD p 0 = c ∧ T.drop (p + 1) = r := by
  have hl : p < T.length := by
    by_cases q : p < T.length
    · exact q
    · rw [List.drop_eq_nil_of_le (by omega)] at h
      cases h
  refine ⟨hl, ?_, ?_⟩
  · rw [List.drop_eq_getElem_cons hl] at h
    rw [List.getD_eq_getElem?_getD, List.getElem?_eq_getElem hl]
    exact (List.cons.inj h).1
  · rw [List.drop_eq_getElem_cons hl] at h
    exact (List.cons.inj h).2
structure Wf (S : Sc) : Prop where
  lp : S.paths.length = S.heads.length
  lf : S.firsts.length = S.heads.length
  lb : S.behinds.length = S.heads.length
  ne : S.counts ≠ []
  ar : ∀ i ∈ S.around, i < S.heads.length
/-- .. with these rows and heads more, all being closed again -/
def Sc.more (S : Sc) (rs : List (List Int × Int × Int)) (hs : List (List PyData)) (p k : Nat) : Sc :=
  { paths := S.paths ++ rs.map (·.1), heads := S.heads ++ hs, firsts := S.firsts ++ rs.map (·.2.1), behinds := S.behinds ++ rs.map (·.2.2), pos := p, around := S.around, counts := S.counts.dropLast ++ [S.count + k] }
theorem more_count (S : Sc) (rs : List (List Int × Int × Int)) (hs : List (List PyData)) (p k : Nat) : (S.more rs hs p k).count = S.count + k := by
  show ((S.counts.dropLast ++ [S.count + k]).getLast?).getD 0 = S.count + k
  rw [List.getLast?_append]
  rfl
theorem more_holder {S : Sc} (W : Wf S) (rs : List (List Int × Int × Int)) (hs : List (List PyData)) (p k : Nat) : (S.more rs hs p k).holder = S.holder := by
  show (match S.around.getLast? with | some i => (S.paths ++ rs.map (fun q : List Int × Int × Int => q.1)).getD i [] | none => []) = _
  unfold Sc.holder
  cases e : S.around.getLast? with
  | none => rfl
  | some i =>
    have hi := W.ar i (List.mem_of_getLast? e)
    show (S.paths ++ rs.map (fun q : List Int × Int × Int => q.1)).getD i [] = S.paths.getD i []
    rw [List.getD_eq_getElem?_getD, List.getD_eq_getElem?_getD, List.getElem?_append_left (by rw [W.lp]; exact hi)]
theorem more_newB {S : Sc} (W : Wf S) {rs : List (List Int × Int × Int)} {hs : List (List PyData)} {p k : Nat} (h : S.newB = false ∨ 0 < k) : (S.more rs hs p k).newB = false := by
  unfold Sc.newB
  rw [more_count]
  rcases h with h | h
  · unfold Sc.newB at h
    cases e : S.around.getLast? with
    | none =>
      show ((S.count + k == 0) && (match S.around.getLast? with | some i => blkH ((S.heads ++ hs).getD i []) | none => false)) = false
      rw [e]
      simp
    | some i =>
      have hi := W.ar i (List.mem_of_getLast? e)
      rw [e] at h
      show ((S.count + k == 0) && (match S.around.getLast? with | some i => blkH ((S.heads ++ hs).getD i []) | none => false)) = false
      rw [e]
      have z : (S.heads ++ hs).getD i [] = S.heads.getD i [] := by
        rw [List.getD_eq_getElem?_getD, List.getD_eq_getElem?_getD, List.getElem?_append_left hi]
      dsimp only at h ⊢
      rw [z]
      by_cases q : S.count = 0
      · rw [q] at h ⊢
        cases k with
        | zero => exact h
        | succ k => simp
      · have q' : (S.count + k == 0) = false := by simp; omega
        rw [q']
        rfl
  · have q' : (S.count + k == 0) = false := by simp; omega
    rw [q']
    rfl
theorem more_wf {S : Sc} (W : Wf S) {rs : List (List Int × Int × Int)} {hs : List (List PyData)} {p k : Nat} (h : rs.length = hs.length) : Wf (S.more rs hs p k) where
  lp := by show (S.paths ++ rs.map (·.1)).length = (S.heads ++ hs).length; rw [List.length_append, List.length_append, List.length_map, W.lp, h]
  lf := by show (S.firsts ++ rs.map (·.2.1)).length = (S.heads ++ hs).length; rw [List.length_append, List.length_append, List.length_map, W.lf, h]
  lb := by show (S.behinds ++ rs.map (·.2.2)).length = (S.heads ++ hs).length; rw [List.length_append, List.length_append, List.length_map, W.lb, h]
  ne := by show S.counts.dropLast ++ [S.count + k] ≠ []; simp
  ar := fun i hi => by
    show i < (S.heads ++ hs).length
    rw [List.length_append]
    have := W.ar i hi
    omega
theorem more_more {S : Sc} (rs rs' : List (List Int × Int × Int)) (hs hs' : List (List PyData)) (p p' k k' : Nat) : ((S.more rs hs p k).more rs' hs' p' k') = S.more (rs ++ rs') (hs ++ hs') p' (k + k') := by
  have c := more_count S rs hs p k
  unfold Sc.more at c ⊢
  simp only [List.map_append, List.append_assoc, List.dropLast_concat, c, Nat.add_assoc]
theorem more_nil {S : Sc} (W : Wf S) : S.more [] [] S.pos 0 = S := by
  have q : S.counts.dropLast ++ [S.count] = S.counts := by
    unfold Sc.count
    rw [List.getLast?_eq_some_getLast W.ne]
    exact List.dropLast_concat_getLast W.ne
  unfold Sc.more
  simp only [List.map_nil, List.append_nil, Nat.add_zero]
  rw [q]
mutual
theorem It.len_hds (p : List Int) (a : Nat) : ∀ x : It, (x.rows p a).length = x.hds.length
  | .leaf _ _ => by simp [It.rows, It.hds]
  | .node h o b l => by
    rw [It.rows, It.hds, List.length_cons, List.length_cons, len_hdsL]
theorem len_hdsL (p : List Int) (k a : Nat) : ∀ l : List It, (rowsL p k a l).length = (hdsL l).length
  | [] => by simp [rowsL, hdsL]
  | x :: r => by
    rw [rowsL, hdsL, List.length_append, List.length_append, It.len_hds, len_hdsL]
end
end K1
/-! a text of items is scanned as it was written -/
namespace K1
open PySem
theorem begin_of {T : List Nat} {S : Sc} {w r : List Nat} {h : List PyData} (hT : T.drop S.pos = w ++ r) (hh : hdM (w ++ r) = some (h, w.length)) : beginS T S = .inr (S.add h w.length) := by
  unfold beginS
  rw [hT, hh]
theorem gapped_delim (l : List It) {rest : List Nat} (d : Delim rest) : Delim (gapped l ++ rest) := by
  cases l with
  | nil => rw [gapped]; exact d
  | cons x r => exact .inr (.inl ⟨_, by rw [gapped]; rfl⟩)
theorem gapped_delim2 {n : Nat} (l : List It) (hl : ∀ x ∈ l, Gd n x) (rest : List Nat) : Delim2 (gapped l ++ 41 :: rest) := by
  cases l with
  | nil => exact .inr ⟨rest, by rw [gapped]; rfl⟩
  | cons x r =>
    obtain ⟨c, w, e, _, _, h⟩ := (hl x List.mem_cons_self).st
    refine .inl ⟨c, w ++ gapped r ++ 41 :: rest, ?_, h⟩
    rw [gapped, e]
    rfl
theorem add_leaf {S : Sc} {h : List PyData} {n : Nat} (hh : holdH h = false) : S.add h n = S.more [(S.holder ++ [(S.count : Int)], (S.pos : Int), ((S.pos + n : Nat) : Int))] [h] (S.pos + n) 1 := by
  unfold Sc.add Sc.more
  rw [hh]
  rfl
/-- behind the opening of a holder -/
theorem add_open {S : Sc} {h : List PyData} {n : Nat} (W : Wf S) (hh : holdH h = true) : Wf (S.add h n) ∧ (S.add h n).holder = S.holder ++ [(S.count : Int)] ∧ (S.add h n).count = 0 ∧ (S.add h n).around = S.around ++ [S.heads.length] ∧ (S.add h n).heads = S.heads ++ [h] := by
  have ea : (S.add h n).around = S.around ++ [S.heads.length] := by unfold Sc.add; rw [hh]; rfl
  have ec : (S.add h n).counts = (S.counts.dropLast ++ [S.count + 1]) ++ [0] := by unfold Sc.add; rw [hh]; rfl
  refine ⟨⟨?_, ?_, ?_, ?_, ?_⟩, ?_, ?_, ea, rfl⟩
  · show (S.paths ++ [_]).length = (S.heads ++ [h]).length
    rw [List.length_append, List.length_append, W.lp]; rfl
  · show (S.firsts ++ [_]).length = (S.heads ++ [h]).length
    rw [List.length_append, List.length_append, W.lf]; rfl
  · show (S.behinds ++ [_]).length = (S.heads ++ [h]).length
    rw [List.length_append, List.length_append, W.lb]; rfl
  · rw [ec]; simp
  · intro i hi
    rw [ea] at hi
    show i < (S.heads ++ [h]).length
    rw [List.length_append]
    rcases List.mem_append.mp hi with q | q
    · have := W.ar i q
      omega
    · rw [List.mem_singleton.mp q]
      exact Nat.lt_succ_self _
  · unfold Sc.holder
    rw [ea, List.getLast?_append]
    show (S.paths ++ [S.holder ++ [(S.count : Int)]]).getD S.heads.length [] = _
    rw [List.getD_eq_getElem?_getD, ← W.lp, List.getElem?_append_right (Nat.le_refl _), Nat.sub_self]
    rfl
  · unfold Sc.count
    rw [ec, List.getLast?_append]
    rfl
theorem open_newB {S : Sc} {h : List PyData} {n : Nat} (W : Wf S) (hh : holdH h = true) : (S.add h n).newB = blkH h := by
  obtain ⟨_, _, h3, h4, h5⟩ := add_open (n := n) W hh
  unfold Sc.newB
  rw [h3, h4, h5, List.getLast?_append]
  show (true && blkH ((S.heads ++ [h]).getD S.heads.length [])) = _
  rw [List.getD_eq_getElem?_getD, List.getElem?_append_right (Nat.le_refl _), Nat.sub_self]
  rfl
/-- the holder is closed behind its items -/
theorem close_of {S : Sc} {h : List PyData} {n p k : Nat} {rs : List (List Int × Int × Int)} {hs : List (List PyData)} (W : Wf S) (hh : holdH h = true) :
    ((S.add h n).more rs hs p k).close = S.more ((S.holder ++ [(S.count : Int)], (S.pos : Int), ((p + 1 : Nat) : Int)) :: rs) (h :: hs) (p + 1) 1 := by
  obtain ⟨_, _, h3, h4, h5⟩ := add_open (n := n) W hh
  have ec : (S.add h n).counts = (S.counts.dropLast ++ [S.count + 1]) ++ [0] := by unfold Sc.add; rw [hh]; rfl
  have lb := W.lb
  unfold Sc.close Sc.more
  dsimp only
  rw [h4, h5, ec, List.getLast?_append, List.dropLast_concat, List.dropLast_concat, List.dropLast_concat]
  show Sc.mk ((S.paths ++ [S.holder ++ [(S.count : Int)]]) ++ rs.map (·.1)) ((S.heads ++ [h]) ++ hs) ((S.firsts ++ [(S.pos : Int)]) ++ rs.map (·.2.1)) (((S.behinds ++ [((S.pos + n : Nat) : Int)]) ++ rs.map (·.2.2)).set S.heads.length ((p + 1 : Nat) : Int)) (p + 1) S.around (S.counts.dropLast ++ [S.count + 1]) = _
  have e : ((S.behinds ++ [((S.pos + n : Nat) : Int)]) ++ rs.map (·.2.2)).set S.heads.length ((p + 1 : Nat) : Int) = S.behinds ++ (((p + 1 : Nat) : Int) :: rs.map (·.2.2)) := by
    rw [← lb, List.append_assoc, List.set_append_right _ _ (Nat.le_refl _), Nat.sub_self]
    rfl
  rw [e]
  simp only [List.append_assoc, List.singleton_append, List.map_cons]
theorem word_node (h : List PyData) (o : List Nat) (b : Bool) (l : List It) : (It.node h o b l).word = o ++ ((if b = true then (gapped l).drop 1 else gapped l) ++ [41]) := by rw [It.word]
mutual
/-- an item, from its first sign on -/
theorem scan_item {n : Nat} {T : List Nat} : ∀ (x : It), Gd n x → ∀ (S : Sc) (rest : List Nat), Wf S → T.drop S.pos = x.word ++ rest → Delim rest → ∃ S1, beginS T S = .inr S1 ∧ Steps T S1 (S.more (x.rows (S.holder ++ [(S.count : Int)]) S.pos) x.hds (S.pos + x.word.length) 1)
  | .leaf h w, g, S, rest, W, hT, d => by
    cases g with
    | leaf k =>
      rw [It.word] at hT
      refine ⟨_, begin_of hT (k.hd rest d), ?_⟩
      rw [add_leaf k.no, It.rows, It.hds, It.word]
      exact .nil
  | .node h o b l, g, S, rest, W, hT, d => by
    cases g with
    | @node n _ _ _ _ k hl hc =>
      obtain ⟨W1, h2, h3, h4, h5⟩ := add_open (n := o.length) W k.yes
      have hTo : T.drop S.pos = o ++ (((if b = true then (gapped l).drop 1 else gapped l) ++ [41]) ++ rest) := by rw [hT, word_node, List.append_assoc]
      have hTi := drop_add hTo
      rw [List.append_assoc] at hTi
      have ar : (S.add h o.length).around ≠ [] := by rw [h4]; simp
      -- the items, and the end
      have fin : ∀ (rs : List (List Int × Int × Int)) (p : Nat), T.drop p = 41 :: rest → p + 1 = S.pos + (It.node h o b l).word.length → rs = rowsL (S.holder ++ [(S.count : Int)]) 0 (S.pos + o.length + if b = true then 0 else 1) l → ∀ k', Steps T (S.add h o.length) ((S.add h o.length).more rs (hdsL l) p k') →
          Steps T (S.add h o.length) (S.more ((It.node h o b l).rows (S.holder ++ [(S.count : Int)]) S.pos) (It.node h o b l).hds (S.pos + (It.node h o b l).word.length) 1) := by
        intro rs p hp ep er k' st
        obtain ⟨g1, g2, g3⟩ := drop_get hp
        refine st.trans (.cons (S1 := ((S.add h o.length).more rs (hdsL l) p k').close) g1 ?_ ?_)
        · unfold stepS
          rw [if_pos ⟨g2, ar⟩]
        · rw [close_of W k.yes, It.rows, It.hds, ← ep, er]
          exact .nil
      cases k with
      | block =>
        refine ⟨_, begin_of (w := [40]) hTo (by
          show some (brM _) = _
          cases l with
          | nil => rw [show (if true = true then List.drop 1 (gapped []) else gapped []) = [] from by rw [gapped]; rfl]; rfl
          | cons x r =>
            have e : (if true = true then List.drop 1 (gapped (x :: r)) else gapped (x :: r)) = x.word ++ gapped r := by rw [gapped]; rfl
            show some (brM _) = _
            rw [e]
            show some (brM ((x.word ++ gapped r ++ [41]) ++ rest)) = _
            rw [List.append_assoc, List.append_assoc, br_word (hc x List.mem_cons_self) (by
              have z := gapped_delim2 r (fun y hy => hc y (List.mem_cons_of_mem _ hy)) rest
              exact z)]
            rfl), ?_⟩
        have W1' : Wf (S.add [.str "block"] 1) := W1
        have nB : (S.add [.str "block"] 1).newB = true := by
          rw [open_newB W (by decide +kernel)]
          decide +kernel
        cases l with
        | nil =>
          have e : (if true = true then List.drop 1 (gapped []) else gapped []) = [] := by rw [gapped]; rfl
          rw [e] at hTi
          refine fin [] (S.pos + 1) hTi ?_ (by rw [rowsL]) 0 ?_
          · rw [word_node, e]
            rfl
          · have z := more_nil W1
            rw [hdsL]
            have z' : (S.add [.str "block"] [40].length).more [] [] (S.pos + 1) 0 = S.add [.str "block"] [40].length := z
            rw [z']
            exact .nil
        | cons x r =>
          have e : (if true = true then List.drop 1 (gapped (x :: r)) else gapped (x :: r)) = x.word ++ gapped r := by rw [gapped]; rfl
          rw [e, List.append_assoc] at hTi
          have gx := hc x List.mem_cons_self
          obtain ⟨S2, b1, b2⟩ := scan_item x gx (S.add [.str "block"] 1) (gapped r ++ ([41] ++ rest)) W1' hTi (gapped_delim r (.inr (.inr ⟨rest, rfl⟩)))
          obtain ⟨c, w, ew, c1, c2, c3⟩ := gx.st
          have hT1 : T.drop (S.pos + 1) = c :: (w ++ (gapped r ++ ([41] ++ rest))) := by
            have q := hTi
            rw [ew] at q
            exact q
          obtain ⟨g1, g2, g3⟩ := drop_get hT1
          have W2 := more_wf (S := S.add [.str "block"] 1) W1' (rs := x.rows ((S.add [.str "block"] 1).holder ++ [((S.add [.str "block"] 1).count : Int)]) (S.pos + 1)) (hs := x.hds) (p := S.pos + 1 + x.word.length) (k := 1) (It.len_hds _ _ x)
          have st2 := scan_list r (fun y hy => hc y (List.mem_cons_of_mem _ hy)) _ ([41] ++ rest) (.inr (.inr ⟨rest, rfl⟩)) W2 (more_newB W1' (.inr (by decide))) (by
            show T.drop (S.pos + 1 + x.word.length) = _
            have q := drop_add hTi
            exact q)
          refine fin (x.rows ((S.add [.str "block"] 1).holder ++ [((S.add [.str "block"] 1).count : Int)]) (S.pos + 1) ++ rowsL (S.holder ++ [(S.count : Int)]) 1 (S.pos + 1 + x.word.length + 1) r) (S.pos + 1 + x.word.length + (gapped r).length) ?_ ?_ ?_ (1 + r.length) ?_
          · have q := drop_add (drop_add hTi)
            exact q
          · rw [word_node, e]
            simp only [List.length_append, List.length_cons, List.length_nil]
            omega
          · rw [rowsL]
            show x.rows ((S.add [.str "block"] 1).holder ++ [((S.add [.str "block"] 1).count : Int)]) (S.pos + 1) ++ _ = _
            have h2' : (S.add [.str "block"] 1).holder = S.holder ++ [(S.count : Int)] := h2
            have h3' : (S.add [.str "block"] 1).count = 0 := h3
            rw [h2', h3']
            rfl
          · refine .cons (S1 := S2) g1 ?_ (b2.trans ?_)
            · unfold stepS
              have ng : ¬ (T.getD (S.add [.str "block"] 1).pos 0 = 41 ∧ (S.add [.str "block"] 1).around ≠ []) := fun q => c2 (g2.symm.trans q.1)
              show (if T.getD (S.add [.str "block"] 1).pos 0 = 41 ∧ (S.add [.str "block"] 1).around ≠ [] then _ else _) = _
              rw [if_neg ng]
              show (if (S.add [.str "block"] 1).newB = true then beginS T (S.add [.str "block"] 1) else _) = _
              rw [if_pos nB]
              exact b1
            · rw [hdsL]
              rw [more_holder W1', more_more] at st2
              have h2' : (S.add [.str "block"] 1).holder = S.holder ++ [(S.count : Int)] := h2
              rw [more_count] at st2
              have h3' : (S.add [.str "block"] 1).count = 0 := h3
              rw [h2', h3'] at st2 ⊢
              exact st2
      | other hd yes nb st =>
        refine ⟨_, begin_of hTo (hd _), ?_⟩
        have nB : (S.add h o.length).newB = false := by
          rw [open_newB W yes]
          exact nb
        have hTi' : T.drop (S.add h o.length).pos = gapped l ++ ([41] ++ rest) := hTi
        have st2 := scan_list l hc (S.add h o.length) ([41] ++ rest) (.inr (.inr ⟨rest, rfl⟩)) W1 nB hTi'
        refine fin (rowsL (S.holder ++ [(S.count : Int)]) 0 (S.pos + o.length + 1) l) (S.pos + o.length + (gapped l).length) ?_ ?_ rfl l.length ?_
        · have q := drop_add hTi'
          exact q
        · rw [word_node]
          simp only [List.length_append, List.length_cons, List.length_nil, Bool.false_eq_true, if_false]
          omega
        · rw [h2, h3] at st2
          exact st2
/-- the items of a holder, from the k-th on, each behind a blank -/
theorem scan_list {n : Nat} {T : List Nat} : ∀ (l : List It), (∀ x ∈ l, Gd n x) → ∀ (S : Sc) (rest : List Nat), Delim rest → Wf S → S.newB = false → T.drop S.pos = gapped l ++ rest →
    Steps T S (S.more (rowsL S.holder S.count (S.pos + 1) l) (hdsL l) (S.pos + (gapped l).length) l.length)
  | [], _, S, rest, d, W, nB, hT => by
    have z : S.more (rowsL S.holder S.count (S.pos + 1) []) (hdsL []) (S.pos + (gapped []).length) 0 = S := by
      rw [rowsL, hdsL, gapped]
      exact more_nil W
    show Steps T S (S.more (rowsL S.holder S.count (S.pos + 1) []) (hdsL []) (S.pos + (gapped []).length) 0)
    rw [z]
    exact .nil
  | x :: r, hl, S, rest, d, W, nB, hT => by
    have gx := hl x List.mem_cons_self
    have hT0 : T.drop S.pos = 32 :: (x.word ++ (gapped r ++ rest)) := by
      rw [hT, gapped]
      show 32 :: ((x.word ++ gapped r) ++ rest) = _
      rw [List.append_assoc]
    obtain ⟨g1, g2, g3⟩ := drop_get hT0
    have W' : Wf { S with pos := S.pos + 1 } := ⟨W.lp, W.lf, W.lb, W.ne, W.ar⟩
    obtain ⟨S2, b1, b2⟩ := scan_item x gx { S with pos := S.pos + 1 } _ W' g3 (gapped_delim r d)
    have W2 := more_wf W' (rs := x.rows (S.holder ++ [(S.count : Int)]) (S.pos + 1)) (hs := x.hds) (p := S.pos + 1 + x.word.length) (k := 1) (It.len_hds _ _ x)
    have st2 := scan_list r (fun y hy => hl y (List.mem_cons_of_mem _ hy)) _ rest d W2 (more_newB W' (.inr (by decide))) (by
      show T.drop (S.pos + 1 + x.word.length) = _
      exact drop_add g3)
    refine .cons (S1 := S2) g1 ?_ (b2.trans ?_)
    · unfold stepS
      rw [if_neg (fun q => by have := g2.symm.trans q.1; exact absurd this (by decide)), if_neg (by rw [nB]; exact Bool.false_ne_true), if_pos g2]
      exact b1
    · rw [more_holder W', more_more, more_count] at st2
      have e1 : rowsL S.holder S.count (S.pos + 1) (x :: r) = x.rows (S.holder ++ [(S.count : Int)]) (S.pos + 1) ++ rowsL S.holder (S.count + 1) (S.pos + 1 + x.word.length + 1) r := by rw [rowsL]
      have e2 : hdsL (x :: r) = x.hds ++ hdsL r := by rw [hdsL]
      have e3 : S.pos + (gapped (x :: r)).length = S.pos + 1 + x.word.length + (gapped r).length := by
        rw [gapped]
        simp only [List.length_append, List.length_cons]
        omega
      have e4 : (x :: r).length = 1 + r.length := by rw [List.length_cons, Nat.add_comm]
      rw [e1, e2, e3, e4]
      exact st2
end
/-- the text of a program -/
def textM (l : List It) : List Nat := (gapped l).drop 1
theorem sc0_wf : Wf sc0 := ⟨rfl, rfl, rfl, by show [0] ≠ []; simp, fun i hi => by cases hi⟩
/-- what its scan ends with -/
def endM (l : List It) : Sc := sc0.more (rowsL [] 0 0 l) (hdsL l) (textM l).length l.length
/-- the scan of a text of items, perhaps with something behind it -/
theorem scan_steps {n : Nat} (x : It) (r : List It) (g : ∀ y ∈ x :: r, Gd n y) (rest : List Nat) (d : Delim rest) : ∃ S1, beginS (textM (x :: r) ++ rest) sc0 = .inr S1 ∧ Steps (textM (x :: r) ++ rest) S1 (endM (x :: r)) := by
  have eT : textM (x :: r) = x.word ++ gapped r := by unfold textM; rw [gapped]; rfl
  have hT : (textM (x :: r) ++ rest).drop sc0.pos = x.word ++ (gapped r ++ rest) := by rw [eT, List.append_assoc]; rfl
  obtain ⟨S1, b1, b2⟩ := scan_item x (g x List.mem_cons_self) sc0 _ sc0_wf hT (gapped_delim r d)
  refine ⟨S1, b1, b2.trans ?_⟩
  have W2 := more_wf sc0_wf (rs := x.rows (sc0.holder ++ [(sc0.count : Int)]) sc0.pos) (hs := x.hds) (p := sc0.pos + x.word.length) (k := 1) (It.len_hds _ _ x)
  have st2 := scan_list r (fun y hy => g y (List.mem_cons_of_mem _ hy)) _ rest d W2 (more_newB sc0_wf (.inr (by decide))) (drop_add hT)
  rw [more_holder sc0_wf, more_more, more_count] at st2
  have e1 : rowsL [] 0 0 (x :: r) = x.rows ([] ++ [((0 : Nat) : Int)]) 0 ++ rowsL [] (0 + 1) (0 + x.word.length + 1) r := by rw [rowsL]
  have e2 : hdsL (x :: r) = x.hds ++ hdsL r := by rw [hdsL]
  unfold endM
  rw [e1, e2, eT, List.length_append, List.length_cons, Nat.add_comm r.length 1]
  have st3 := st2
  show Steps _ _ _
  have z : (0 : Nat) + x.word.length = x.word.length := Nat.zero_add _
  have z2 : sc0.pos + x.word.length + (gapped r).length = x.word.length + (gapped r).length := by show 0 + _ + _ = _; omega
  show Steps _ (sc0.more _ _ (sc0.pos + x.word.length) 1) _
  rw [← z2]
  exact st3
theorem begin_none {T : List Nat} {S : Sc} (h : T.drop S.pos = []) : beginS T S = .inl S.pos := by
  unfold beginS
  rw [h]
  rfl
theorem runs_ok {n : Nat} (x : It) (r : List It) (g : ∀ y ∈ x :: r, Gd n y) : ∃ S1 m, beginS (textM (x :: r)) sc0 = .inr S1 ∧ Runs (textM (x :: r)) m S1 (.inr (endM (x :: r))) := by
  obtain ⟨S1, b1, b2⟩ := scan_steps x r g [] (.inl rfl)
  rw [List.append_nil] at b1 b2
  obtain ⟨m, q⟩ := b2.runs (.fin (S := endM (x :: r)) (Nat.le_refl _))
  exact ⟨S1, m, b1, q⟩
theorem runs_bad {n : Nat} (x : It) (r : List It) (g : ∀ y ∈ x :: r, Gd n y) : ∃ S1 m, beginS (textM (x :: r) ++ [32]) sc0 = .inr S1 ∧ Runs (textM (x :: r) ++ [32]) m S1 (.inl ((textM (x :: r)).length + 1)) := by
  obtain ⟨S1, b1, b2⟩ := scan_steps x r g [32] (.inr (.inl ⟨[], rfl⟩))
  have hp : (endM (x :: r)).pos = (textM (x :: r)).length := rfl
  have hT : (textM (x :: r) ++ [32]).drop (endM (x :: r)).pos = 32 :: [] := by rw [hp, List.drop_left]
  obtain ⟨g1, g2, g3⟩ := drop_get hT
  obtain ⟨m, q⟩ := b2.runs (.bad (S := endM (x :: r)) (e := (textM (x :: r)).length + 1) g1 (by
    unfold stepS
    rw [if_neg (fun q => by have := g2.symm.trans q.1; exact absurd this (by decide)), if_neg (by rw [show (endM (x :: r)).newB = false from more_newB sc0_wf (.inr (by rw [List.length_cons]; omega))]; exact Bool.false_ne_true), if_pos g2]
    exact begin_none g3))
  exact ⟨S1, m, b1, q⟩
theorem begin_blank : beginS [32] sc0 = .inl 0 := rfl
end K1
set_option maxHeartbeats 4000000
/-! the signs of a text -/
namespace K1
open PySem L2
theorem dec_pos {p n : Nat} : decide ((p : Int) < ((n : Nat) : Int)) = decide (p < n) := by
  by_cases h : p < n
  · rw [decide_eq_true h, decide_eq_true (by omega)]
  · rw [decide_eq_false h, decide_eq_false (by omega)]
theorem sg_at {f : Nat → Bool} {T : List Nat} {p c : Nat} (h : T[p]? = some c) : sgM f (T.drop p) = f c := by
  obtain ⟨hl, e⟩ := List.getElem?_eq_some_iff.mp h
  rw [List.drop_eq_getElem_cons hl, e]
  rfl
theorem sg_end {f : Nat → Bool} {T : List Nat} {p : Nat} (h : ¬ p < T.length) : sgM f (T.drop p) = false := by
  rw [List.drop_eq_nil_of_le (by omega)]
  rfl
theorem len_cps (z : Str) : z.cps.toList.length = z.length := by simp [Str.length]
theorem sizeL {n m : Nat} (h : n ≤ m) (h2 : m ≤ 16777216 := by decide) : n ≤ sizeLine := by rw [sizeLine_eq]; omega
theorem dec_len' {a b : Nat} : decide (V.int (a : Int) = V.int (b : Int)) = decide (a = b) := dec_len
def spStands : Sp := fun vs H Q _ => ∃ (z : Str) (p : Nat) (sg : Str) (f : Nat → Bool), vs = [.str z, .int (p : Int), .str sg] ∧ z.length ≤ 2000 ∧ (∀ c : Nat, decide (c ∈ sg.cps.toList) = f c) ∧ Q (.bl (sgM f (z.cps.toList.drop p))) H
/-- an index within a text -/
def spEnd (g : List Nat → Nat) : Sp := fun vs H Q _ => ∃ (z : Str) (p : Nat), vs = [.str z, .int (p : Int)] ∧ z.length ≤ 2000 ∧ Q (.int ((p + g (z.cps.toList.drop p) : Nat) : Int)) H
theorem mem_let (c : Nat) : decide (c ∈ ("abcdefghijklmnopqrstuvwxyz" : Str).cps.toList) = isLet c := by
  rw [show ("abcdefghijklmnopqrstuvwxyz" : Str).cps.toList = [97, 98, 99, 100, 101, 102, 103, 104, 105, 106, 107, 108, 109, 110, 111, 112, 113, 114, 115, 116, 117, 118, 119, 120, 121, 122] from by decide +kernel, Bool.eq_iff_iff]
  unfold isLet
  simp only [decide_eq_true_eq, Bool.and_eq_true, List.mem_cons, List.not_mem_nil, or_false]
  omega
theorem mem_fig (c : Nat) : decide (c ∈ ("0123456789" : Str).cps.toList) = isFig c := by
  rw [show ("0123456789" : Str).cps.toList = [48, 49, 50, 51, 52, 53, 54, 55, 56, 57] from by decide +kernel, Bool.eq_iff_iff]
  unfold isFig
  simp only [decide_eq_true_eq, Bool.and_eq_true, List.mem_cons, List.not_mem_nil, or_false]
  omega
theorem mem_fst (c : Nat) : decide (c ∈ ("123456789" : Str).cps.toList) = isFst c := by
  rw [show ("123456789" : Str).cps.toList = [49, 50, 51, 52, 53, 54, 55, 56, 57] from by decide +kernel, Bool.eq_iff_iff]
  unfold isFst
  simp only [decide_eq_true_eq, Bool.and_eq_true, List.mem_cons, List.not_mem_nil, or_false]
  omega
theorem mem_zero (c : Nat) : decide (c ∈ ("0" : Str).cps.toList) = (c == 48) := by
  rw [show ("0" : Str).cps.toList = [48] from by decide +kernel, Bool.eq_iff_iff]
  simp
section
variable {P : Program} {w : World} {K : PySem.W.Frag} {mg : Str → Option Value} {base : Heap}
theorem sc_stands : FnScope ["text", "at", "signs"] ["text", "at", "signs"] (defScope (top 14)) := ⟨rfl, rfl, rfl, by decide +kernel, rfl, by decide +kernel, by decide +kernel⟩
theorem cl_stands (T : All K mg) : Cl P w K mg base 1 "_stands" ["text", "at", "signs"] spStands := by
  obtain ⟨g, fd, D⟩ := T.dn 14 _ _ rfl
  refine D.cl (D.fn.ok sc_stands (fun vs H Q E h => ?_) (fun cdv A outer s H vs Q E hr h => ?_))
  · obtain ⟨z, p, sg, f, rfl, _⟩ := h
    rfl
  · obtain ⟨z, p, sg, f, rfl, hz, hf, k⟩ := h
    refine ⟨_, pss_one (ps_ret (pe_and (pe_cmpR op_lt (pv 1) (pe_callB call_len_str (by rfl) T.bi.len PySem.boot_len (pa_cons (pv 0) pa_nil)) (nomark _)) (pe_one (pe_cmpR op_in_sign (pe_ix ix_str (pv 0) (pv 1) (fun _ _ => rfl)) (pv 2) rfl)))), ?_⟩
    refine ⟨_, rfl, _, rfl, z, rfl, sizeL hz, _, _, rfl, rfl, _, rfl, ?_⟩
    by_cases hp : p < z.cps.toList.length
    · rw [dec_pos, ← len_cps, decide_eq_true hp]
      have hc : z.cps.toList[p]? = some z.cps.toList[p] := List.getElem?_eq_getElem hp
      refine iteT ⟨_, rfl, _, rfl, z, _, _, rfl, rfl, sizeL hz, atI_nat hc, _, rfl, _, _, rfl, rfl, ?_⟩
      rw [hf, ← sg_at (f := f) hc]
      exact k
    · rw [dec_pos, ← len_cps, decide_eq_false hp]
      rw [sg_end hp] at k
      exact iteF k
theorem sc_pend : FnScope ["text", "at"] ["text", "at"] (defScope (top 13)) := ⟨rfl, rfl, rfl, by decide +kernel, rfl, by decide +kernel, by decide +kernel⟩
theorem cl_pend (T : All K mg) : Cl P w K mg base 2 "_positive_end" ["text", "at"] (spEnd pE) := by
  obtain ⟨g, fd, D⟩ := T.dn 13 _ _ rfl
  refine D.cl (D.fn.ok sc_pend (fun vs H Q E h => ?_) (fun cdv A outer s H vs Q E hr h => ?_))
  · obtain ⟨z, p, rfl, _⟩ := h
    rfl
  · obtain ⟨z, p, rfl, hz, k⟩ := h
    obtain ⟨tF, hF⟩ := T.cn.ffig
    obtain ⟨tG, hG⟩ := T.cn.fig
    refine ⟨_, pss_cons (ps_if (pt_not (pt_val (pe_cl (cl_stands T) hr (by decide) (pa_cons (pv 0) (pa_cons (pv 1) (pa_cons (pe_glob (v := .str "123456789") rfl hF ⟨_, rfl⟩) pa_nil)))))) (pss_one (ps_ret (pv 1))) pss_nil)
      (pss_one (ps_ret (pe_ifExp (pt_val (pe_cl (cl_stands T) hr (by decide) (pa_cons (pv 0) (pa_cons (pe_op op_add (pv 1) pe_int) (pa_cons (pe_glob (v := .str "0123456789") rfl hG ⟨_, rfl⟩) pa_nil))))) (pe_op op_add (pv 1) pe_int) (pe_op op_add (pv 1) pe_int)))), ?_⟩
    refine ⟨_, rfl, _, rfl, z, p, _, isFst, rfl, hz, mem_fst, _, rfl, ?_⟩
    unfold pE at k
    cases e : sgM isFst (z.cps.toList.drop p) with
    | false =>
      rw [e, if_neg Bool.false_ne_true, Nat.add_zero] at k
      exact iteT ⟨_, rfl, k⟩
    | true =>
      rw [e, if_pos rfl, List.drop_drop] at k
      refine iteF ⟨_, rfl, _, rfl, _, _, rfl, rfl, z, p + 1, _, isFig, rfl, hz, mem_fig, _, rfl, ?_⟩
      cases e2 : sgM isFig (z.cps.toList.drop (p + 1)) with
      | true =>
        rw [e2, if_pos rfl] at k
        exact iteT ⟨_, rfl, _, _, rfl, rfl, k⟩
      | false =>
        rw [e2, if_neg Bool.false_ne_true] at k
        exact iteF ⟨_, rfl, _, _, rfl, rfl, k⟩
theorem sc_nend : FnScope ["text", "at"] ["text", "at"] (defScope (top 12)) := ⟨rfl, rfl, rfl, by decide +kernel, rfl, by decide +kernel, by decide +kernel⟩
theorem cl_nend (T : All K mg) : Cl P w K mg base 3 "number_end" ["text", "at"] (spEnd nE) := by
  obtain ⟨g, fd, D⟩ := T.dn 12 _ _ rfl
  refine D.cl (D.fn.ok sc_nend (fun vs H Q E h => ?_) (fun cdv A outer s H vs Q E hr h => ?_))
  · obtain ⟨z, p, rfl, _⟩ := h
    rfl
  · obtain ⟨z, p, rfl, hz, k⟩ := h
    refine ⟨_, pss_one (ps_ret (pe_ifExp (pt_val (pe_cl (cl_stands T) hr (by decide) (pa_cons (pv 0) (pa_cons (pv 1) (pa_cons pe_str pa_nil))))) (pe_op op_add (pv 1) pe_int) (pe_cl (cl_pend T) hr (by decide) (pa_cons (pv 0) (pa_cons (pv 1) pa_nil))))), ?_⟩
    refine ⟨_, rfl, _, rfl, z, p, _, fun c => c == 48, rfl, hz, mem_zero, _, rfl, ?_⟩
    unfold nE at k
    cases e : sgM (fun c => c == 48) (z.cps.toList.drop p) with
    | true =>
      rw [e, if_pos rfl] at k
      exact iteT ⟨_, rfl, _, _, rfl, rfl, k⟩
    | false =>
      rw [e, if_neg Bool.false_ne_true] at k
      exact iteF ⟨_, rfl, _, rfl, z, p, rfl, hz, k⟩
theorem lE_step {n : Nat} {S : List Nat} : lE (n + 1) S = if sgM isLet S = true then lE n (S.drop 1) + 1 else 0 := by
  cases S with
  | nil => rfl
  | cons c r => rfl
theorem sc_wend : FnScope ["text", "at", "behind"] ["text", "at"] (defScope (top 11)) := ⟨rfl, rfl, rfl, by decide +kernel, rfl, by decide +kernel, by decide +kernel⟩
theorem cl_wend (T : All K mg) : Cl P w K mg base 3 "written_end" ["text", "at"] (spEnd wE) := by
  obtain ⟨g, fd, D⟩ := T.dn 11 _ _ rfl
  refine D.cl (D.fn.ok sc_wend (fun vs H Q E h => ?_) (fun cdv A outer s H vs Q E hr h => ?_))
  · obtain ⟨z, p, rfl, _⟩ := h
    rfl
  · obtain ⟨z, p, rfl, hz, k⟩ := h
    obtain ⟨tL, hL⟩ := T.cn.let_
    obtain ⟨tM, hM⟩ := T.cn.most
    refine ⟨_, pss_cons (ps_set (i := 2) sc_wend.nd rfl (Or.inl rfl) (pv 1))
      (pss_cons (ps_while PassesOwn.never (PW.pt (pw_and (pt_cmpR op_lt (pv 2) (pe_op op_add (pv 1) (pe_glob (v := .int 4) rfl hM ⟨_, rfl⟩)) (nomark _)) (pw_and1 (pt_val (pe_cl (cl_stands T) hr (by decide) (pa_cons (pv 0) (pa_cons (pv 2) (pa_cons (pe_glob (v := .str "abcdefghijklmnopqrstuvwxyz") rfl hL ⟨_, rfl⟩) pa_nil))))))))
          (pss_one (ps_aug (i := 2) sc_wend.nd rfl (Or.inl rfl) pe_int ip_add)))
      (pss_one (ps_ret (pe_ifExp (pt_cmpR op_eq (pv 2) (pv 1) (nomark _)) (pv 2) (pe_cl (cl_pend T) hr (by decide) (pa_cons (pv 0) (pa_cons (pv 2) pa_nil))))))), ?_⟩
    refine ⟨_, rfl, ?_⟩
    refine ⟨fun m σ H' => ∃ j : Nat, m = 4 - j ∧ j ≤ 4 ∧ σ = [some (.str z), some (.int (p : Int)), some (.int ((p + j : Nat) : Int))] ∧ H' = H ∧ lE 4 (z.cps.toList.drop p) = j + lE (4 - j) (z.cps.toList.drop (p + j)), ⟨4, 0, rfl, by decide, rfl, rfl, by rw [Nat.zero_add, Nat.add_zero]⟩, ?_⟩
    rintro m σ H' ⟨j, rfl, hj, rfl, rfl, hl⟩
    refine ⟨_, rfl, _, rfl, _, _, rfl, rfl, _, _, rfl, rfl, _, rfl, ?_⟩
    have hlt : decide (((p + j : Nat) : Int) < (p : Int) + 4) = decide (j < 4) := by
      by_cases h : j < 4
      · rw [decide_eq_true h, decide_eq_true (by omega)]
      · rw [decide_eq_false h, decide_eq_false (by omega)]
    rw [hlt]
    by_cases j4 : j < 4
    · rw [decide_eq_true j4]
      refine iteT ⟨_, rfl, _, rfl, z, p + j, _, isLet, rfl, hz, mem_let, _, rfl, ?_⟩
      have es : 4 - j = (4 - (j + 1)) + 1 := by omega
      rw [es, lE_step (n := 4 - (j + 1)) (S := z.cps.toList.drop (p + j)), List.drop_drop] at hl
      cases e : sgM isLet (z.cps.toList.drop (p + j)) with
      | true =>
        rw [e, if_pos rfl] at hl
        refine iteT ⟨fun σ' H2 => σ' = [some (.str z), some (.int (p : Int)), some (.int ((p + (j + 1) : Nat) : Int))] ∧ H2 = H', fun σ' H2 q => ⟨4 - (j + 1), by omega, j + 1, rfl, j4, q.1, q.2, by rw [hl, Nat.add_assoc p j 1]; omega⟩, _, rfl, _, _, rfl, rfl, ?_⟩
        exact ⟨rfl, rfl⟩
      | false =>
        have hz0 : (if sgM isLet (z.cps.toList.drop (p + j)) = true then lE (4 - (j + 1)) (z.cps.toList.drop (p + j + 1)) + 1 else 0) = 0 := by rw [e, if_neg Bool.false_ne_true]
        refine iteF ?_
        refine ⟨_, rfl, _, rfl, rfl, _, rfl, ?_⟩
        unfold wE at k
        rw [hl, hz0, Nat.add_zero] at k
        rw [dec_len']
        by_cases j0 : j = 0
        · rw [if_pos j0] at k
          subst j0
          rw [decide_eq_true (by omega)]
          exact iteT ⟨_, rfl, k⟩
        · rw [if_neg j0, ← Nat.add_assoc] at k
          rw [decide_eq_false (by omega)]
          refine iteF ⟨_, rfl, _, rfl, z, p + j, rfl, hz, ?_⟩
          rw [List.drop_drop] at k
          exact k
    · have hz0 : lE (4 - j) (z.cps.toList.drop (p + j)) = 0 := by
        rw [show 4 - j = 0 from by omega]
        rfl
      rw [decide_eq_false j4]
      refine iteF ?_
      refine ⟨_, rfl, _, rfl, rfl, _, rfl, ?_⟩
      unfold wE at k
      rw [hl, hz0, Nat.add_zero] at k
      rw [dec_len']
      by_cases j0 : j = 0
      · rw [if_pos j0] at k
        subst j0
        rw [decide_eq_true (by omega)]
        exact iteT ⟨_, rfl, k⟩
      · rw [if_neg j0, ← Nat.add_assoc] at k
        rw [decide_eq_false (by omega)]
        refine iteF ⟨_, rfl, _, rfl, z, p + j, rfl, hz, ?_⟩
        rw [List.drop_drop] at k
        exact k
end
end K1
set_option maxHeartbeats 4000000
/-! the head of an item -/
namespace K1
open PySem L2
theorem cut_nat {z : Str} {a b : Nat} : cutS z (some (a : Int)) (some (b : Int)) = sO ((z.cps.toList.drop a).take (b - a)) := by
  unfold cutS sO
  rw [HT.sIx_nat, HT.sIx_nat]
  have hl := len_cps z
  congr 2
  by_cases h : a ≤ z.length
  · rw [Nat.min_eq_left h]
    by_cases h2 : b ≤ z.length
    · rw [Nat.min_eq_left h2]
    · rw [Nat.min_eq_right (by omega)]
      rw [List.take_of_length_le (by rw [List.length_drop]; omega), List.take_of_length_le (by rw [List.length_drop]; omega)]
  · rw [List.drop_eq_nil_of_le (by omega), List.drop_eq_nil_of_le (by omega), List.take_nil, List.take_nil]
theorem sO_inj {a b : List Nat} (h : sO a = sO b) : a = b := by
  have z := congrArg (fun s : Str => s.cps.toList) h
  simpa [sO] using z
theorem str_sO (y : Str) : y = sO y.cps.toList := by
  show y = ⟨y.cps.toList.toArray⟩
  rw [Array.toArray_toList]
theorem sO_cps (l : List Nat) : (sO l).cps.toList = l := by simp [sO]
theorem sO_len (l : List Nat) : (sO l).length = l.length := by rw [← len_cps, sO_cps]
theorem part_is {l m : List Nat} {y : Str} (hy : y.cps.toList = m) : decide (V.str (sO l) = V.str y) = decide (l = m) := by
  rw [str_sO y, hy, dec_str]
  by_cases h : l = m
  · subst h
    rw [decide_eq_true rfl, decide_eq_true rfl]
  · rw [decide_eq_false h, decide_eq_false fun z => h (sO_inj z)]
theorem sign_is {S : List Nat} {c : Nat} {y : Str} (hy : y.cps.toList = [c]) : decide (V.str (sO (S.take 1)) = V.str y) = sgM (fun d => d == c) S := by
  rw [part_is hy]
  cases S with
  | nil => rfl
  | cons d r =>
    show decide ([d] = [c]) = (d == c)
    by_cases h : d = c
    · subst h; simp
    · have : (d == c) = false := by simpa using h
      rw [this, decide_eq_false fun z => h (List.cons.inj z).1]
theorem take_len_le {S : List Nat} {n m : Nat} (h : n ≤ m) : (S.take n).length ≤ m := by rw [List.length_take]; omega
theorem lE_le (n : Nat) : ∀ S, lE n S ≤ n := by
  induction n with
  | zero => intro S; cases S <;> exact Nat.le_refl _
  | succ n ih =>
    intro S
    rw [lE_step]
    split
    · have := ih (S.drop 1)
      omega
    · exact Nat.zero_le _
theorem pE_le (S : List Nat) : pE S ≤ 2 := by
  unfold pE
  split
  · split <;> omega
  · omega
theorem wE_le (S : List Nat) : wE S ≤ 6 := by
  unfold wE
  split
  · exact Nat.zero_le _
  · have := lE_le 4 S
    have := pE_le (S.drop (lE 4 S))
    omega
theorem nE_le (S : List Nat) : nE S ≤ 2 := by
  unfold nE
  split
  · decide
  · exact pE_le S
theorem num_one : ∀ i : Fin 10, PySem.intText? (sO [48 + i.val]) = some (numL [48 + i.val]) := by decide +kernel
theorem num_two : ∀ i j : Fin 10, PySem.intText? (sO [48 + i.val, 48 + j.val]) = some (numL [48 + i.val, 48 + j.val]) := by decide +kernel
theorem fig_of {c : Nat} (h : isFig c = true) : ∃ i : Fin 10, c = 48 + i.val := by
  unfold isFig at h
  simp only [Bool.and_eq_true, decide_eq_true_eq] at h
  exact ⟨⟨c - 48, by omega⟩, by show c = 48 + (c - 48); omega⟩
theorem fst_fig {c : Nat} (h : isFst c = true) : isFig c = true := by
  unfold isFst at h
  unfold isFig
  simp only [Bool.and_eq_true, decide_eq_true_eq] at h ⊢
  omega
theorem num_of {S : List Nat} (h : 0 < nE S) : PySem.intText? (sO (S.take (nE S))) = some (numL (S.take (nE S))) := by
  have one : ∀ c r, S = c :: r → isFig c = true → PySem.intText? (sO (S.take 1)) = some (numL (S.take 1)) := by
    rintro c r rfl hc
    obtain ⟨i, rfl⟩ := fig_of hc
    exact num_one i
  unfold nE at h ⊢
  cases S with
  | nil => exact absurd h (by decide)
  | cons c r =>
    cases e : sgM (fun c => c == 48) (c :: r) with
    | true =>
      rw [if_pos rfl]
      have hc : c = 48 := by simpa [sgM] using e
      exact one c r rfl (by rw [hc]; rfl)
    | false =>
      rw [e, if_neg Bool.false_ne_true] at h
      rw [if_neg Bool.false_ne_true]
      unfold pE at h ⊢
      cases e1 : sgM isFst (c :: r) with
      | false =>
        rw [e1, if_neg Bool.false_ne_true] at h
        exact absurd h (by decide)
      | true =>
        rw [if_pos rfl]
        have hc : isFig c = true := fst_fig e1
        cases e2 : sgM isFig ((c :: r).drop 1) with
        | false =>
          rw [if_neg Bool.false_ne_true]
          exact one c r rfl hc
        | true =>
          rw [if_pos rfl]
          cases r with
          | nil => cases e2
          | cons d r =>
            obtain ⟨i, rfl⟩ := fig_of hc
            obtain ⟨j, rfl⟩ := fig_of (show isFig d = true from e2)
            exact num_two i j
def spHolds : Sp := fun vs H Q _ => ∃ x : Str, vs = [.str x] ∧ Q (.bl (holdsD (.str x))) H
def spBr (K : PySem.W.Frag) : Sp := fun vs H Q _ => ∃ (z : Str) (p : Nat), vs = [.str z, .int (p : Int)] ∧ z.length ≤ 2000 ∧ ∀ H' t u, Same H H' → H' t = some (.tup [u, .int ((p + (brM (z.cps.toList.drop p)).2 : Nat) - 1 : Int)]) → DQ K (nw H H') u (.tuple (brM (z.cps.toList.drop p)).1) → Q (.ref t) H'
def hdPost (K : PySem.W.Frag) (C : Addr) (p : Nat) (H : Hp) (Q : VK) (E : XK) : Option (List PyData × Nat) → Prop
  | none => ∀ H' d, Same H H' → H' d = some (.xd [("told", .int (p : Int))]) → E (.ref C) (some d) H'
  | some (h, n) => ∀ H' t u, Same H H' → H' t = some (.tup [u, .int ((p + n : Nat) : Int)]) → DQ K (nw H H') u (.tuple h) → Q (.ref t) H'
def spHead (K : PySem.W.Frag) (C : Addr) : Sp := fun vs H Q E => ∃ (z : Str) (p : Nat), vs = [.str z, .int (p : Int)] ∧ z.length ≤ 2000 ∧ hdPost K C p H Q E (hdM (z.cps.toList.drop p))
/-- a written head and the place behind it -/
theorem pair_new {K : PySem.W.Frag} {H : Hp} {p q : Addr} {us : List V} {ds : List PyData} {x : V} (np : H p = none) (nq : (upd H p (.tup us)) q = none) (h : DQs K (fun _ => none) us ds) :
    Same H (upd (upd H p (.tup us)) q (.tup [.ref p, x])) ∧ (upd (upd H p (.tup us)) q (.tup [.ref p, x])) q = some (.tup [.ref p, x]) ∧ DQ K (nw H (upd (upd H p (.tup us)) q (.tup [.ref p, x]))) (.ref p) (.tuple ds) := by
  have hpq : p ≠ q := fun e => by rw [← e, upd_same] at nq; cases nq
  refine ⟨(K0.same_upd np).trans (K0.same_upd nq), upd_same, .tup (.inl (.inl (nw_of np (by rw [upd_ne hpq, upd_same])))) (h.to fun b u e => by cases e)⟩
section
variable {P : Program} {w : World} {K : PySem.W.Frag} {mg : Str → Option Value} {base : Heap}
theorem sc_holds : FnScope ["kind"] ["kind"] (defScope (top 5)) := ⟨rfl, rfl, rfl, by decide +kernel, rfl, by decide +kernel, by decide +kernel⟩
theorem cl_holds (T : All K mg) : Cl P w K mg base 1 "does_hold" ["kind"] spHolds := by
  obtain ⟨g, fd, D⟩ := T.dn 5 _ _ rfl
  refine D.cl (D.fn.ok sc_holds (fun vs H Q E h => ?_) (fun cdv A outer s H vs Q E hr h => ?_))
  · obtain ⟨x, rfl, _⟩ := h
    rfl
  · obtain ⟨x, rfl, k⟩ := h
    obtain ⟨aH, hH, tH⟩ := T.cn.hol
    refine ⟨_, (pss_one (ps_ret (pe_and (pe_callB call_isi (by rfl) T.bi.isi (by decide +kernel) (pa_cons (pv 0) (pa_cons (pe_bltn (v := .ty "str") (by rfl) T.bi.str (by decide +kernel) rfl) pa_nil))) (pe_one (pe_cmpR op_in_seq (pv 0) (pe_glob (v := .ref aH) rfl hH rfl) rfl))))), ?_⟩
    refine ⟨_, rfl, .str x, .ty "str", .type "str", .type "str", true, rfl, .ty "str", .base (.str x), kit_ty (by decide +kernel), _, rfl, iteT ⟨_, rfl, aH, _, rfl, .inr (tH H), rfl, ?_, ?_⟩⟩
    · rfl
    · rw [in_holders]
      exact k
theorem sc_br : FnScope ["text", "at", "sign", "behind"] ["text", "at"] (defScope (top 20)) := ⟨rfl, rfl, rfl, by decide +kernel, rfl, by decide +kernel, by decide +kernel⟩
theorem cl_br (T : All K mg) : Cl P w K mg base 4 "_bracket" ["text", "at"] (spBr K) := by
  obtain ⟨g, fd, D⟩ := T.dn 20 _ _ rfl
  refine D.cl (D.fn.ok sc_br (fun vs H Q E h => ?_) (fun cdv A outer s H vs Q E hr h => ?_))
  · obtain ⟨z, p, rfl, _⟩ := h
    rfl
  · obtain ⟨z, p, rfl, hz, k⟩ := h
    refine ⟨_, (pss_cons (ps_set (i := 2) sc_br.nd rfl (Or.inl rfl) (pe_slice sl_str (pv 0) (po_some (pv 1)) (po_some (pe_op op_add (pv 1) pe_int))))
      (pss_cons (ps_if (pt_cmpR op_eq (pv 2) pe_str (nomark _)) (pss_one (ps_ret (pe_tup (pa_cons (pe_tup (pa_cons pe_str pa_nil)) (pa_cons (pe_op op_add (pv 1) pe_int) pa_nil))))) pss_nil)
      (pss_cons (ps_if (pt_cmpR op_eq (pv 2) pe_str (nomark _)) (pss_one (ps_ret (pe_tup (pa_cons (pe_tup (pa_cons pe_str pa_nil)) (pa_cons (pe_op op_add (pv 1) pe_int) pa_nil))))) pss_nil)
      (pss_cons (ps_set (i := 3) sc_br.nd rfl (Or.inl rfl) (pe_cl (cl_wend T) hr (by decide) (pa_cons (pv 0) (pa_cons (pv 1) pa_nil))))
      (pss_cons (ps_if (PW.pt (pw_and (pt_cmpR op_gt (pv 3) (pv 1) (nomark _)) (pw_and1 (pt_cmpR op_eq (pe_slice sl_str (pv 0) (po_some (pv 3)) (po_some (pe_op op_add (pv 3) pe_int))) pe_str (nomark _))))) (pss_one (ps_ret (pe_tup (pa_cons (pe_tup (pa_cons pe_str (pa_cons (pe_slice sl_str (pv 0) (po_some (pv 1)) (po_some (pv 3))) pa_nil))) (pa_cons (pe_op op_add (pv 3) pe_int) pa_nil))))) pss_nil)
      (pss_one (ps_ret (pe_tup (pa_cons (pe_tup (pa_cons pe_str pa_nil)) (pa_cons (pv 1) pa_nil)))))))))), ?_⟩
    have c1 : ∀ q : Nat, (((q : Nat) : Int) + 1) = ((q + 1 : Nat) : Int) := fun q => by omega
    refine ⟨_, rfl, _, rfl, _, rfl, _, rfl, _, _, rfl, rfl, _, rfl, z, rfl, sizeL hz, ?_⟩
    rw [c1, cut_nat, Nat.add_sub_cancel_left]
    refine ⟨_, rfl, rfl, _, rfl, ?_⟩
    rw [sign_is (c := 43) (by decide +kernel)]
    unfold brM at k
    have s1 : 1 ≤ sizeLine := sizeL (by decide) (m := 1)
    have s2 : 2 ≤ sizeLine := sizeL (by decide) (m := 2)
    cases e1 : sgM (fun c => c == 43) (z.cps.toList.drop p) with
    | true =>
      rw [e1, if_pos rfl] at k
      refine iteT ⟨s1, fun a na => ⟨_, rfl, _, _, rfl, rfl, s2, fun b nb => ?_⟩⟩
      obtain ⟨q1, q2, q3⟩ := pair_new (x := .int ((p : Int) + 1)) (ds := [.str "sum"]) na nb (.cons (.str _ (by decide +kernel)) .nil)
      refine k _ b _ q1 ?_ q3
      rw [q2]
      congr 5
      omega
    | false =>
      rw [e1, if_neg Bool.false_ne_true] at k
      refine iteF ⟨_, rfl, rfl, _, rfl, ?_⟩
      rw [sign_is (c := 42) (by decide +kernel)]
      cases e2 : sgM (fun c => c == 42) (z.cps.toList.drop p) with
      | true =>
        rw [e2, if_pos rfl] at k
        refine iteT ⟨s1, fun a na => ⟨_, rfl, _, _, rfl, rfl, s2, fun b nb => ?_⟩⟩
        obtain ⟨q1, q2, q3⟩ := pair_new (x := .int ((p : Int) + 1)) (ds := [.str "product"]) na nb (.cons (.str _ (by decide +kernel)) .nil)
        refine k _ b _ q1 ?_ q3
        rw [q2]
        congr 5
        omega
      | false =>
        rw [e2, if_neg Bool.false_ne_true] at k
        refine iteF ⟨_, rfl, _, rfl, z, p, rfl, hz, ?_⟩
        refine ⟨_, rfl, _, rfl, _, _, rfl, rfl, _, rfl, ?_⟩
        have hgt : decide (((p : Nat) : Int) < ((p + wE (z.cps.toList.drop p) : Nat) : Int)) = decide (0 < wE (z.cps.toList.drop p)) := by
          rw [dec_pos]
          congr 1
          exact propext ⟨fun h => by omega, fun h => by omega⟩
        have blk : ¬ (0 < wE (z.cps.toList.drop p) ∧ ((z.cps.toList.drop p).drop (wE (z.cps.toList.drop p))).take 2 = [32, 61]) → tRet (tTup (tCons (tTup (tCons (tC (.str "block")) tNil)) (tCons (tVar 1) tNil))) { nx := fun _ H' => Q .non H', rt := Q } [some (.str z), some (.int (p : Int)), some (.str (sO ((z.cps.toList.drop p).take 1))), some (.int ((p + wE (z.cps.toList.drop p) : Nat) : Int))] H := by
          intro hn
          rw [if_neg hn] at k
          refine ⟨s1, fun a na => ⟨_, rfl, s2, fun b nb => ?_⟩⟩
          obtain ⟨q1, q2, q3⟩ := pair_new (x := .int (p : Int)) (ds := [.str "block"]) na nb (.cons (.str _ (by decide +kernel)) .nil)
          refine k _ b _ q1 ?_ q3
          rw [q2]
          congr 5
          omega
        by_cases h0 : 0 < wE (z.cps.toList.drop p)
        · have hgt' : decide (((p + wE (z.cps.toList.drop p) : Nat) : Int) > ((p : Nat) : Int)) = true := by rw [← decide_eq_true h0, ← hgt]
          rw [hgt']
          refine iteT ⟨_, rfl, _, rfl, _, rfl, _, rfl, _, _, rfl, rfl, _, rfl, z, rfl, sizeL hz, rfl, _, rfl, ?_⟩
          have c2 : (((p + wE (z.cps.toList.drop p) : Nat) : Int) + 2) = ((p + wE (z.cps.toList.drop p) + 2 : Nat) : Int) := by omega
          rw [c2, cut_nat, part_is (m := [32, 61]) (by decide +kernel), Nat.add_sub_cancel_left, ← List.drop_drop]
          by_cases h2 : ((z.cps.toList.drop p).drop (wE (z.cps.toList.drop p))).take 2 = [32, 61]
          · rw [decide_eq_true h2]
            rw [if_pos ⟨h0, h2⟩] at k
            refine iteT ⟨_, rfl, _, rfl, _, rfl, _, rfl, _, rfl, z, rfl, sizeL hz, s2, fun a na => ⟨_, rfl, _, _, rfl, rfl, s2, fun b nb => ?_⟩⟩
            rw [cut_nat, Nat.add_sub_cancel_left] at nb ⊢
            obtain ⟨q1, q2, q3⟩ := pair_new (x := .int (((p + wE (z.cps.toList.drop p) : Nat) : Int) + 2)) (ds := [.str "let", .str (sO ((z.cps.toList.drop p).take (wE (z.cps.toList.drop p))))]) na nb (.cons (.str _ (by decide +kernel)) (.cons (.str _ (by
              rw [sO_len]
              exact take_len_le (Nat.le_trans (wE_le _) (by decide)))) .nil))
            refine k _ b _ q1 ?_ q3
            rw [q2]
            congr 5
            omega
          · rw [decide_eq_false h2]
            exact iteF (blk fun q => h2 q.2)
        · have hgt' : decide (((p + wE (z.cps.toList.drop p) : Nat) : Int) > ((p : Nat) : Int)) = false := by rw [← decide_eq_false h0, ← hgt]
          rw [hgt']
          exact iteF (blk fun q => h0 q.1)
theorem sc_head : FnScope ["text", "at", "sign", "behind"] ["text", "at"] (defScope (top 19)) := ⟨rfl, rfl, rfl, by decide +kernel, rfl, by decide +kernel, by decide +kernel⟩
theorem cl_head {C fI : Addr} (T : All K mg) (R : Er K mg "BadText" C fI) : ClX P w K mg base 5 "_head" ["text", "at"] (spHead K C) := by
  obtain ⟨g, fd, D⟩ := T.dn 19 _ _ rfl
  refine D.clX (D.fn.okX sc_head (fun vs H Q E h => ?_) (fun cdv A outer s H vs Q E hr h => ?_))
  · obtain ⟨z, p, rfl, _⟩ := h
    rfl
  · obtain ⟨z, p, rfl, hz, k⟩ := h
    refine ⟨_, (pss_cons (ps_set (i := 2) sc_head.nd rfl (Or.inl rfl) (pe_slice sl_str (pv 0) (po_some (pv 1)) (po_some (pe_op op_add (pv 1) pe_int))))
      (pss_cons (ps_if (pt_cmpR op_eq (pv 2) pe_str (nomark _)) (pss_one (ps_ret (pe_cl (cl_br T) hr (by decide) (pa_cons (pv 0) (pa_cons (pe_op op_add (pv 1) pe_int) pa_nil))))) pss_nil)
      (pss_cons (ps_if (pt_cmpR op_eq (pv 2) pe_str (nomark _)) (pss_one (ps_ret (pe_tup (pa_cons (pe_tup (pa_cons pe_str pa_nil)) (pa_cons (pe_op op_add (pv 1) pe_int) pa_nil))))) pss_nil)
      (pss_cons (ps_set (i := 3) sc_head.nd rfl (Or.inl rfl) (pe_cl (cl_wend T) hr (by decide) (pa_cons (pv 0) (pa_cons (pv 1) pa_nil))))
      (pss_cons (ps_if (pt_cmpR op_gt (pv 3) (pv 1) (nomark _)) (pss_one (ps_ret (pe_tup (pa_cons (pe_tup (pa_cons pe_str (pa_cons (pe_slice sl_str (pv 0) (po_some (pv 1)) (po_some (pv 3))) pa_nil))) (pa_cons (pv 3) pa_nil))))) pss_nil)
      (pss_cons (ps_set (i := 3) sc_head.nd rfl (Or.inl rfl) (pe_cl (cl_nend T) hr (by decide) (pa_cons (pv 0) (pa_cons (pv 1) pa_nil))))
      (pss_cons (ps_if (pt_cmpR op_gt (pv 3) (pv 1) (nomark _)) (pss_one (ps_ret (pe_tup (pa_cons (pe_tup (pa_cons pe_str (pa_cons (pe_callTy call_int_str (by rfl) T.bi.int (by decide +kernel) (pa_cons (pe_slice sl_str (pv 0) (po_some (pv 1)) (po_some (pv 3))) pa_nil)) pa_nil))) (pa_cons (pv 3) pa_nil))))) pss_nil)
      (pss_one (ps_raise rfl (takes_of rfl rfl rfl rfl) (pmk_err R hr (by decide) (pa_cons (pv 1) pa_nil))))))))))), ?_⟩
    have c1 : ∀ q : Nat, (((q : Nat) : Int) + 1) = ((q + 1 : Nat) : Int) := fun q => by omega
    refine ⟨_, rfl, _, rfl, _, rfl, _, rfl, _, _, rfl, rfl, _, rfl, z, rfl, sizeL hz, ?_⟩
    rw [c1, cut_nat, Nat.add_sub_cancel_left]
    refine ⟨_, rfl, rfl, _, rfl, ?_⟩
    rw [sign_is (c := 40) (by decide +kernel)]
    have s1 : 1 ≤ sizeLine := sizeL (by decide) (m := 1)
    have s2 : 2 ≤ sizeLine := sizeL (by decide) (m := 2)
    unfold hdM at k
    cases e1 : sgM (fun c => c == 40) (z.cps.toList.drop p) with
    | true =>
      rw [e1, if_pos rfl] at k
      refine iteT ⟨_, rfl, _, rfl, _, _, rfl, rfl, z, p + 1, rfl, hz, fun H' t u S h1 h2 => ?_⟩
      rw [List.drop_drop] at k
      generalize brM (z.cps.toList.drop (p + 1)) = br at k h1 h2
      obtain ⟨hh, n⟩ := br
      refine k H' t u S ?_ h2
      rw [h1]
      congr 5
      show (((p + 1 + n : Nat) : Int) - 1) = ((p + n : Nat) : Int)
      omega
    | false =>
      rw [e1, if_neg Bool.false_ne_true] at k
      refine iteF ⟨_, rfl, rfl, _, rfl, ?_⟩
      rw [sign_is (c := 63) (by decide +kernel)]
      cases e2 : sgM (fun c => c == 63) (z.cps.toList.drop p) with
      | true =>
        rw [e2, if_pos rfl] at k
        refine iteT ⟨s1, fun a na => ⟨_, rfl, _, _, rfl, rfl, s2, fun b nb => ?_⟩⟩
        obtain ⟨q1, q2, q3⟩ := pair_new (x := .int ((p : Int) + 1)) (ds := [.str "lost"]) na nb (.cons (.str _ (by decide +kernel)) .nil)
        exact k _ b _ q1 q2 q3
      | false =>
        rw [e2, if_neg Bool.false_ne_true] at k
        refine iteF ⟨_, rfl, _, rfl, z, p, rfl, hz, ?_⟩
        refine ⟨_, rfl, _, rfl, _, _, rfl, rfl, _, rfl, ?_⟩
        have hgt : ∀ n : Nat, decide (((p + n : Nat) : Int) > ((p : Nat) : Int)) = decide (0 < n) := by
          intro n
          by_cases h : 0 < n
          · rw [decide_eq_true h, decide_eq_true (by omega)]
          · rw [decide_eq_false h, decide_eq_false (by omega)]
        rw [hgt]
        by_cases h0 : 0 < wE (z.cps.toList.drop p)
        · rw [if_pos h0] at k
          rw [decide_eq_true h0]
          refine iteT ⟨_, rfl, _, rfl, _, rfl, _, rfl, _, rfl, z, rfl, sizeL hz, s2, fun a na => ⟨_, rfl, s2, fun b nb => ?_⟩⟩
          rw [cut_nat, Nat.add_sub_cancel_left] at nb ⊢
          obtain ⟨q1, q2, q3⟩ := pair_new (x := .int ((p + wE (z.cps.toList.drop p) : Nat) : Int)) (ds := [.str "use", .str (sO ((z.cps.toList.drop p).take (wE (z.cps.toList.drop p))))]) na nb (.cons (.str _ (by decide +kernel)) (.cons (.str _ (by
              rw [sO_len]
              exact take_len_le (Nat.le_trans (wE_le _) (by decide)))) .nil))
          exact k _ b _ q1 q2 q3
        · rw [if_neg h0] at k
          rw [decide_eq_false h0]
          refine iteF ⟨_, rfl, _, rfl, z, p, rfl, hz, ?_⟩
          refine ⟨_, rfl, _, rfl, _, _, rfl, rfl, _, rfl, ?_⟩
          rw [hgt]
          by_cases h1 : 0 < nE (z.cps.toList.drop p)
          · rw [if_pos h1] at k
            rw [decide_eq_true h1]
            refine iteT ⟨_, rfl, _, rfl, _, rfl, _, rfl, _, rfl, z, rfl, sizeL hz, ?_⟩
            rw [cut_nat, Nat.add_sub_cancel_left]
            refine ⟨_, _, rfl, num_of h1, ?_, s2, fun a na => ⟨_, rfl, s2, fun b nb => ?_⟩⟩
            · rw [sO_len]
              exact take_len_le (Nat.le_trans (nE_le _) (by decide))
            · obtain ⟨q1, q2, q3⟩ := pair_new (x := .int ((p + nE (z.cps.toList.drop p) : Nat) : Int)) (ds := [.str "number", .int (numL ((z.cps.toList.drop p).take (nE (z.cps.toList.drop p))))]) na nb (.cons (.str _ (by decide +kernel)) (.cons (.int _) .nil))
              exact k _ b _ q1 q2 q3
          · rw [if_neg h1] at k
            rw [decide_eq_false h1]
            exact iteF ⟨_, rfl, _, rfl, fun H2 d2 S2 h2 => k H2 d2 S2 h2⟩
end
end K1
set_option maxHeartbeats 4000000
/-! rules: objects that are made and may raise, their methods; xs[-1] op= e; str of data -/
namespace K1
open PySem L2 PySem.Spec PyProof.Rows
section
variable {X : Cx} {CX : CXT} {k : Nat} {f C : Addr} {fd : FuncData} {ps : List Str} {sp : Sp} {x m : Str} {p pos apos : Pos} {e o : Expr} {es : List Expr} {ta : TE} {t : TA}
theorem run_fnA {A : Around} {E : XK} {pins : List (Addr × Obj)} {σ : L2.St} {H : Hp} {s : Shared} {Q : VK} {us : List Value} {vs : List V} (F : FnOk X.prog X.w X.K X.mg X.base CX k f fd ps sp) (hr : Room k A) (hfr : A.frames = X.A.frames) (hb : Binds X.K fd ps []) (hx : PassesAt CX X σ E)
    (I : Inv X pins σ H s) (r : Vals vs us) (h : sp vs H Q E) : wpAny (model X.prog X.w) A (call (.ref f) us) (EP X pins σ Q) X.xe s := by
  have hl : us.length = ps.length := by rw [← r.length]; exact F.len _ _ _ _ h
  have b := hb s us I.kIn (by rw [List.append_nil]; exact hl)
  rw [List.append_nil] at b
  have e0 : Env0 X.prog X.w X.K X.mg X.base A X.stack s H := by
    have e := I.env0
    exact ⟨by rw [hfr]; exact e.frames, e.mod, e.bs, e.bsz, e.funs, e.frf, e.hok, e.bare⟩
  refine wpAny_call (codeAny_mono (F.run A X.stack s H ⟨us, []⟩ us vs Q E hr e0 b r h) fun r s' hq => ?_)
  cases r with
  | error e => exact hx pins H s e s' I hq
  | ok fl =>
    cases fl with
    | ret u => exact I.after hq
    | next => exact False.elim hq
    | brk => exact False.elim hq
    | cont => exact False.elim hq
/-- a callee that is never to raise -/
theorem passN {σ : L2.St} : PassesAt (L2.CX X.prog X.w) X σ E0 := fun pins H s e s' I c => by
  obtain ⟨_, _, _, _, _, _, _, _, _, _, _, _, z⟩ := c
  exact z.elim
theorem run_makeS {E : XK} {dvs : List V} {ds : List Value} {pins : List (Addr × Obj)} {σ : L2.St} {H : Hp} {s : Shared} {Q : VK} {us : List Value} {vs : List V} (M : Mk X.K C f) (F : FnOk X.prog X.w X.K X.mg X.base CX k f fd ps sp) (hr : Room (k + 1) X.A) (hb : Binds X.K fd ps ds) (hd : Vals dvs ds)
    (hx : PassesAt CX X σ E) (I : Inv X pins σ H s) (r : Vals vs us)
    (h : ∀ x dx, H x = none → H dx = none → dx ≠ x → sp (.ref x :: (vs ++ dvs)) (upd (upd H dx (.own x)) x (.ins C dx [])) (fun v H2 => v = .non ∧ Q (.ref x) H2) E) :
    wpAny (model X.prog X.w) X.A (call (.ref C) us) (EP X pins σ Q) X.xe s := by
  have hq := h (s.heap.objs.size + 1) s.heap.objs.size (I.hok.fresh (Nat.le_succ _)) (I.hok.fresh (Nat.le_refl _)) (Nat.ne_of_lt (Nat.lt_succ_self _))
  have I2 := Inv.made (C := C) I
  have r2 : Vals (V.ref (s.heap.objs.size + 1) :: (vs ++ dvs)) (Value.ref (s.heap.objs.size + 1) :: (us ++ ds)) := .cons rfl (r.append hd)
  have hl : (Value.ref (s.heap.objs.size + 1) :: us ++ ds).length = ps.length := by
    have e := r2.length
    rw [F.len _ _ _ _ hq] at e
    exact e.symm
  refine wpAny_call (make_map (f := f) I.kIn M.makes M.init (beq_iff_eq.mp M.fn) (codeAny_mono (F.run _ X.stack _ _ ⟨Value.ref (s.heap.objs.size + 1) :: us, []⟩ (Value.ref (s.heap.objs.size + 1) :: (us ++ ds)) _ _ E (hr.make C us [])
    (I2.env0.make C us []) (hb _ (Value.ref (s.heap.objs.size + 1) :: us) I2.kIn hl) r2 hq) fun r s' hq' => ?_))
  cases r with
  | error e => exact hx pins _ _ e s' I2 hq'
  | ok fl =>
    cases fl with
    | ret u =>
      obtain ⟨v, H', I3, rv, ev, q3⟩ := I2.after hq'
      subst ev
      exact ⟨rv, ⟨V.ref (s.heap.objs.size + 1), H', I3, rfl, q3⟩⟩
    | next => exact False.elim hq'
    | brk => exact False.elim hq'
    | cont => exact False.elim hq'
def tMakeS (C : Addr) (sp : Sp) (dvs : List V) (E : L2.St → XK) (t : TA) : TE := fun σ H Q => t σ H fun vs H1 => ∀ x dx, H1 x = none → H1 dx = none → dx ≠ x →
  sp (.ref x :: (vs ++ dvs)) (upd (upd H1 dx (.own x)) x (.ins C dx [])) (fun v H2 => v = .non ∧ Q (.ref x) H2) (E σ)
theorem pe_makeS {E : L2.St → XK} {dvs : List V} {ds : List Value} (M : Mk X.K C f) (F : FnOk X.prog X.w X.K X.mg X.base CX k f fd ps sp) (hr : Room (k + 1) X.A) (hg : Gl X x) (hm : X.mg x = some (.ref C)) (hb : Binds X.K fd ps ds) (hd : Vals dvs ds) (hx : ∀ σ, PassesAt CX X σ (E σ))
    (ha : PA X (e :: es) t) (hdb : (x == ("__debug__" : Str)) = false := by decide) (he : starEach (e :: es) X.env = (false, eval e X.env) :: starEach es X.env := by rfl) (hpl : (backTo pos (starEach es X.env)).any (·.1) = false := by rfl) :
    PE X (.Call (.Name x p) (e :: es) [] pos) (tMakeS C sp dvs E t) := by
  refine ⟨fun pins s σ H Q I h => ?_⟩
  refine wpAny_Call_Name_kw (ld_glob I hg hm ?_ hdb)
  refine PySem.W.callWith_K (h₀ := X.base) I.ok.mod.kin M.kp (thn (ha.run pos pins s σ H _ I h) fun us s1 ⟨vs, H1, I1, r, q⟩ => ⟨I1.kIn, ?_⟩) he hpl
  exact run_makeS M F hr hb hd (hx σ) I1 r q
/-- o.m(e, ..), which may raise -/
def tMethS (C : Addr) (m : Str) (sp : Sp) (E : L2.St → XK) (ta : TE) (t : TA) : TE := fun σ H Q => ta σ H fun x H1 => ∃ a dx fs, x = .ref a ∧ H1 a = some (.ins C dx fs) ∧ fs.lookup m = none ∧ t σ H1 fun vs H2 => sp (x :: vs) H2 Q (E σ)
theorem pe_methS {X : Cx} {CX : CXT} {k : Nat} {f C : Addr} {fd : FuncData} {ps : List Str} {sp : Sp} {E : L2.St → XK} {m : Str} {pos apos : Pos} {e o : Expr} {es : List Expr} {ta : TE} {t : TA} {pl : Sem Bool} (he : PE X o ta) (c : Cls X.K C) (hm : Meth X.K C m f) (F : FnOk X.prog X.w X.K X.mg X.base CX k f fd ps sp) (hr : Room k X.A) (hb : Binds X.K fd ps []) (hx : ∀ σ, PassesAt CX X σ (E σ)) (ha : PA X (e :: es) t)
    (hst : starEach (e :: es) X.env = (false, eval e X.env) :: starEach es X.env := by rfl) (hpl : (backTo pos (starEach es X.env)).any (·.1) = false := by rfl)
    (ht : eval (.Call (.Attribute o m apos) (e :: es) [] pos) X.env = (do
      let ov ← eval o X.env
      standAt apos.atName
      let (f, first) ← holding [ov] (getMethod ov m pl)
      callWith pos f first (backTo pos (starEach (e :: es) X.env)) (backToKw pos (keywordEach [] X.env))) := by rfl) :
    PE X (.Call (.Attribute o m apos) (e :: es) [] pos) (tMethS C m sp E ta t) := by
  refine ⟨fun pins s σ H Q I h => ?_⟩
  refine PySem.W.methodCall_KW (pl := pl) (thn (he.run pins s σ H _ I h) fun u s1 ⟨x, H1, I1, rx, a, dx, fs, ex, ea, l, q⟩ => ?_) ht
  subst ex
  obtain rfl : u = Value.ref a := rx
  refine getmeth_ok I1 ea c hm l ?_
  refine PySem.W.callWith_K (first := [.ref a]) (h₀ := X.base) I.ok.mod.kin hm.kp (thn (ha.run pos pins s1 σ H1 _ I1 q) fun us s2 ⟨vs, H2, I2, r, q2⟩ => ⟨I2.kIn, ?_⟩) hst hpl
  exact run_fnA (us := .ref a :: us) (vs := .ref a :: vs) F hr rfl hb (hx σ) I2 (.cons rfl r) q2
end
theorem pe_methS0 {X : Cx} {CX : CXT} {k : Nat} {f C : Addr} {fd : FuncData} {ps : List Str} {sp : Sp} {E : L2.St → XK} {m : Str} {pos apos : Pos} {o : Expr} {ta : TE} {pl : Sem Bool} (he : PE X o ta) (c : Cls X.K C) (hm : Meth X.K C m f) (F : FnOk X.prog X.w X.K X.mg X.base CX k f fd ps sp) (hr : Room k X.A) (hb : Binds X.K fd ps []) (hx : ∀ σ, PassesAt CX X σ (E σ))
    (ht : eval (.Call (.Attribute o m apos) [] [] pos) X.env = (do
      let ov ← eval o X.env
      standAt apos.atName
      let (f, first) ← holding [ov] (getMethod ov m pl)
      callWith pos f first (backTo pos (starEach [] X.env)) (backToKw pos (keywordEach [] X.env))) := by rfl) :
    PE X (.Call (.Attribute o m apos) [] [] pos) (tMethS C m sp E ta tNil) := by
  refine ⟨fun pins s σ H Q I h => ?_⟩
  refine PySem.W.methodCall_KW (pl := pl) (thn (he.run pins s σ H _ I h) fun u s1 ⟨x, H1, I1, rx, a, dx, fs, ex, ea, l, q⟩ => ?_) ht
  subst ex
  obtain rfl : u = Value.ref a := rx
  refine getmeth_ok I1 ea c hm l ?_
  exact PySem.W.callWith_K0 (first := [.ref a]) I1.kIn hm.kp (by
    have z := run_fnA (us := [.ref a]) (vs := [.ref a]) F hr rfl hb (hx σ) I1 (.cons rfl .nil) q
    exact z)
/-- xs[i], i below nothing, to be written again -/
theorem pget_list {X : Cx} : PGet X (fun o i H Q => ∃ p xs k v, o = .ref p ∧ i = .int k ∧ SqL X.K H p xs ∧ k < 0 ∧ atI xs k = some v ∧ Q v H) := by
  intro pins s σ H o i ov iv Q I ro ri h
  obtain ⟨p, xs, k, z, rfl, rfl, hq, h0, he, q⟩ := h
  cases ro
  obtain ⟨t, rfl⟩ := ri
  obtain ⟨its, r, pl, hz⟩ := I.list hq
  obtain ⟨j, h1, h2, h3, h4, h5⟩ := atI_get he
  obtain ⟨w, ew, rw'⟩ := r.get h2
  have hl := r.length
  have hn := line63
  have hj : (k + (its.toArray.size : Int)).toNat = j := by
    rw [seqIndex_neg (by omega) h4] at h1
    rw [List.size_toArray, ← hl]
    exact Option.some.inj h1
  exact wpAny_getItem_list_neg pl.isList h0 (by rw [List.size_toArray] <;> omega) (by omega) (by rw [hj]; simpa using ew) ⟨z, H, I, rw', q⟩
/-- str of a tuple -/
def rStrT (K : PySem.W.Frag) : List V → Hp → VK → Prop := fun xs H Q => ∃ (v : V) (ds : List PyData), xs = [v] ∧ Shows K H v (.tuple ds) ∧ Q (.str (PyData.shown (.tuple ds))) H
theorem call_strT {X : Cx} (hg : X.A.guards = some []) (hu : X.A.units + 64 < cLine) : CallR X (.type "str") (rStrT X.K) := by
  intro pins s σ H xs us Q I r h
  obtain ⟨v, ds, rfl, S, q⟩ := h
  obtain ⟨u, rfl, ru⟩ := vals1 r
  obtain ⟨as, hr, hsm⟩ := DQ.reads I _ v u S.dq ru
  have hsm' : PyData.hasDict (.tuple ds) = true → sysModules ∉ as := fun z => hsm (S.nl z)
  have hdp := S.dp
  cases hr with
  | tuple a1 a2 a3 a4 => exact str_of_reads (PySem.Reads.tuple a1 a2 a3 a4) S.sh hsm' hg (by omega) (fun _ _ e => e) (fun h' u tk hk => ⟨.str _, H, I.kept hk, ⟨_, rfl⟩, q⟩) S.sz
end K1
set_option maxHeartbeats 4000000
/-! a scan that stands in the heap -/
namespace K1
open PySem L2
structure Ad where
  p : Addr
  a1 : Addr
  a2 : Addr
  a3 : Addr
  a4 : Addr
  a5 : Addr
  a6 : Addr
def Ad.L (a : Ad) : List Addr := [a.p, a.a1, a.a2, a.a3, a.a4, a.a5, a.a6]
theorem Ad.apart {a : Ad} (h : a.L.Nodup) : a.p ≠ a.a1 ∧ a.p ≠ a.a2 ∧ a.p ≠ a.a3 ∧ a.p ≠ a.a4 ∧ a.p ≠ a.a5 ∧ a.p ≠ a.a6 ∧ a.a1 ≠ a.a2 ∧ a.a1 ≠ a.a3 ∧ a.a1 ≠ a.a4 ∧ a.a1 ≠ a.a5 ∧ a.a1 ≠ a.a6 ∧ a.a2 ≠ a.a3 ∧ a.a2 ≠ a.a4 ∧ a.a2 ≠ a.a5 ∧ a.a2 ≠ a.a6 ∧ a.a3 ≠ a.a4 ∧ a.a3 ≠ a.a5 ∧ a.a3 ≠ a.a6 ∧ a.a4 ≠ a.a5 ∧ a.a4 ≠ a.a6 ∧ a.a5 ≠ a.a6 := by
  unfold Ad.L at h
  simp only [List.nodup_cons, List.mem_cons, List.not_mem_nil, or_false, not_or] at h
  obtain ⟨⟨h01, h02, h03, h04, h05, h06⟩, ⟨h12, h13, h14, h15, h16⟩, ⟨h23, h24, h25, h26⟩, ⟨h34, h35, h36⟩, ⟨h45, h46⟩, h56, _⟩ := h
  exact ⟨h01, h02, h03, h04, h05, h06, h12, h13, h14, h15, h16, h23, h24, h25, h26, h34, h35, h36, h45, h46, h56⟩

/-- all but those -/
def hidS (L : List Addr) (H : Hp) : Hp := fun b => if b ∈ L then none else H b
theorem hidS_at {L : List Addr} {H : Hp} {b : Addr} {u : HO} (h : hidS L H b = some u) : b ∉ L ∧ H b = some u := by
  unfold hidS at h
  by_cases e : b ∈ L
  · rw [if_pos e] at h
    cases h
  · rw [if_neg e] at h
    exact ⟨e, h⟩
theorem hidS_of {L : List Addr} {H : Hp} {b : Addr} {u : HO} (n : b ∉ L) (h : H b = some u) : hidS L H b = some u := by
  unfold hidS
  rw [if_neg n]
  exact h
theorem hidS_in (L : List Addr) (H : Hp) : Same (hidS L H) H := fun b u e => (hidS_at e).2
theorem hidS_more {L : List Addr} {H H' : Hp} (s : Same H H') : Same (hidS L H) (hidS L H') := fun b u e => hidS_of (hidS_at e).1 (s _ _ (hidS_at e).2)
theorem hidS_upd {L : List Addr} {H : Hp} {x : Addr} {o : HO} (h : x ∈ L) : hidS L (upd H x o) = hidS L H := by
  funext b
  unfold hidS
  by_cases e : b ∈ L
  · rw [if_pos e, if_pos e]
  · rw [if_neg e, if_neg e, upd_ne (fun q => e (by rw [q]; exact h))]
theorem hidS_nw {L : List Addr} {H H' : Hp} (h : ∀ b ∈ L, H b ≠ none) : Same (nw H H') (hidS L H') := fun b u e => hidS_of (fun q => h b q (nw_at e).1) (nw_at e).2
def pathD (l : List Int) : PyData := .tuple (l.map PyData.int)
def natV (n : Nat) : V := .int (n : Int)
/-- the attributes of a scan -/
def scF (a : Ad) (z : Str) (p : Nat) : List (Str × V) := [("paths", .ref a.a1), ("heads", .ref a.a2), ("firsts", .ref a.a3), ("behinds", .ref a.a4), ("_text", .str z), ("_at", natV p), ("_around", .ref a.a5), ("_counts", .ref a.a6)]
structure ScAt (K : PySem.W.Frag) (C : Addr) (H : Hp) (a : Ad) (z : Str) (S : Sc) : Prop where
  ob : ∃ dx, H a.p = some (.ins C dx (scF a z S.pos))
  l1 : ∃ vs, H a.a1 = some (.lst vs) ∧ DQs K (hidS a.L H) vs (S.paths.map pathD)
  l2 : ∃ vs, H a.a2 = some (.lst vs) ∧ DQs K (hidS a.L H) vs (S.heads.map PyData.tuple)
  l3 : H a.a3 = some (.lst (S.firsts.map V.int))
  l4 : H a.a4 = some (.lst (S.behinds.map V.int))
  l5 : H a.a5 = some (.lst (S.around.map natV))
  l6 : H a.a6 = some (.lst (S.counts.map natV))
  nd : a.L.Nodup
theorem ScAt.there {K : PySem.W.Frag} {C : Addr} {H : Hp} {a : Ad} {z : Str} {S : Sc} (A : ScAt K C H a z S) : ∀ b ∈ a.L, H b ≠ none := by
  obtain ⟨dx, h0⟩ := A.ob
  obtain ⟨v1, h1, _⟩ := A.l1
  obtain ⟨v2, h2, _⟩ := A.l2
  intro b hb e
  unfold Ad.L at hb
  simp only [List.mem_cons, List.not_mem_nil, or_false] at hb
  rcases hb with rfl | rfl | rfl | rfl | rfl | rfl | rfl
  · rw [h0] at e; cases e
  · rw [h1] at e; cases e
  · rw [h2] at e; cases e
  · rw [A.l3] at e; cases e
  · rw [A.l4] at e; cases e
  · rw [A.l5] at e; cases e
  · rw [A.l6] at e; cases e
theorem ScAt.same {K : PySem.W.Frag} {C : Addr} {H H' : Hp} {a : Ad} {z : Str} {S : Sc} (A : ScAt K C H a z S) (s : Same H H') : ScAt K C H' a z S := by
  obtain ⟨dx, h0⟩ := A.ob
  obtain ⟨v1, h1, d1⟩ := A.l1
  obtain ⟨v2, h2, d2⟩ := A.l2
  exact ⟨⟨dx, s _ _ h0⟩, ⟨v1, s _ _ h1, d1.to (hidS_more s)⟩, ⟨v2, s _ _ h2, d2.to (hidS_more s)⟩, s _ _ A.l3, s _ _ A.l4, s _ _ A.l5, s _ _ A.l6, A.nd⟩
theorem ScAt.pos {K : PySem.W.Frag} {C : Addr} {H : Hp} {a : Ad} {z : Str} {S : Sc} (A : ScAt K C H a z S) (q : Nat) : ∃ dx, H a.p = some (.ins C dx (scF a z S.pos)) ∧ ScAt K C (upd H a.p (.ins C dx (scF a z q))) a z { S with pos := q } := by
  obtain ⟨h01, h02, h03, h04, h05, h06, h12, h13, h14, h15, h16, h23, h24, h25, h26, h34, h35, h36, h45, h46, h56⟩ := Ad.apart A.nd
  have e : ∀ o, hidS a.L (upd H a.p o) = hidS a.L H := fun o => hidS_upd (by simp [Ad.L])
  obtain ⟨dx, h⟩ := A.ob
  exact ⟨dx, h, ⟨⟨dx, upd_same⟩, ⟨A.l1.choose, by rw [upd_ne (Ne.symm h01)]; exact A.l1.choose_spec.1, by rw [e]; exact A.l1.choose_spec.2⟩, ⟨A.l2.choose, by rw [upd_ne (Ne.symm h02)]; exact A.l2.choose_spec.1, by rw [e]; exact A.l2.choose_spec.2⟩, (by rw [upd_ne (Ne.symm h03)]; exact A.l3), (by rw [upd_ne (Ne.symm h04)]; exact A.l4), (by rw [upd_ne (Ne.symm h05)]; exact A.l5), (by rw [upd_ne (Ne.symm h06)]; exact A.l6), A.nd⟩⟩
theorem ScAt.path {K : PySem.W.Frag} {C : Addr} {H : Hp} {a : Ad} {z : Str} {S : Sc} (A : ScAt K C H a z S) {v : V} {l : List Int} (hv : DQ K (hidS a.L H) v (pathD l)) : ∃ vs, H a.a1 = some (.lst vs) ∧ vs.length = S.paths.length ∧ ScAt K C (upd H a.a1 (.lst (vs ++ [v]))) a z { S with paths := S.paths ++ [l] } := by
  obtain ⟨h01, h02, h03, h04, h05, h06, h12, h13, h14, h15, h16, h23, h24, h25, h26, h34, h35, h36, h45, h46, h56⟩ := Ad.apart A.nd
  have e : ∀ o, hidS a.L (upd H a.a1 o) = hidS a.L H := fun o => hidS_upd (by simp [Ad.L])
  obtain ⟨vs, g1, g2⟩ := A.l1
  exact ⟨vs, g1, by rw [g2.len, List.length_map], ⟨⟨A.ob.choose, by rw [upd_ne h01]; exact A.ob.choose_spec⟩, ⟨_, upd_same, by rw [e, List.map_append]; exact g2.app (.cons hv .nil)⟩, ⟨A.l2.choose, by rw [upd_ne (Ne.symm h12)]; exact A.l2.choose_spec.1, by rw [e]; exact A.l2.choose_spec.2⟩, (by rw [upd_ne (Ne.symm h13)]; exact A.l3), (by rw [upd_ne (Ne.symm h14)]; exact A.l4), (by rw [upd_ne (Ne.symm h15)]; exact A.l5), (by rw [upd_ne (Ne.symm h16)]; exact A.l6), A.nd⟩⟩
theorem ScAt.head {K : PySem.W.Frag} {C : Addr} {H : Hp} {a : Ad} {z : Str} {S : Sc} (A : ScAt K C H a z S) {v : V} {l : List PyData} (hv : DQ K (hidS a.L H) v (.tuple l)) : ∃ vs, H a.a2 = some (.lst vs) ∧ vs.length = S.heads.length ∧ ScAt K C (upd H a.a2 (.lst (vs ++ [v]))) a z { S with heads := S.heads ++ [l] } := by
  obtain ⟨h01, h02, h03, h04, h05, h06, h12, h13, h14, h15, h16, h23, h24, h25, h26, h34, h35, h36, h45, h46, h56⟩ := Ad.apart A.nd
  have e : ∀ o, hidS a.L (upd H a.a2 o) = hidS a.L H := fun o => hidS_upd (by simp [Ad.L])
  obtain ⟨vs, g1, g2⟩ := A.l2
  exact ⟨vs, g1, by rw [g2.len, List.length_map], ⟨⟨A.ob.choose, by rw [upd_ne h02]; exact A.ob.choose_spec⟩, ⟨A.l1.choose, by rw [upd_ne h12]; exact A.l1.choose_spec.1, by rw [e]; exact A.l1.choose_spec.2⟩, ⟨_, upd_same, by rw [e, List.map_append]; exact g2.app (.cons hv .nil)⟩, (by rw [upd_ne (Ne.symm h23)]; exact A.l3), (by rw [upd_ne (Ne.symm h24)]; exact A.l4), (by rw [upd_ne (Ne.symm h25)]; exact A.l5), (by rw [upd_ne (Ne.symm h26)]; exact A.l6), A.nd⟩⟩
theorem ScAt.first {K : PySem.W.Frag} {C : Addr} {H : Hp} {a : Ad} {z : Str} {S : Sc} (A : ScAt K C H a z S) (l : List Int) : ScAt K C (upd H a.a3 (.lst (l.map V.int))) a z { S with firsts := l } := by
  obtain ⟨h01, h02, h03, h04, h05, h06, h12, h13, h14, h15, h16, h23, h24, h25, h26, h34, h35, h36, h45, h46, h56⟩ := Ad.apart A.nd
  have e : ∀ o, hidS a.L (upd H a.a3 o) = hidS a.L H := fun o => hidS_upd (by simp [Ad.L])
  exact ⟨⟨A.ob.choose, by rw [upd_ne h03]; exact A.ob.choose_spec⟩, ⟨A.l1.choose, by rw [upd_ne h13]; exact A.l1.choose_spec.1, by rw [e]; exact A.l1.choose_spec.2⟩, ⟨A.l2.choose, by rw [upd_ne h23]; exact A.l2.choose_spec.1, by rw [e]; exact A.l2.choose_spec.2⟩, upd_same, (by rw [upd_ne (Ne.symm h34)]; exact A.l4), (by rw [upd_ne (Ne.symm h35)]; exact A.l5), (by rw [upd_ne (Ne.symm h36)]; exact A.l6), A.nd⟩
theorem ScAt.behind {K : PySem.W.Frag} {C : Addr} {H : Hp} {a : Ad} {z : Str} {S : Sc} (A : ScAt K C H a z S) (l : List Int) : ScAt K C (upd H a.a4 (.lst (l.map V.int))) a z { S with behinds := l } := by
  obtain ⟨h01, h02, h03, h04, h05, h06, h12, h13, h14, h15, h16, h23, h24, h25, h26, h34, h35, h36, h45, h46, h56⟩ := Ad.apart A.nd
  have e : ∀ o, hidS a.L (upd H a.a4 o) = hidS a.L H := fun o => hidS_upd (by simp [Ad.L])
  exact ⟨⟨A.ob.choose, by rw [upd_ne h04]; exact A.ob.choose_spec⟩, ⟨A.l1.choose, by rw [upd_ne h14]; exact A.l1.choose_spec.1, by rw [e]; exact A.l1.choose_spec.2⟩, ⟨A.l2.choose, by rw [upd_ne h24]; exact A.l2.choose_spec.1, by rw [e]; exact A.l2.choose_spec.2⟩, (by rw [upd_ne h34]; exact A.l3), upd_same, (by rw [upd_ne (Ne.symm h45)]; exact A.l5), (by rw [upd_ne (Ne.symm h46)]; exact A.l6), A.nd⟩
theorem ScAt.arnd {K : PySem.W.Frag} {C : Addr} {H : Hp} {a : Ad} {z : Str} {S : Sc} (A : ScAt K C H a z S) (l : List Nat) : ScAt K C (upd H a.a5 (.lst (l.map natV))) a z { S with around := l } := by
  obtain ⟨h01, h02, h03, h04, h05, h06, h12, h13, h14, h15, h16, h23, h24, h25, h26, h34, h35, h36, h45, h46, h56⟩ := Ad.apart A.nd
  have e : ∀ o, hidS a.L (upd H a.a5 o) = hidS a.L H := fun o => hidS_upd (by simp [Ad.L])
  exact ⟨⟨A.ob.choose, by rw [upd_ne h05]; exact A.ob.choose_spec⟩, ⟨A.l1.choose, by rw [upd_ne h15]; exact A.l1.choose_spec.1, by rw [e]; exact A.l1.choose_spec.2⟩, ⟨A.l2.choose, by rw [upd_ne h25]; exact A.l2.choose_spec.1, by rw [e]; exact A.l2.choose_spec.2⟩, (by rw [upd_ne h35]; exact A.l3), (by rw [upd_ne h45]; exact A.l4), upd_same, (by rw [upd_ne (Ne.symm h56)]; exact A.l6), A.nd⟩
theorem ScAt.cnt {K : PySem.W.Frag} {C : Addr} {H : Hp} {a : Ad} {z : Str} {S : Sc} (A : ScAt K C H a z S) (l : List Nat) : ScAt K C (upd H a.a6 (.lst (l.map natV))) a z { S with counts := l } := by
  obtain ⟨h01, h02, h03, h04, h05, h06, h12, h13, h14, h15, h16, h23, h24, h25, h26, h34, h35, h36, h45, h46, h56⟩ := Ad.apart A.nd
  have e : ∀ o, hidS a.L (upd H a.a6 o) = hidS a.L H := fun o => hidS_upd (by simp [Ad.L])
  exact ⟨⟨A.ob.choose, by rw [upd_ne h06]; exact A.ob.choose_spec⟩, ⟨A.l1.choose, by rw [upd_ne h16]; exact A.l1.choose_spec.1, by rw [e]; exact A.l1.choose_spec.2⟩, ⟨A.l2.choose, by rw [upd_ne h26]; exact A.l2.choose_spec.1, by rw [e]; exact A.l2.choose_spec.2⟩, (by rw [upd_ne h36]; exact A.l3), (by rw [upd_ne h46]; exact A.l4), (by rw [upd_ne h56]; exact A.l5), upd_same, A.nd⟩

theorem putF_at (a : Ad) (z : Str) (p q : Nat) : putF "_at" (natV q) (scF a z p) = scF a z q := by rfl
/-- the class as the top has made it -/
structure ScC (K : PySem.W.Frag) (mg : Str → Option Value) (C : Addr) : Prop where
  cl : Cls K C
  mg : mg "Scan" = some (.ref C)
  n1 : NoAttr K C "paths"
  n2 : NoAttr K C "heads"
  n3 : NoAttr K C "firsts"
  n4 : NoAttr K C "behinds"
  nT : NoAttr K C "_text"
  nA : NoAttr K C "_at"
  n5 : NoAttr K C "_around"
  n6 : NoAttr K C "_counts"
  ini : ∃ f fd, Fun K "__init__" "Scan.__init__" (inClass (top 16) 0) f fd ∧ Binds K fd ["self", "text"] [] ∧ Mk K C f
  run : ∃ f fd, Fun K "_run" "Scan._run" (inClass (top 16) 1) f fd ∧ Binds K fd ["self"] [] ∧ Meth K C "_run" f
  isn : ∃ f fd, Fun K "_is_in_new_block" "Scan._is_in_new_block" (inClass (top 16) 2) f fd ∧ Binds K fd ["self"] [] ∧ Meth K C "_is_in_new_block" f
  beg : ∃ f fd, Fun K "_begin" "Scan._begin" (inClass (top 16) 3) f fd ∧ Binds K fd ["self"] [] ∧ Meth K C "_begin" f
  clo : ∃ f fd, Fun K "_close" "Scan._close" (inClass (top 16) 4) f fd ∧ Binds K fd ["self"] [] ∧ Meth K C "_close" f
theorem look1 (a : Ad) (z : Str) (p : Nat) : (scF a z p).lookup ("paths" : Str) = some (.ref a.a1) := by rfl
theorem look2 (a : Ad) (z : Str) (p : Nat) : (scF a z p).lookup ("heads" : Str) = some (.ref a.a2) := by rfl
theorem look3 (a : Ad) (z : Str) (p : Nat) : (scF a z p).lookup ("firsts" : Str) = some (.ref a.a3) := by rfl
theorem look4 (a : Ad) (z : Str) (p : Nat) : (scF a z p).lookup ("behinds" : Str) = some (.ref a.a4) := by rfl
theorem lookT (a : Ad) (z : Str) (p : Nat) : (scF a z p).lookup ("_text" : Str) = some (.str z) := by rfl
theorem lookA (a : Ad) (z : Str) (p : Nat) : (scF a z p).lookup ("_at" : Str) = some (natV p) := by rfl
theorem look5 (a : Ad) (z : Str) (p : Nat) : (scF a z p).lookup ("_around" : Str) = some (.ref a.a5) := by rfl
theorem look6 (a : Ad) (z : Str) (p : Nat) : (scF a z p).lookup ("_counts" : Str) = some (.ref a.a6) := by rfl
theorem atI_end {xs : List V} {v : V} (h : xs.getLast? = some v) (hl : xs.length < 2 ^ 62) : atI xs (-1) = some v := by
  have ne : xs ≠ [] := fun e => by rw [e] at h; cases h
  have h0 : 0 < xs.length := List.length_pos_iff.mpr ne
  rw [List.getLast?_eq_getElem?] at h
  unfold atI
  have e : ixN xs.length (-1) = some (xs.length - 1) := by
    unfold ixN
    rw [if_neg (by decide)]
    rw [if_pos (by omega)]
    congr 1
    omega
  rw [e]
  exact h
end K1
set_option maxHeartbeats 4000000
/-! the methods of a scan -/
namespace K1
open PySem L2
/-- heads as they are found -/
def HdOk (h : List PyData) : Prop := (∃ x, h = [.str x] ∧ PyData.strOk x = true) ∨ (∃ x y, h = [.str x, .str y] ∧ PyData.strOk x = true ∧ PyData.strOk y = true ∧ y.length ≤ 6) ∨ ∃ x i, h = [.str x, .int i] ∧ PyData.strOk x = true
theorem let_mem : ∀ (n : Nat) (S : List Nat), ∀ c ∈ S.take (lE n S), c < 200
  | 0, S, c, h => by
    have : lE 0 S = 0 := by cases S <;> rfl
    rw [this] at h
    cases h
  | n + 1, [], c, h => by cases h
  | n + 1, d :: r, c, h => by
    have e : lE (n + 1) (d :: r) = if isLet d = true then lE n r + 1 else 0 := rfl
    by_cases q : isLet d = true
    · rw [e, if_pos q, List.take_succ_cons] at h
      rcases List.mem_cons.mp h with rfl | h
      · unfold isLet at q
        simp only [Bool.and_eq_true, decide_eq_true_eq] at q
        omega
      · exact let_mem n r c h
    · rw [e, if_neg q] at h
      cases h
theorem fig_lt {c : Nat} (h : isFig c = true) : c < 200 := by
  unfold isFig at h
  simp only [Bool.and_eq_true, decide_eq_true_eq] at h
  omega
theorem pos_mem (S : List Nat) : ∀ c ∈ S.take (pE S), c < 200 := by
  intro c h
  unfold pE at h
  cases e1 : sgM isFst S with
  | false =>
    rw [e1, if_neg Bool.false_ne_true] at h
    cases h
  | true =>
    rw [e1, if_pos rfl] at h
    cases S with
    | nil => cases e1
    | cons a r =>
      have ha := fig_lt (fst_fig (show isFst a = true from e1))
      cases e2 : sgM isFig ((a :: r).drop 1) with
      | false =>
        rw [e2, if_neg Bool.false_ne_true] at h
        have : c = a := by simpa using h
        rw [this]; exact ha
      | true =>
        rw [e2, if_pos rfl] at h
        cases r with
        | nil => cases e2
        | cons b r =>
          have hb := fig_lt (show isFig b = true from e2)
          have : c = a ∨ c = b := by simpa using h
          rcases this with rfl | rfl
          · exact ha
          · exact hb
theorem wr_mem (S : List Nat) : ∀ c ∈ S.take (wE S), c < 200 := by
  intro c h
  unfold wE at h
  split at h
  · cases h
  · rw [List.take_add] at h
    rcases List.mem_append.mp h with h | h
    · exact let_mem 4 S c h
    · exact pos_mem _ c h
theorem ok_small {l : List Nat} (h : ∀ c ∈ l, c < 200) : PyData.strOk (sO l) = true := by
  unfold PyData.strOk sO
  rw [List.all_toArray, List.all_eq_true]
  intro n hn
  have := h n hn
  exact decide_eq_true (by omega)
theorem lit_ok {x : String} : PyData.strOk (Str.ofString x) = true := by
  rw [Str.ofString_eq_toList]
  unfold PyData.strOk
  rw [List.all_toArray, List.all_eq_true]
  intro n hn
  obtain ⟨ch, _, rfl⟩ := List.mem_map.mp hn
  have h : ch.toNat < 0xd800 ∨ (0xdfff < ch.toNat ∧ ch.toNat < 0x110000) := ch.valid
  exact decide_eq_true (by omega)
theorem hdM_ok {S : List Nat} {h : List PyData} {n : Nat} (e : hdM S = some (h, n)) : HdOk h ∧ 1 ≤ n ∧ n ≤ 9 := by
  have wl := fun S => wE_le S
  have nl := nE_le S
  unfold hdM at e
  split at e
  · unfold brM at e
    split at e
    · cases e; exact ⟨.inl ⟨_, rfl, lit_ok⟩, by decide, by decide⟩
    · split at e
      · cases e; exact ⟨.inl ⟨_, rfl, lit_ok⟩, by decide, by decide⟩
      · split at e
        · cases e
          have := wl (S.drop 1)
          exact ⟨.inr (.inl ⟨_, _, rfl, lit_ok, ok_small (wr_mem _), by rw [sO_len]; exact take_len_le (wE_le _)⟩), by omega, by omega⟩
        · cases e; exact ⟨.inl ⟨_, rfl, lit_ok⟩, by decide, by decide⟩
  · split at e
    · cases e; exact ⟨.inl ⟨_, rfl, lit_ok⟩, by decide, by decide⟩
    · split at e
      · cases e
        have := wl S
        exact ⟨.inr (.inl ⟨_, _, rfl, lit_ok, ok_small (wr_mem _), by rw [sO_len]; exact take_len_le (wE_le _)⟩), by omega, by omega⟩
      · split at e
        · cases e
          exact ⟨.inr (.inr ⟨_, _, rfl, lit_ok⟩), by omega, by omega⟩
        · cases e
theorem HdOk.shaped {h : List PyData} (k : HdOk h) : SeqAt.shaped (.tuple h) = true := by
  rcases k with ⟨x, rfl, hx⟩ | ⟨x, y, rfl, hx, hy, _⟩ | ⟨x, i, rfl, hx⟩
  · simp [SeqAt.shaped, PyData.canLay0, PyData.canLayAll0, hx, PyData.depth, PyData.depthAll]
  · simp [SeqAt.shaped, PyData.canLay0, PyData.canLayAll0, hx, hy, PyData.depth, PyData.depthAll]
  · simp [SeqAt.shaped, PyData.canLay0, PyData.canLayAll0, hx, PyData.depth, PyData.depthAll]
theorem HdOk.dict {h : List PyData} (k : HdOk h) : PyData.hasDict (.tuple h) = false := by
  rcases k with ⟨x, rfl, _⟩ | ⟨x, y, rfl, _⟩ | ⟨x, i, rfl, _⟩ <;> rfl
theorem HdOk.blk {h : List PyData} (k : HdOk h) : PyData.eqv (.tuple h) (.tuple [.str "block"]) = blkH h := by
  rcases k with ⟨x, rfl, _⟩ | ⟨x, y, rfl, _⟩ | ⟨x, i, rfl, _⟩
  · simp [PyData.eqv, PyData.eqvAll, blkH]
  · simp [PyData.eqv, PyData.eqvAll, blkH]
  · simp [PyData.eqv, PyData.eqvAll, blkH]
theorem HdOk.kind {h : List PyData} (k : HdOk h) : ∃ x r, h = .str x :: r ∧ holdH h = holdsD (.str x) := by
  rcases k with ⟨x, rfl, _⟩ | ⟨x, y, rfl, _⟩ | ⟨x, i, rfl, _⟩ <;> exact ⟨_, _, rfl, rfl⟩
/-- what holds of a scan at each moment -/
structure ScOk (S : Sc) : Prop where
  wf : Wf S
  hd : ∀ h ∈ S.heads, HdOk h
  lc : S.counts.length = S.around.length + 1
  la : S.around.length ≤ S.heads.length
  nz : ∀ c ∈ S.counts.dropLast, c ≠ 0
  hp : S.heads.length ≤ S.pos
  pl : ∀ l ∈ S.paths, l.length ≤ S.heads.length
theorem ScOk.hol {S : Sc} (k : ScOk S) : S.holder.length ≤ S.heads.length := by
  unfold Sc.holder
  cases e : S.around.getLast? with
  | none => exact Nat.zero_le _
  | some i =>
    have hi := k.wf.ar i (List.mem_of_getLast? e)
    have hl := k.wf.lp
    show (S.paths.getD i []).length ≤ _
    rw [List.getD_eq_getElem?_getD, List.getElem?_eq_getElem (by omega)]
    exact k.pl _ (List.getElem_mem _)
theorem ScOk.last {S : Sc} (k : ScOk S) : (S.counts.map natV).getLast? = some (natV S.count) := by
  rw [List.getLast?_map, List.getLast?_eq_some_getLast k.wf.ne]
  show some (natV _) = some (natV ((S.counts.getLast?).getD 0))
  rw [List.getLast?_eq_some_getLast k.wf.ne]
  rfl
theorem getLast_natV {l : List Nat} {i : Nat} (h : l.getLast? = some i) : (l.map natV).getLast? = some (natV i) := by rw [List.getLast?_map, h]; rfl
def spIsn (K : PySem.W.Frag) (C : Addr) : Sp := fun vs H Q _ => ∃ a z S, vs = [.ref a.p] ∧ ScAt K C H a z S ∧ ScOk S ∧ (S.around = [] → S.count ≠ 0) ∧ S.pos ≤ 3000 ∧ ∀ H', Same H H' → Q (.bl S.newB) H'
def spClo (K : PySem.W.Frag) (C : Addr) : Sp := fun vs H Q _ => ∃ a z S, vs = [.ref a.p] ∧ ScAt K C H a z S ∧ ScOk S ∧ S.around ≠ [] ∧ ∀ H', ScAt K C H' a z S.close → hidS a.L H' = hidS a.L H → Q .non H'
section
variable {P : Program} {w : World} {K : PySem.W.Frag} {mg : Str → Option Value} {base : Heap}
theorem dec_nat0 {n : Nat} : decide (natV n = V.int 0) = (n == 0) := by
  by_cases h : n = 0
  · subst h; rfl
  · have q : (n == 0) = false := by simpa using h
    rw [q, decide_eq_false]
    intro z
    injection z with z
    omega
theorem sc_isn : FnScope ["self"] ["self"] (defScope (inClass (top 16) 2)) := ⟨rfl, rfl, rfl, by decide +kernel, rfl, by decide +kernel, by decide +kernel⟩
theorem ok_isn {C f : Addr} {fd : FuncData} (F : Fun K "_is_in_new_block" "Scan._is_in_new_block" (inClass (top 16) 2) f fd) (W : ScC K mg C) : FnOk P w K mg base CX0 1 f fd ["self"] (spIsn K C) := by
  refine F.ok sc_isn (fun vs H Q E h => ?_) (fun cdv A outer s H vs Q E hr h => ?_)
  · obtain ⟨a, z, S, rfl, _⟩ := h
    rfl
  · obtain ⟨a, z, S, rfl, At, Ok, tp, hp, k⟩ := h
    obtain ⟨dx, hob⟩ := At.ob
    have hl := Ok.hp
    have hla := Ok.la
    have hlc := Ok.lc
    have lenA : (S.around.map natV).length < 2 ^ 62 := by rw [List.length_map]; omega
    have lenC : (S.counts.map natV).length < 2 ^ 62 := by rw [List.length_map]; omega
    refine ⟨_, (pss_one (ps_ret (pe_and (pe_cmpR op_eq (pe_ix ix_list (pe_fld (pv 0) rfl) (pe_un un_neg pe_int) (fun _ _ => rfl)) pe_int (nomark _)) (pe_one (pe_cmpR (op_eqD hr.units) (pe_ix ix_list (pe_fld (pv 0) rfl) (pe_ix ix_list (pe_fld (pv 0) rfl) (pe_un un_neg pe_int) (fun _ _ => rfl)) (fun _ _ => rfl)) (pe_tup (pa_cons pe_str pa_nil)) (nomark _)))))), ?_⟩
    refine ⟨_, rfl, a.p, C, dx, _, _, rfl, hob, W.cl, W.n6, look6 _ _ _, _, rfl, a.a6, _, _, _, rfl, rfl, SqL.of At.l6, atI_end Ok.last lenC, rfl, _, rfl, ?_⟩
    rw [dec_nat0]
    cases e : S.count == 0 with
    | false =>
      refine iteF ?_
      have q : S.newB = false := by unfold Sc.newB; rw [e]; rfl
      rw [← q]
      exact k H (Same.refl H)
    | true =>
      have ne : S.around ≠ [] := fun z => tp z (eq_of_beq e)
      obtain ⟨i, hi⟩ : ∃ i, S.around.getLast? = some i := ⟨_, List.getLast?_eq_some_getLast ne⟩
      have hi2 := Ok.wf.ar i (List.mem_of_getLast? hi)
      obtain ⟨vs, h2, d2⟩ := At.l2
      have hg : S.heads[i]? = some S.heads[i] := List.getElem?_eq_getElem hi2
      obtain ⟨u, hu, du⟩ := d2.get (i := i) (d := .tuple S.heads[i]) (by rw [List.getElem?_map, hg]; rfl)
      have ho := Ok.hd _ (List.getElem_mem hi2)
      refine iteT ⟨_, rfl, a.p, C, dx, _, _, rfl, hob, W.cl, W.n2, look2 _ _ _, _, rfl, a.p, C, dx, _, _, rfl, hob, W.cl, W.n5, look5 _ _ _, _, rfl, a.a5, _, _, _, rfl, rfl, SqL.of At.l5, atI_end (getLast_natV hi) lenA, a.a2, vs, _, u, rfl, rfl, SqL.of h2, atI_nat hu, sizeL (by decide) (m := 1), fun q nq => ?_⟩
      have s1 := K0.same_upd (o := .tup [.str "block"]) nq
      refine ⟨.tuple S.heads[i], .tuple [.str "block"], DQ.dp _ _ ho.dict (du.to fun b u e => s1 _ _ ((hidS_in _ _) b u e)), .tup (.inl (.inl upd_same)) (.cons (.str _) .nil), ho.shaped, by decide +kernel, ?_⟩
      rw [ho.blk]
      have q : S.newB = blkH S.heads[i] := by
        unfold Sc.newB
        rw [e, hi]
        show (true && blkH (S.heads.getD i [])) = _
        rw [List.getD_eq_getElem?_getD, hg]
        rfl
      rw [← q]
      exact k _ s1
theorem sc_clo : FnScope ["self"] ["self"] (defScope (inClass (top 16) 4)) := ⟨rfl, rfl, rfl, by decide +kernel, rfl, by decide +kernel, by decide +kernel⟩
theorem ok_clo {C f : Addr} {fd : FuncData} (F : Fun K "_close" "Scan._close" (inClass (top 16) 4) f fd) (W : ScC K mg C) : FnOk P w K mg base CX0 1 f fd ["self"] (spClo K C) := by
  refine F.ok sc_clo (fun vs H Q E h => ?_) (fun cdv A outer s H vs Q E hr h => ?_)
  · obtain ⟨a, z, S, rfl, _⟩ := h
    rfl
  · obtain ⟨a, z, S, rfl, At, Ok, ne, k⟩ := h
    obtain ⟨i, hi⟩ : ∃ i, S.around.getLast? = some i := ⟨_, List.getLast?_eq_some_getLast ne⟩
    have hi2 := Ok.wf.ar i (List.mem_of_getLast? hi)
    have hL : ∀ {x : Addr} {o : HO} {J : Hp}, x ∈ a.L → hidS a.L (upd J x o) = hidS a.L J := fun h => hidS_upd h
    obtain ⟨dx, hob, At1⟩ := At.pos (S.pos + 1)
    refine ⟨_, (pss_cons (ps_fldaug (pv 0) pe_int in_add)
      (pss_cons (ps_asg (pe_fld (pv 0) rfl) (pg_sub (pe_fld (pv 0) rfl) (pe_bm0 PySem.F.plainAttrs_list PySem.F.slot_list_pop PySem.F.type_list_pop mt_pop (pe_fld (pv 0) rfl)) set_list))
      (pss_one (ps_expr (pe_bm0 PySem.F.plainAttrs_list PySem.F.slot_list_pop PySem.F.type_list_pop mt_pop (pe_fld (pv 0) rfl)))))), ?_⟩
    refine ⟨_, rfl, a.p, C, dx, _, _, rfl, hob, W.cl, W.nA, lookA _ _ _, _, _, rfl, rfl, dx, _, hob, (by show 8 < 1000; decide), ?_⟩
    have e1 : V.int ((S.pos : Int) + 1) = natV (S.pos + 1) := by unfold natV; congr 1
    rw [e1, putF_at]
    have f1 : hidS a.L (upd H a.p (.ins C dx (scF a z (S.pos + 1)))) = hidS a.L H := hL (by simp [Ad.L])
    generalize upd H a.p (.ins C dx (scF a z (S.pos + 1))) = H1 at At1 f1 ⊢
    obtain ⟨dx1, hob1⟩ := At1.ob
    -- self.behinds[self._around.pop()] = self._at
    have hlast : (S.around.map natV)[(S.around.map natV).length - 1]? = some (natV i) := by
      rw [← List.getLast?_eq_getElem?]
      exact getLast_natV hi
    have At2 := At1.arnd S.around.dropLast
    rw [List.map_dropLast] at At2
    refine ⟨_, rfl, a.p, C, dx1, _, _, rfl, hob1, W.cl, W.nA, lookA _ _ _, _, rfl, a.p, C, dx1, _, _, rfl, hob1, W.cl, W.n4, look4 _ _ _, _, rfl, a.p, C, dx1, _, _, rfl, hob1, W.cl, W.n5, look5 _ _ _, .inl ⟨rfl, _, SqL.of At1.l5⟩, a.a5, _, _, rfl, rfl, At1.l5, hlast, ?_⟩
    have f2 : hidS a.L (upd H1 a.a5 (.lst (S.around.map natV).dropLast)) = hidS a.L H1 := hL (by simp [Ad.L])
    generalize upd H1 a.a5 (.lst (S.around.map natV).dropLast) = H2 at At2 f2 ⊢
    have At3 := At2.behind (S.behinds.set i ((S.pos + 1 : Nat) : Int))
    have f3 : hidS a.L (upd H2 a.a4 (.lst ((S.behinds.set i ((S.pos + 1 : Nat) : Int)).map V.int))) = hidS a.L H2 := hL (by simp [Ad.L])
    rw [show (S.behinds.set i ((S.pos + 1 : Nat) : Int)).map V.int = (S.behinds.map V.int).set i (natV (S.pos + 1)) from by rw [List.map_set]; rfl] at At3 f3
    refine ⟨a.a4, S.behinds.map V.int, _, i, rfl, rfl, At2.l4, ?_, ?_⟩
    · unfold ixN
      rw [if_pos (by omega), if_pos (by rw [List.length_map, Ok.wf.lb]; omega), Int.toNat_natCast]
    dsimp only
    generalize upd H2 a.a4 (.lst ((S.behinds.map V.int).set i (natV (S.pos + 1)))) = H3 at At3 f3 ⊢
    obtain ⟨dx3, hob3⟩ := At3.ob
    have At4 := At3.cnt S.counts.dropLast
    have hlast2 : (S.counts.map natV)[(S.counts.map natV).length - 1]? = some (natV S.count) := by
      rw [← List.getLast?_eq_getElem?]
      exact Ok.last
    refine ⟨_, rfl, a.p, C, dx3, _, _, rfl, hob3, W.cl, W.n6, look6 _ _ _, .inl ⟨rfl, _, SqL.of At3.l6⟩, a.a6, _, _, rfl, rfl, At3.l6, hlast2, ?_⟩
    rw [List.map_dropLast] at At4
    refine k _ ?_ ((hL (by simp [Ad.L])).trans (f3.trans (f2.trans f1)))
    have e4 : S.close = { S with pos := S.pos + 1, behinds := S.behinds.set i ((S.pos + 1 : Nat) : Int), around := S.around.dropLast, counts := S.counts.dropLast } := by
      unfold Sc.close
      rw [hi]
      rfl
    rw [e4]
    exact At4
end
end K1
set_option maxHeartbeats 4000000
/-! a scan begins an item -/
namespace K1
open PySem L2
theorem ScOk.add {S : Sc} {T : List Nat} {h : List PyData} {n : Nat} (k : ScOk S) (e : hdM (T.drop S.pos) = some (h, n)) : ScOk (S.add h n) := by
  obtain ⟨ho, n1, n9⟩ := hdM_ok e
  have hla := k.la
  have hlc := k.lc
  have hhp := k.hp
  have dl : S.counts.dropLast.length = S.around.length := by rw [List.length_dropLast]; omega
  have npl : ∀ l ∈ (S.add h n).paths, l.length ≤ (S.add h n).heads.length := by
    intro l hl
    show l.length ≤ (S.heads ++ [h]).length
    rw [List.length_append]
    rcases List.mem_append.mp (show l ∈ S.paths ++ [S.holder ++ [(S.count : Int)]] from hl) with q | q
    · exact Nat.le_succ_of_le (k.pl l q)
    · rw [List.mem_singleton.mp q, List.length_append]
      exact Nat.succ_le_succ k.hol
  cases c : holdH h with
  | true =>
    obtain ⟨W1, h2, h3, h4, h5⟩ := add_open (n := n) k.wf c
    have ec : (S.add h n).counts = (S.counts.dropLast ++ [S.count + 1]) ++ [0] := by unfold Sc.add; rw [c]; rfl
    refine ⟨W1, fun x hx => ?_, ?_, ?_, ?_, ?_, npl⟩
    · rw [h5] at hx
      rcases List.mem_append.mp hx with q | q
      · exact k.hd x q
      · rw [List.mem_singleton.mp q]; exact ho
    · rw [ec, h4]
      simp only [List.length_append, List.length_cons, List.length_nil, dl]
    · rw [h4, h5]
      simp only [List.length_append, List.length_cons, List.length_nil]
      omega
    · rw [ec, List.dropLast_concat]
      intro x hx
      rcases List.mem_append.mp hx with q | q
      · exact k.nz x q
      · rw [List.mem_singleton.mp q]; exact Nat.succ_ne_zero _
    · rw [h5]
      show (S.heads ++ [h]).length ≤ S.pos + n
      simp only [List.length_append, List.length_cons, List.length_nil]
      omega
  | false =>
    have ea : S.add h n = S.more [(S.holder ++ [(S.count : Int)], (S.pos : Int), ((S.pos + n : Nat) : Int))] [h] (S.pos + n) 1 := add_leaf c
    rw [ea]
    rw [ea] at npl
    refine ⟨more_wf k.wf rfl, fun x hx => ?_, ?_, ?_, ?_, ?_, npl⟩
    · rcases List.mem_append.mp (show x ∈ S.heads ++ [h] from hx) with q | q
      · exact k.hd x q
      · rw [List.mem_singleton.mp q]; exact ho
    · show (S.counts.dropLast ++ [S.count + 1]).length = S.around.length + 1
      rw [List.length_append, dl]; rfl
    · show S.around.length ≤ (S.heads ++ [h]).length
      rw [List.length_append]; omega
    · show ∀ c ∈ (S.counts.dropLast ++ [S.count + 1]).dropLast, c ≠ 0
      rw [List.dropLast_concat]
      exact k.nz
    · show (S.heads ++ [h]).length ≤ S.pos + n
      rw [List.length_append]
      show S.heads.length + 1 ≤ S.pos + n
      omega
theorem ScOk.close {S : Sc} (k : ScOk S) (ne : S.around ≠ []) : ScOk S.close ∧ S.close.count ≠ 0 := by
  have hla := k.la
  have hlc := k.lc
  have hhp := k.hp
  have l1 : 1 ≤ S.around.length := List.length_pos_iff.mpr ne
  have dne : S.counts.dropLast ≠ [] := fun e => by
    have z := congrArg List.length e
    rw [List.length_dropLast] at z
    simp at z
    omega
  refine ⟨⟨⟨k.wf.lp, k.wf.lf, ?_, dne, fun i hi => k.wf.ar i (List.dropLast_subset _ hi)⟩, k.hd, ?_, ?_, fun c hc => k.nz c (List.dropLast_subset _ hc), ?_, k.pl⟩, ?_⟩
  · show (S.behinds.set _ _).length = S.heads.length
    rw [List.length_set]; exact k.wf.lb
  · show S.counts.dropLast.length = S.around.dropLast.length + 1
    rw [List.length_dropLast, List.length_dropLast]; omega
  · show S.around.dropLast.length ≤ S.heads.length
    rw [List.length_dropLast]; omega
  · show S.heads.length ≤ S.pos + 1
    omega
  · show (S.counts.dropLast.getLast?).getD 0 ≠ 0
    rw [List.getLast?_eq_some_getLast dne]
    exact k.nz _ (List.getLast_mem dne)
theorem add_top {S : Sc} {h : List PyData} {n : Nat} (ha : (S.add h n).around = []) : (S.add h n).count ≠ 0 := by
  cases c : holdH h with
  | true =>
    have e : (S.add h n).around = S.around ++ [S.heads.length] := by unfold Sc.add; rw [c]; rfl
    rw [e] at ha
    simp at ha
  | false =>
    rw [add_leaf c, more_count]
    omega
theorem set_last {α : Type} {x : α} : ∀ {l : List α}, l ≠ [] → l.set (l.length - 1) x = l.dropLast ++ [x] := by
  intro l h
  have e := List.dropLast_concat_getLast h
  have : l.length - 1 = l.dropLast.length := by rw [List.length_dropLast]
  rw [this]
  generalize l.getLast h = y at e
  generalize l.dropLast = m at e ⊢
  subst e
  rw [List.set_append_right _ _ (Nat.le_refl _), Nat.sub_self]
  rfl
/-- the path of the holder of what begins now -/
def tHolder (K : PySem.W.Frag) (C : Addr) : TE := fun σ H Q => ∃ (a : Ad) (z : Str) (S : Sc), σ[0]? = some (some (.ref a.p)) ∧ ScAt K C H a z S ∧ ScOk S ∧ S.pos ≤ 3000 ∧ ∀ H1 v, Same H H1 → DQ K (hidS a.L H1) v (pathD S.holder) → Q v H1
def begPost (K : PySem.W.Frag) (C B : Addr) (H : Hp) (a : Ad) (z : Str) (Q : VK) (E : XK) : Nat ⊕ Sc → Prop
  | .inl e => ∀ H' d, Same (hidS a.L H) H' → H' d = some (.xd [("told", natV e)]) → E (.ref B) (some d) H'
  | .inr S' => ∀ H', ScAt K C H' a z S' → Same (hidS a.L H) (hidS a.L H') → Q .non H'
def spBeg (K : PySem.W.Frag) (C B : Addr) : Sp := fun vs H Q E => ∃ (a : Ad) (z : Str) (S : Sc), vs = [.ref a.p] ∧ ScAt K C H a z S ∧ ScOk S ∧ S.pos ≤ 2500 ∧ z.length ≤ 2000 ∧ begPost K C B H a z Q E (beginS z.cps.toList S)
section
variable {P : Program} {w : World} {K : PySem.W.Frag} {mg : Str → Option Value} {base : Heap}
theorem sc_beg : FnScope ["self", "head", "behind", "holder"] ["self"] (defScope (inClass (top 16) 3)) := ⟨rfl, rfl, rfl, by decide +kernel, rfl, by decide +kernel, by decide +kernel⟩
theorem ok_beg {C B fI f : Addr} {fd : FuncData} (F : Fun K "_begin" "Scan._begin" (inClass (top 16) 3) f fd) (T : All K mg) (W : ScC K mg C) (R : Er K mg "BadText" B fI) : FnOk P w K mg base (L2.CX P w) 6 f fd ["self"] (spBeg K C B) := by
  refine F.okX sc_beg (fun vs H Q E h => ?_) (fun cdv A outer s H vs Q E hr h => ?_)
  · obtain ⟨a, z, S, rfl, _⟩ := h
    rfl
  · obtain ⟨a, z, S, rfl, At, Ok, hp, hz, k⟩ := h
    obtain ⟨dx, hob⟩ := At.ob
    have hll := Ok.hp
    have hla := Ok.la
    have hlc := Ok.lc
    refine ⟨_, (pss_cons (ps_asg (pe_clX (cl_head T R) hr (takes_of rfl rfl rfl rfl) (by decide) (pa_cons (pe_fld (pv 0) rfl) (pa_cons (pe_fld (pv 0) rfl) pa_nil))) (pg_tup (t := (gCons (gName 1) (gCons (gName 2) gNil))) rfl (pgs_cons (pg_name (i := 1) sc_beg.nd rfl (Or.inl rfl)) (pgs_cons (pg_name (i := 2) sc_beg.nd rfl (Or.inl rfl)) pgs_nil))))
      (pss_cons (ps_set (i := 3) sc_beg.nd rfl (Or.inl rfl) (K0.pe_imp (t' := tHolder K C) (pe_ifExp (pt_truth (pe_fld (pv 0) rfl) (by intro _; rfl)) (pe_ix ix_list (pe_fld (pv 0) rfl) (pe_ix ix_list (pe_fld (pv 0) rfl) (pe_un un_neg pe_int) (fun _ _ => rfl)) (fun _ _ => rfl)) (pe_tup pa_nil)) (fun σ H Q hh => ?_)))
      (pss_cons (ps_expr (pe_bm PySem.F.plainAttrs_list PySem.F.slot_list_append PySem.F.type_list_append mt_append (pe_fld (pv 0) rfl) (pa_cons (pe_tup (StX.pa_star (pv 3) (pa_cons (pe_ix ix_list (pe_fld (pv 0) rfl) (pe_un un_neg pe_int) (fun _ _ => rfl)) pa_nil))) pa_nil)))
      (pss_cons (ps_expr (pe_bm PySem.F.plainAttrs_list PySem.F.slot_list_append PySem.F.type_list_append mt_append (pe_fld (pv 0) rfl) (pa_cons (pv 1) pa_nil)))
      (pss_cons (ps_expr (pe_bm PySem.F.plainAttrs_list PySem.F.slot_list_append PySem.F.type_list_append mt_append (pe_fld (pv 0) rfl) (pa_cons (pe_fld (pv 0) rfl) pa_nil)))
      (pss_cons (ps_expr (pe_bm PySem.F.plainAttrs_list PySem.F.slot_list_append PySem.F.type_list_append mt_append (pe_fld (pv 0) rfl) (pa_cons (pv 2) pa_nil)))
      (pss_cons (ps_augS (pe_fld (pv 0) rfl) (pe_un un_neg pe_int) pget_list pe_int ip_add set_list)
      (pss_cons (ps_if (pt_val (pe_cl (cl_holds T) hr (by decide) (pa_cons (pe_ix ix_tup (pv 1) pe_int (fun _ _ => rfl)) pa_nil))) (pss_cons (ps_expr (pe_bm PySem.F.plainAttrs_list PySem.F.slot_list_append PySem.F.type_list_append mt_append (pe_fld (pv 0) rfl) (pa_cons (pe_op op_sub (pe_callB call_len_seq (by rfl) T.bi.len PySem.boot_len (pa_cons (pe_fld (pv 0) rfl) pa_nil)) pe_int) pa_nil)))
      (pss_one (ps_expr (pe_bm PySem.F.plainAttrs_list PySem.F.slot_list_append PySem.F.type_list_append mt_append (pe_fld (pv 0) rfl) (pa_cons pe_int pa_nil))))) pss_nil)
      (pss_one (ps_fld (pv 0) (pv 2) rfl)))))))))), ?_⟩
    · -- the holder
      obtain ⟨a, z, S, h0, At, Ok, hp, q⟩ := hh
      obtain ⟨dx, hob⟩ := At.ob
      have hla := Ok.la
      have hll := Ok.hp
      refine ⟨_, h0, a.p, C, dx, _, _, rfl, hob, W.cl, W.n5, look5 _ _ _, _, .inl ⟨_, SqL.of At.l5, rfl⟩, ?_⟩
      cases e : S.around.getLast? with
      | none =>
        have e2 : S.around = [] := List.getLast?_eq_none_iff.mp e
        have e3 : S.holder = [] := by unfold Sc.holder; rw [e]
        rw [e2]
        refine iteF ⟨Nat.zero_le _, fun t nt => q _ _ (K0.same_upd nt) ?_⟩
        rw [e3]
        exact .tup (.inl (.inl (hidS_of (fun z => At.there _ z nt) upd_same))) .nil
      | some i =>
        have ne : S.around ≠ [] := fun z => by rw [z] at e; cases e
        have hi2 := Ok.wf.ar i (List.mem_of_getLast? e)
        obtain ⟨vs, h1, d1⟩ := At.l1
        have hlp := Ok.wf.lp
        have hg : S.paths[i]? = some S.paths[i] := List.getElem?_eq_getElem (by omega)
        obtain ⟨u, hu, du⟩ := d1.get (i := i) (d := pathD S.paths[i]) (by rw [List.getElem?_map, hg]; rfl)
        have e3 : S.holder = S.paths[i] := by
          unfold Sc.holder
          rw [e]
          show S.paths.getD i [] = _
          rw [List.getD_eq_getElem?_getD, hg]
          rfl
        have tr : (!(S.around.map natV).isEmpty) = true := by
          cases q : S.around with
          | nil => exact absurd q ne
          | cons _ _ => rfl
        rw [tr]
        refine iteT ⟨_, h0, a.p, C, dx, _, _, rfl, hob, W.cl, W.n1, look1 _ _ _, _, h0, a.p, C, dx, _, _, rfl, hob, W.cl, W.n5, look5 _ _ _, _, rfl, a.a5, _, _, _, rfl, rfl, SqL.of At.l5, atI_end (getLast_natV e) (by rw [List.length_map]; omega), a.a1, vs, _, u, rfl, rfl, SqL.of h1, atI_nat hu, q _ _ (Same.refl _) ?_⟩
        rw [e3]
        exact du
    · refine ⟨_, rfl, a.p, C, dx, _, _, rfl, hob, W.cl, W.nT, lookT _ _ _, _, rfl, a.p, C, dx, _, _, rfl, hob, W.cl, W.nA, lookA _ _ _, z, S.pos, rfl, hz, ?_⟩
      cases e : hdM (z.cps.toList.drop S.pos) with
      | none =>
        have eb : beginS z.cps.toList S = .inl S.pos := by unfold beginS; rw [e]
        rw [eb] at k
        exact fun H' d s hd => k H' d (fun b u q => s _ _ (hidS_in _ _ b u q)) hd
      | some hn =>
        obtain ⟨h, n⟩ := hn
        have eb : beginS z.cps.toList S = .inr (S.add h n) := by unfold beginS; rw [e]
        rw [eb] at k
        obtain ⟨ho, n1, n9⟩ := hdM_ok e
        intro H1 t u S1 h1 du
        have At1 := At.same S1
        have du1 : DQ K (hidS a.L H1) u (.tuple h) := du.to (hidS_nw At.there)
        have fH : Same (hidS a.L H) (hidS a.L H1) := hidS_more S1
        refine ⟨t, _, rfl, .inl (.inl h1), rfl, _, _, rfl, _, _, rfl, rfl, a, z, S, rfl, At1, Ok, by omega, fun H2 v S2 dv => ?_⟩
        have At2 := At1.same S2
        have du2 := du1.to (hidS_more S2)
        have f2 := fH.trans (hidS_more S2)
        obtain ⟨dx2, hob2⟩ := At2.ob
        have lenC : (S.counts.map natV).length < 2 ^ 62 := by rw [List.length_map]; omega
        obtain ⟨hv, xs, rfl, hT, hd⟩ : ∃ hv xs, v = .ref hv ∧ SqT K (hidS a.L H2) hv xs ∧ DQs K (hidS a.L H2) xs (S.holder.map PyData.int) := by
          cases dv with
          | tup h1 h2 => exact ⟨_, _, rfl, h1, h2⟩
        have hxl : xs.length ≤ 3000 := by
          rw [hd.len, List.length_map]
          have := Ok.hol
          omega
        obtain ⟨vs1, g1, _⟩ := At2.l1
        refine ⟨_, rfl, a.p, C, dx2, _, _, rfl, hob2, W.cl, W.n1, look1 _ _ _, .inl ⟨rfl, _, SqL.of g1⟩, _, rfl, hv, xs, rfl, .inl (K0.seqT_same (hidS_in _ _) hT), _, rfl, a.p, C, dx2, _, _, rfl, hob2, W.cl, W.n6, look6 _ _ _, _, rfl, a.a6, _, _, _, rfl, rfl, SqL.of At2.l6, atI_end Ok.last lenC, ?_, fun q nq => ?_⟩
        · rw [List.length_append]
          exact sizeL (by show xs.length + 1 ≤ 4000; omega)
        have S3 := K0.same_upd (o := .tup (xs ++ [natV S.count])) nq
        have At3 := At2.same S3
        have dq : DQ K (hidS a.L (upd H2 q (.tup (xs ++ [natV S.count])))) (.ref q) (pathD (S.holder ++ [(S.count : Int)])) := by
          refine .tup (.inl (.inl (hidS_of (fun z => At2.there _ z nq) upd_same))) ?_
          rw [List.map_append]
          exact (hd.to (hidS_more S3)).app (.cons (.int _) .nil)
        have du3 := du2.to (hidS_more S3)
        have f3 := f2.trans (hidS_more S3)
        generalize upd H2 q (.tup (xs ++ [natV S.count])) = H3 at At3 dq du3 f3 ⊢
        obtain ⟨vs1, g1, l1, At4⟩ := At3.path dq
        have hL : ∀ {x : Addr} {o : HO} {J : Hp}, x ∈ a.L → hidS a.L (upd J x o) = hidS a.L J := fun h => hidS_upd h
        have hlp := Ok.wf.lp
        have hlf := Ok.wf.lf
        have hlb := Ok.wf.lb
        have ha1 : hidS a.L (upd H3 a.a1 (.lst (vs1 ++ [.ref q]))) = hidS a.L H3 := hL (by simp [Ad.L])
        refine ⟨a.a1, vs1, _, rfl, rfl, g1, by rw [sizeLine_eq]; omega, ?_⟩
        rw [← ha1] at du3 f3
        generalize upd H3 a.a1 (.lst (vs1 ++ [.ref q])) = H4 at At4 du3 f3 ⊢
        -- the head
        obtain ⟨vs2, g2, l2, At5⟩ := At4.head du3
        obtain ⟨dx4, hob4⟩ := At4.ob
        have ha2 : hidS a.L (upd H4 a.a2 (.lst (vs2 ++ [u]))) = hidS a.L H4 := hL (by simp [Ad.L])
        refine ⟨_, rfl, a.p, C, dx4, _, _, rfl, hob4, W.cl, W.n2, look2 _ _ _, .inl ⟨rfl, _, SqL.of g2⟩, _, rfl, a.a2, vs2, _, rfl, rfl, g2, by rw [l2]; show S.heads.length < sizeLine; rw [sizeLine_eq]; omega, ?_⟩
        rw [← ha2] at du3 f3
        generalize upd H4 a.a2 (.lst (vs2 ++ [u])) = H5 at At5 du3 f3 ⊢
        -- the first sign
        have At6 := At5.first (S.firsts ++ [(S.pos : Int)])
        obtain ⟨dx5, hob5⟩ := At5.ob
        have ha3 : hidS a.L (upd H5 a.a3 (.lst ((S.firsts ++ [(S.pos : Int)]).map V.int))) = hidS a.L H5 := hL (by simp [Ad.L])
        rw [List.map_append] at At6 ha3
        refine ⟨_, rfl, a.p, C, dx5, _, _, rfl, hob5, W.cl, W.n3, look3 _ _ _, .inl ⟨rfl, _, SqL.of At5.l3⟩, _, rfl, a.p, C, dx5, _, _, rfl, hob5, W.cl, W.nA, lookA _ _ _, a.a3, _, _, rfl, rfl, At5.l3, by show (S.firsts.map V.int).length < sizeLine; rw [List.length_map, sizeLine_eq]; omega, ?_⟩
        rw [← ha3] at du3 f3
        show _
        dsimp only
        have z3 : (S.firsts.map V.int ++ [natV S.pos]) = S.firsts.map V.int ++ List.map V.int [(S.pos : Int)] := rfl
        rw [z3]
        generalize upd H5 a.a3 (.lst (S.firsts.map V.int ++ List.map V.int [(S.pos : Int)])) = H6 at At6 du3 f3 ⊢
        -- the sign behind
        have At7 := At6.behind (S.behinds ++ [((S.pos + n : Nat) : Int)])
        obtain ⟨dx6, hob6⟩ := At6.ob
        have ha4 : hidS a.L (upd H6 a.a4 (.lst ((S.behinds ++ [((S.pos + n : Nat) : Int)]).map V.int))) = hidS a.L H6 := hL (by simp [Ad.L])
        rw [List.map_append] at At7 ha4
        refine ⟨_, rfl, a.p, C, dx6, _, _, rfl, hob6, W.cl, W.n4, look4 _ _ _, .inl ⟨rfl, _, SqL.of At6.l4⟩, _, rfl, a.a4, _, _, rfl, rfl, At6.l4, by show (S.behinds.map V.int).length < sizeLine; rw [List.length_map, sizeLine_eq]; omega, ?_⟩
        rw [← ha4] at du3 f3
        dsimp only
        have z4 : (S.behinds.map V.int ++ [V.int ((S.pos + n : Nat) : Int)]) = S.behinds.map V.int ++ List.map V.int [((S.pos + n : Nat) : Int)] := rfl
        rw [z4]
        generalize upd H6 a.a4 (.lst (S.behinds.map V.int ++ List.map V.int [((S.pos + n : Nat) : Int)])) = H7 at At7 du3 f3 ⊢
        -- the count
        have At8 := At7.cnt (S.counts.dropLast ++ [S.count + 1])
        obtain ⟨dx7, hob7⟩ := At7.ob
        have ha6 : hidS a.L (upd H7 a.a6 (.lst ((S.counts.dropLast ++ [S.count + 1]).map natV))) = hidS a.L H7 := hL (by simp [Ad.L])
        have z5 : (S.counts.map natV).set ((S.counts.map natV).length - 1) (natV (S.count + 1)) = (S.counts.dropLast ++ [S.count + 1]).map natV := by
          rw [set_last (fun z => Ok.wf.ne (List.map_eq_nil_iff.mp z)), List.map_append, List.map_dropLast]
          rfl
        refine ⟨_, rfl, a.p, C, dx7, _, _, rfl, hob7, W.cl, W.n6, look6 _ _ _, _, rfl, a.a6, _, _, _, rfl, rfl, SqL.of At7.l6, by decide, atI_end Ok.last lenC, _, _, rfl, rfl, a.a6, S.counts.map natV, _, (S.counts.map natV).length - 1, rfl, rfl, At7.l6, ?_, ?_⟩
        · unfold ixN
          rw [if_neg (by decide), if_pos (by rw [List.length_map]; omega)]
          congr 1
          rw [List.length_map]
          omega
        dsimp only
        have z6 : V.int ((S.count : Int) + 1) = natV (S.count + 1) := by unfold natV; congr 1
        rw [z6, z5]
        rw [← ha6] at du3 f3
        generalize upd H7 a.a6 (.lst ((S.counts.dropLast ++ [S.count + 1]).map natV)) = H8 at At8 du3 f3 ⊢
        obtain ⟨dx8, hob8⟩ := At8.ob
        -- does it hold others
        obtain ⟨kx, kr, rfl, ek⟩ := ho.kind
        obtain ⟨ua, uxs, u0, rfl, hu1, hu2, hu3⟩ := (du3.to (hidS_in _ _)).item (i := 0) rfl
        cases hu3
        refine ⟨_, rfl, ua, uxs, _, _, rfl, rfl, hu1, hu2, kx, rfl, _, rfl, ?_⟩
        rw [← ek]
        have hpn : V.int ((S.pos + n : Nat) : Int) = natV (S.pos + n) := rfl
        cases eh : holdH (.str kx :: kr) with
        | true =>
          have At9 := At8.arnd (S.around ++ [S.heads.length])
          have ha5 : hidS a.L (upd H8 a.a5 (.lst ((S.around ++ [S.heads.length]).map natV))) = hidS a.L H8 := hL (by simp [Ad.L])
          rw [List.map_append] at At9 ha5
          obtain ⟨vsH, gH, dH⟩ := At8.l2
          have lH : vsH.length = S.heads.length + 1 := by
            have := dH.len
            rw [this]
            show ((S.heads ++ [_]).map PyData.tuple).length = _
            rw [List.length_map, List.length_append]
            rfl
          refine iteT ⟨_, rfl, a.p, C, dx8, _, _, rfl, hob8, W.cl, W.n5, look5 _ _ _, .inl ⟨rfl, _, SqL.of At8.l5⟩, _, rfl, a.p, C, dx8, _, _, rfl, hob8, W.cl, W.n2, look2 _ _ _, a.a2, vsH, rfl, .inl (SqL.of gH), _, _, rfl, rfl, a.a5, _, _, rfl, rfl, At8.l5, by show (S.around.map natV).length < sizeLine; rw [List.length_map, sizeLine_eq]; omega, ?_⟩
          dsimp only
          have z7 : S.around.map natV ++ [V.int ((vsH.length : Int) - 1)] = S.around.map natV ++ List.map natV [S.heads.length] := by
            rw [lH]
            have : ((S.heads.length + 1 : Nat) : Int) - 1 = (S.heads.length : Int) := by omega
            rw [this]
            rfl
          rw [z7]
          rw [← ha5] at f3
          generalize upd H8 a.a5 (.lst (S.around.map natV ++ List.map natV [S.heads.length])) = H9 at At9 f3 ⊢
          have At10 := At9.cnt ((S.counts.dropLast ++ [S.count + 1]) ++ [0])
          obtain ⟨dx9, hob9⟩ := At9.ob
          have hb6 : hidS a.L (upd H9 a.a6 (.lst (((S.counts.dropLast ++ [S.count + 1]) ++ [0]).map natV))) = hidS a.L H9 := hL (by simp [Ad.L])
          rw [List.map_append] at At10 hb6
          refine ⟨_, rfl, a.p, C, dx9, _, _, rfl, hob9, W.cl, W.n6, look6 _ _ _, .inl ⟨rfl, _, SqL.of At9.l6⟩, a.a6, _, _, rfl, rfl, At9.l6, by show ((S.counts.dropLast ++ [S.count + 1]).map natV).length < sizeLine; rw [List.length_map, List.length_append, List.length_dropLast, sizeLine_eq]; show _ + 1 < _; omega, ?_⟩
          dsimp only
          have z8 : (S.counts.dropLast ++ [S.count + 1]).map natV ++ [V.int 0] = (S.counts.dropLast ++ [S.count + 1]).map natV ++ List.map natV [0] := rfl
          rw [z8]
          rw [← hb6] at f3
          generalize upd H9 a.a6 (.lst ((S.counts.dropLast ++ [S.count + 1]).map natV ++ List.map natV [0])) = H10 at At10 f3 ⊢
          obtain ⟨dx10, hob10, At11⟩ := At10.pos (S.pos + n)
          refine ⟨_, rfl, _, rfl, a.p, C, dx10, _, rfl, hob10, W.cl, W.nA, (by show 8 < 1000; decide), ?_⟩
          dsimp only
          rw [hpn, putF_at]
          have hb0 : hidS a.L (upd H10 a.p (.ins C dx10 (scF a z (S.pos + n)))) = hidS a.L H10 := hL (by simp [Ad.L])
          refine k _ ?_ (by rw [hb0]; exact f3)
          unfold Sc.add
          rw [eh]
          exact At11
        | false =>
          obtain ⟨dx10, hob10, At11⟩ := At8.pos (S.pos + n)
          refine iteF ⟨_, rfl, _, rfl, a.p, C, dx10, _, rfl, hob10, W.cl, W.nA, (by show 8 < 1000; decide), ?_⟩
          dsimp only
          rw [hpn, putF_at]
          have hb0 : hidS a.L (upd H8 a.p (.ins C dx10 (scF a z (S.pos + n)))) = hidS a.L H8 := hL (by simp [Ad.L])
          refine k _ ?_ (by rw [hb0]; exact f3)
          unfold Sc.add
          rw [eh]
          exact At11
end
end K1
set_option maxHeartbeats 4000000
/-! a scan runs -/
namespace K1
open PySem L2
theorem seq_of {t1 t2 : TS} {D : Ends} {σ : St} {H : Hp} (R : St → Hp → Prop) (h2 : ∀ σ' H', R σ' H' → t2 D σ' H') (h1 : ∀ (G : St → Hp → Prop), (∀ σ' H', R σ' H' → G σ' H') → t1 { D with nx := G } σ H) : tSeq t1 t2 D σ H := h1 (t2 D) h2
theorem pt_imp {X : Cx} {e : Expr} {t t' : TT} (h : PT X e t) (k : ∀ σ H Q, t' σ H Q → t σ H Q) : PT X e t' := ⟨fun pins s σ H Q I q => h.run pins s σ H Q I (k σ H Q q)⟩
/-- is it a bracket's end, and is there one open -/
def tEnds (K : PySem.W.Frag) (C : Addr) : TT := fun σ H Q => ∃ (a : Ad) (z : Str) (S : Sc) (c : Nat), σ[0]? = some (some (.ref a.p)) ∧ σ[1]? = some (some (.str ⟨#[c]⟩)) ∧ ScAt K C H a z S ∧ Q (decide (c = 41 ∧ S.around ≠ [])) H
theorem sgn_is {c d : Nat} {y : Str} (hy : y.cps.toList = [d]) : decide (V.str ⟨#[c]⟩ = V.str y) = (c == d) := by
  have e : (⟨#[c]⟩ : Str) = sO [c] := rfl
  rw [e, part_is hy, Bool.eq_iff_iff]
  simp
/-- how the scan of a text ends -/
def ScanR (T : List Nat) (r : Nat ⊕ Sc) : Prop := (T = [] ∧ r = .inr sc0) ∨ (T ≠ [] ∧ ((∃ e, beginS T sc0 = .inl e ∧ r = .inl e) ∨ ∃ S1 n, beginS T sc0 = .inr S1 ∧ Runs T n S1 r))
theorem sc0_ok : ScOk sc0 := ⟨sc0_wf, fun h hh => (by cases hh), rfl, Nat.le_refl _, fun c hc => (by cases hc), Nat.le_refl _, fun l hl => (by cases hl)⟩
theorem begin_add {T : List Nat} {S S' : Sc} (e : beginS T S = .inr S') : ∃ h n, S' = S.add h n ∧ hdM (T.drop S.pos) = some (h, n) := by
  unfold beginS at e
  cases q : hdM (T.drop S.pos) with
  | none => rw [q] at e; cases e
  | some hn =>
    obtain ⟨h, n⟩ := hn
    rw [q] at e
    cases e
    exact ⟨h, n, rfl, rfl⟩
theorem begin_ok {T : List Nat} {S S' : Sc} (k : ScOk S) (e : beginS T S = .inr S') : ScOk S' ∧ (S'.around = [] → S'.count ≠ 0) := by
  obtain ⟨h, n, rfl, q⟩ := begin_add e
  exact ⟨k.add q, add_top⟩
theorem ScOk.pos {S : Sc} (k : ScOk S) : ScOk { S with pos := S.pos + 1 } := ⟨⟨k.wf.lp, k.wf.lf, k.wf.lb, k.wf.ne, k.wf.ar⟩, k.hd, k.lc, k.la, k.nz, Nat.le_succ_of_le k.hp, k.pl⟩
def spRun (K : PySem.W.Frag) (C B : Addr) : Sp := fun vs H Q E => ∃ (a : Ad) (z : Str) (r : Nat ⊕ Sc), vs = [.ref a.p] ∧ ScAt K C H a z sc0 ∧ z.length ≤ 2000 ∧ ScanR z.cps.toList r ∧ begPost K C B H a z Q E r
/-- the scan between two signs -/
def WRun (K : PySem.W.Frag) (C : Addr) (H : Hp) (a : Ad) (z : Str) (r : Nat ⊕ Sc) : Nat → St → Hp → Prop := fun m σ H' => ∃ (S : Sc) (v : Option V), σ = [some (.ref a.p), v] ∧ ScAt K C H' a z S ∧ ScOk S ∧ (S.around = [] → S.count ≠ 0 ∨ z.cps.toList.length ≤ S.pos) ∧ Runs z.cps.toList m S r ∧ Same (hidS a.L H) (hidS a.L H')
section
variable {P : Program} {w : World} {K : PySem.W.Frag} {mg : Str → Option Value} {base : Heap}
theorem arnd_tru (l : List Nat) : (!(l.map natV).isEmpty) = decide (l ≠ []) := by
  cases l with
  | nil => rfl
  | cons _ _ => simp
theorem sc_run : FnScope ["self", "sign"] ["self"] (defScope (inClass (top 16) 1)) := ⟨rfl, rfl, rfl, by decide +kernel, rfl, by decide +kernel, by decide +kernel⟩
theorem ok_run {C B fI f : Addr} {fd : FuncData} (F : Fun K "_run" "Scan._run" (inClass (top 16) 1) f fd) (T : All K mg) (W : ScC K mg C) (R : Er K mg "BadText" B fI) : FnOk P w K mg base (L2.CX P w) 7 f fd ["self"] (spRun K C B) := by
  obtain ⟨fB, fdB, FB, bB, mB⟩ := W.beg
  obtain ⟨fN, fdN, FN, bN, mN⟩ := W.isn
  obtain ⟨fC, fdC, FC, bC, mC⟩ := W.clo
  have GB : FnOk P w K mg base (L2.CX P w) 6 fB fdB ["self"] (spBeg K C B) := ok_beg FB T W R
  have GN : FnOk P w K mg base CX0 1 fN fdN ["self"] (spIsn K C) := ok_isn FN W
  have GC : FnOk P w K mg base CX0 1 fC fdC ["self"] (spClo K C) := ok_clo FC W
  refine F.okX sc_run (fun vs H Q E h => ?_) (fun cdv A outer s H vs Q E hr h => ?_)
  · obtain ⟨a, z, r, rfl, _⟩ := h
    rfl
  · obtain ⟨a, z, r, rfl, At, hz, hR, k⟩ := h
    have hr1 : Room 1 _ := hr.mono (by decide)
    obtain ⟨dx, hob⟩ := At.ob
    have zl := len_cps z
    have hL : ∀ {x : Addr} {o : HO} {J : Hp}, x ∈ a.L → hidS a.L (upd J x o) = hidS a.L J := fun h => hidS_upd h
    have errK : ∀ {e : Nat} {H' : Hp}, r = .inl e → Same (hidS a.L H) (hidS a.L H') → ∀ H2 d, Same (hidS a.L H') H2 → H2 d = some (.xd [("told", natV e)]) → E (.ref B) (some d) H2 := by
      intro e H' er s1 H2 d s2 hd
      rw [er] at k
      exact k H2 d (s1.trans s2) hd
    refine ⟨_, (pss_cons (ps_if (pt_truth (pe_fld (pv 0) rfl) (by intro _; rfl)) (pss_one (ps_expr (pe_methS0 (pv 0) W.cl mB GB hr bB (fun σ => passAt (takes_of rfl rfl rfl rfl) σ)))) pss_nil)
      (pss_cons (ps_while (passes_of rfl) (pt_cmpR op_lt (pe_fld (pv 0) rfl) (pe_callB call_len_str (by rfl) T.bi.len PySem.boot_len (pa_cons (pe_fld (pv 0) rfl) pa_nil)) (nomark _)) (pss_cons (ps_set (i := 1) sc_run.nd rfl (Or.inl rfl) (pe_ix ix_str (pe_fld (pv 0) rfl) (pe_fld (pv 0) rfl) (fun _ _ => rfl)))
      (pss_one (ps_if (pt_imp (t' := tEnds K C) (PW.pt (pw_and (pt_cmpR op_eq (pv 1) pe_str (nomark _)) (pw_and1 (pt_truth (pe_fld (pv 0) rfl) (by intro _; rfl))))) (fun σ H Q hh => ?_)) (pss_one (ps_expr (pe_meth0 (pv 0) W.cl mC GC hr1 bC .nil pass0))) (pss_one (ps_if (pt_val (pe_meth0 (pv 0) W.cl mN GN hr1 bN .nil pass0)) (pss_one (ps_expr (pe_methS0 (pv 0) W.cl mB GB hr bB (fun σ => passAt (takes_of rfl rfl rfl rfl) σ)))) (pss_one (ps_if (pt_cmpR op_eq (pv 1) pe_str (nomark _)) (pss_cons (ps_fldaug (pv 0) pe_int in_add)
      (pss_one (ps_expr (pe_methS0 (pv 0) W.cl mB GB hr bB (fun σ => passAt (takes_of rfl rfl rfl rfl) σ))))) (pss_one (ps_raise rfl (takes_of rfl rfl rfl rfl) (pmk_err R hr (by decide) (pa_cons (pe_fld (pv 0) rfl) pa_nil))))))))))))
      (pss_one (ps_if (pt_truth (pe_fld (pv 0) rfl) (by intro _; rfl)) (pss_one (ps_raise rfl (takes_of rfl rfl rfl rfl) (pmk_err R hr (by decide) (pa_cons (pe_fld (pv 0) rfl) pa_nil)))) pss_nil)))), ?_⟩
    · -- the bracket's end
      obtain ⟨a, z, S, c, h0, h1, At, q⟩ := hh
      obtain ⟨dx, hob⟩ := At.ob
      refine ⟨_, h1, rfl, _, rfl, ?_⟩
      rw [sgn_is (d := 41) (by decide +kernel)]
      cases e : c == 41 with
      | false =>
        have : decide (c = 41 ∧ S.around ≠ []) = false := decide_eq_false fun z => by rw [z.1] at e; cases e
        rw [this] at q
        exact iteF q
      | true =>
        refine iteT ⟨_, h0, a.p, C, dx, _, _, rfl, hob, W.cl, W.n5, look5 _ _ _, _, .inl ⟨_, SqL.of At.l5, rfl⟩, ?_⟩
        rw [arnd_tru]
        have : decide (c = 41 ∧ S.around ≠ []) = decide (S.around ≠ []) := by rw [eq_of_beq e]; simp
        rw [this] at q
        exact q
    refine seq_of (fun σ' H' => ∃ m, WRun K C H a z r m σ' H') ?loop ?first
    case first =>
      intro G hG
      refine ⟨_, rfl, a.p, C, dx, _, _, rfl, hob, W.cl, W.nT, lookT _ _ _, _, ⟨sizeL hz, rfl⟩, ?_⟩
      rcases hR with ⟨h0, hr0⟩ | ⟨h0, hR⟩
      · have e0 : ((z.length : Int) != 0) = false := by
          rw [← zl, h0]
          rfl
        rw [e0]
        refine iteF (hG _ _ ⟨0, sc0, none, rfl, At, sc0_ok, fun _ => .inr (by rw [h0]; exact Nat.le_refl _), ?_, Same.refl _⟩)
        rw [hr0]
        exact .fin (S := sc0) (by rw [h0]; exact Nat.le_refl _)
      · have e0 : ((z.length : Int) != 0) = true := by
          rw [← zl]
          have : z.cps.toList.length ≠ 0 := fun q => h0 (List.length_eq_zero_iff.mp q)
          simpa using this
        rw [e0]
        refine iteT ⟨_, rfl, a.p, dx, _, rfl, hob, rfl, a, z, sc0, rfl, At, sc0_ok, by decide, hz, ?_⟩
        rcases hR with ⟨e, he, hr0⟩ | ⟨S1, n, he, hr0⟩
        · rw [he]
          exact errK hr0 (Same.refl _)
        · rw [he]
          intro H' At1 s1
          obtain ⟨o1, o2⟩ := begin_ok sc0_ok he
          exact hG _ _ ⟨n, S1, none, rfl, At1, o1, fun q => .inl (o2 q), hr0, s1⟩
    case loop =>
      rintro σ0 H0 ⟨m0, hW⟩
      refine ⟨WRun K C H a z r, ⟨m0, hW⟩, ?_⟩
      rintro m σ H' ⟨S, v, rfl, At, Ok, tp, hRun, s1⟩
      obtain ⟨dx, hob⟩ := At.ob
      refine ⟨_, rfl, a.p, C, dx, _, _, rfl, hob, W.cl, W.nA, lookA _ _ _, _, rfl, a.p, C, dx, _, _, rfl, hob, W.cl, W.nT, lookT _ _ _, z, rfl, sizeL hz, _, _, rfl, rfl, _, rfl, ?_⟩
      rw [dec_pos, ← zl]
      by_cases hlt : S.pos < z.cps.toList.length
      · rw [decide_eq_true hlt]
        have step : (∃ e, stepS z.cps.toList S = .inl e ∧ r = .inl e) ∨ ∃ S' m', m' < m ∧ stepS z.cps.toList S = .inr S' ∧ Runs z.cps.toList m' S' r := by
          cases hRun with
          | fin hfin => exact absurd hlt (by omega)
          | bad _ hs => exact .inl ⟨_, hs, rfl⟩
          | go _ hs ht => exact .inr ⟨_, _, Nat.lt_succ_self _, hs, ht⟩
        have hc : z.cps.toList[S.pos]? = some z.cps.toList[S.pos] := List.getElem?_eq_getElem hlt
        generalize z.cps.toList[S.pos] = c at hc
        have hgd : z.cps.toList.getD S.pos 0 = c := by rw [List.getD_eq_getElem?_getD, hc]; rfl
        have tp' : S.around = [] → S.count ≠ 0 := fun q => (tp q).resolve_right (by omega)
        have hhp := Ok.hp
        refine iteT ⟨fun σ' H' => ∃ m', m' < m ∧ WRun K C H a z r m' σ' H', fun _ _ q => q, ?_⟩
        refine ⟨_, rfl, a.p, C, dx, _, _, rfl, hob, W.cl, W.nT, lookT _ _ _, _, rfl, a.p, C, dx, _, _, rfl, hob, W.cl, W.nA, lookA _ _ _, z, _, c, rfl, rfl, sizeL hz, atI_nat hc, ?_⟩
        refine ⟨a, z, S, c, rfl, rfl, At, ?_⟩
        unfold stepS at step
        rw [hgd] at step
        have begun : ∀ {S0 : Sc} {H0 : Hp}, ScAt K C H0 a z S0 → ScOk S0 → Same (hidS a.L H) (hidS a.L H0) → ((∃ e, beginS z.cps.toList S0 = .inl e ∧ r = .inl e) ∨ ∃ S' m', m' < m ∧ beginS z.cps.toList S0 = .inr S' ∧ Runs z.cps.toList m' S' r) →
            begPost K C B H0 a z (fun _ H' => ∃ m', m' < m ∧ WRun K C H a z r m' [some (.ref a.p), some (.str ⟨#[c]⟩)] H') E (beginS z.cps.toList S0) := by
          intro S0 H0 At0 Ok0 s0 h
          rcases h with ⟨e, he, hr0⟩ | ⟨S', m', hm, he, hr0⟩
          · rw [he]
            exact errK hr0 s0
          · rw [he]
            intro H' At1 s2
            obtain ⟨o1, o2⟩ := begin_ok Ok0 he
            exact ⟨m', hm, S', _, rfl, At1, o1, fun q => .inl (o2 q), hr0, s0.trans s2⟩
        by_cases hcl : c = 41 ∧ S.around ≠ []
        · rw [decide_eq_true hcl]
          rw [if_pos hcl] at step
          rcases step with ⟨e, he, _⟩ | ⟨S', m', hm, he, ht⟩
          · cases he
          · cases he
            obtain ⟨o1, o2⟩ := Ok.close hcl.2
            exact iteT ⟨_, rfl, a.p, dx, _, rfl, hob, rfl, a, z, S, rfl, At, Ok, hcl.2, fun H2 At2 f2 => ⟨m', hm, S.close, _, rfl, At2, o1, fun _ => .inl o2, ht, by rw [f2]; exact s1⟩⟩
        · rw [decide_eq_false hcl]
          rw [if_neg hcl] at step
          refine iteF ⟨_, rfl, a.p, dx, _, rfl, hob, rfl, a, z, S, rfl, At, Ok, tp', by omega, fun H2 s2 => ⟨_, rfl, ?_⟩⟩
          have At2 := At.same s2
          have s12 := s1.trans (hidS_more s2)
          obtain ⟨dx2, hob2⟩ := At2.ob
          cases eB : S.newB with
          | true =>
            rw [eB, if_pos rfl] at step
            exact iteT ⟨_, rfl, a.p, dx2, _, rfl, hob2, rfl, a, z, S, rfl, At2, Ok, by omega, hz, begun At2 Ok s12 step⟩
          | false =>
            rw [eB, if_neg Bool.false_ne_true] at step
            refine iteF ⟨_, rfl, rfl, _, rfl, ?_⟩
            rw [sgn_is (d := 32) (by decide +kernel)]
            by_cases h32 : c = 32
            · rw [if_pos h32] at step
              have : (c == 32) = true := by simp [h32]
              rw [this]
              obtain ⟨dx3, hob3, At3⟩ := At2.pos (S.pos + 1)
              refine iteT ⟨_, rfl, a.p, C, dx3, _, _, rfl, hob3, W.cl, W.nA, lookA _ _ _, _, _, rfl, rfl, dx3, _, hob3, (by show 8 < 1000; decide), ?_⟩
              have e1 : V.int ((S.pos : Int) + 1) = natV (S.pos + 1) := by unfold natV; congr 1
              rw [e1, putF_at]
              have f1 : hidS a.L (upd H2 a.p (.ins C dx3 (scF a z (S.pos + 1)))) = hidS a.L H2 := hL (by simp [Ad.L])
              generalize upd H2 a.p (.ins C dx3 (scF a z (S.pos + 1))) = H3 at At3 f1 ⊢
              obtain ⟨dx4, hob4⟩ := At3.ob
              refine ⟨_, rfl, a.p, dx4, _, rfl, hob4, rfl, a, z, _, rfl, At3, Ok.pos, by show S.pos + 1 ≤ 2500; omega, hz, begun At3 Ok.pos (by rw [f1]; exact s12) step⟩
            · rw [if_neg h32] at step
              have : (c == 32) = false := by simp [h32]
              rw [this]
              rcases step with ⟨e, he, hr0⟩ | ⟨S', m', hm, he, ht⟩
              · cases he
                refine iteF ⟨_, rfl, a.p, C, dx2, _, _, rfl, hob2, W.cl, W.nA, lookA _ _ _, _, rfl, ?_⟩
                exact fun H3 d3 S3 h3 => errK hr0 s12 H3 d3 (fun b u q => S3 _ _ (hidS_in _ _ b u q)) h3
              · cases he
      · rw [decide_eq_false hlt]
        have hr0 : r = if S.around = [] then .inr S else .inl S.pos := by
          cases hRun with
          | fin hfin => rfl
          | bad h _ => exact absurd h hlt
          | go h _ _ => exact absurd h hlt
        refine iteF ⟨_, rfl, a.p, C, dx, _, _, rfl, hob, W.cl, W.n5, look5 _ _ _, _, .inl ⟨_, SqL.of At.l5, rfl⟩, ?_⟩
        rw [arnd_tru]
        by_cases ha : S.around = []
        · rw [decide_eq_false (fun q => q ha)]
          rw [if_pos ha] at hr0
          rw [hr0] at k
          exact iteF (k H' At s1)
        · rw [decide_eq_true ha]
          rw [if_neg ha] at hr0
          refine iteT ⟨_, rfl, a.p, C, dx, _, _, rfl, hob, W.cl, W.nA, lookA _ _ _, _, rfl, ?_⟩
          exact fun H2 d2 S2 h2 => errK hr0 s1 H2 d2 (fun b u q => S2 _ _ (hidS_in _ _ b u q)) h2
end
end K1
set_option maxHeartbeats 4000000
/-! a scan is made -/
namespace K1
open PySem L2
/-- an object whose attributes are put one by one -/
structure Bld (C dx p : Addr) (H0 H : Hp) (fs : List (Str × V)) (L : List (Addr × List V)) : Prop where
  ins : H p = some (.ins C dx fs)
  old : Same (hidS [p] H0) H
  lst : ∀ r ∈ L, H r.1 = some (.lst r.2) ∧ H0 r.1 = none ∧ r.1 ≠ p
  nd : (L.map (·.1)).Nodup
theorem Bld.set {C dx p : Addr} {H0 H : Hp} {fs fs' : List (Str × V)} {L : List (Addr × List V)} (b : Bld C dx p H0 H fs L) : Bld C dx p H0 (upd H p (.ins C dx fs')) fs' L := by
  refine ⟨upd_same, fun x u e => ?_, fun r hr => ?_, b.nd⟩
  · have : x ≠ p := fun q => (hidS_at e).1 (by simp [q])
    rw [upd_ne this]
    exact b.old _ _ e
  · obtain ⟨h1, h2, h3⟩ := b.lst r hr
    exact ⟨by rw [upd_ne h3]; exact h1, h2, h3⟩
theorem Bld.new {C dx p q : Addr} {H0 H : Hp} {fs : List (Str × V)} {L : List (Addr × List V)} {xs : List V} (b : Bld C dx p H0 H fs L) (nq : H q = none) : Bld C dx p H0 (upd H q (.lst xs)) fs (L ++ [(q, xs)]) := by
  have qp : q ≠ p := fun e => by rw [e, b.ins] at nq; cases nq
  refine ⟨by rw [upd_ne (Ne.symm qp)]; exact b.ins, b.old.trans (K0.same_upd nq), fun r hr => ?_, ?_⟩
  · rcases List.mem_append.mp hr with h | h
    · obtain ⟨h1, h2, h3⟩ := b.lst r h
      exact ⟨by rw [upd_ne (ne_of_none h1 nq)]; exact h1, h2, h3⟩
    · rw [List.mem_singleton.mp h]
      refine ⟨upd_same, ?_, qp⟩
      cases e : H0 q with
      | none => rfl
      | some u =>
        have z := b.old q u (hidS_of (by simp [qp]) e)
        rw [nq] at z
        cases z
  · rw [List.map_append, List.nodup_append]
    refine ⟨b.nd, by simp, fun x hx y hy => ?_⟩
    obtain ⟨r, hr, rfl⟩ := List.mem_map.mp hx
    have : y = q := by simpa using hy
    rw [this]
    exact ne_of_none (b.lst r hr).1 nq
/-- a made scan -/
def iniPost (K : PySem.W.Frag) (C B p : Addr) (H : Hp) (z : Str) (Q : VK) (E : XK) : Nat ⊕ Sc → Prop
  | .inl e => ∀ H' d, Same (hidS [p] H) H' → H' d = some (.xd [("told", natV e)]) → E (.ref B) (some d) H'
  | .inr S' => ∀ H' a, a.p = p → ScAt K C H' a z S' → Same (hidS [p] H) H' → Q .non H'
/-- what a scan is made of: a text, or none -/
def srcPost (K : PySem.W.Frag) (H : Hp) (v : V) (non : Prop) (post : Str → Nat ⊕ Sc → Prop) : Prop := ((∃ d, DQ K H v d ∧ kitB (tyD d) "str" = some false) ∧ non) ∨ ∃ z r, v = .str z ∧ z.length ≤ 2000 ∧ ScanR z.cps.toList r ∧ post z r
def spIniS (K : PySem.W.Frag) (C B : Addr) : Sp := fun vs H Q E => ∃ (p dx : Addr) (v : V), vs = [.ref p, v] ∧ H p = some (.ins C dx []) ∧ srcPost K H v (iniPost K C B p H ⟨#[]⟩ Q E (.inl 0)) (fun z r => iniPost K C B p H z Q E r)
section
variable {P : Program} {w : World} {K : PySem.W.Frag} {mg : Str → Option Value} {base : Heap}
theorem sc_inis : FnScope ["self", "text"] ["self", "text"] (defScope (inClass (top 16) 0)) := ⟨rfl, rfl, rfl, by decide +kernel, rfl, by decide +kernel, by decide +kernel⟩
theorem ok_inis {C B fI f : Addr} {fd : FuncData} (F : Fun K "__init__" "Scan.__init__" (inClass (top 16) 0) f fd) (T : All K mg) (W : ScC K mg C) (R : Er K mg "BadText" B fI) : FnOk P w K mg base (L2.CX P w) 8 f fd ["self", "text"] (spIniS K C B) := by
  obtain ⟨fR, fdR, FR, bR, mR⟩ := W.run
  have GR : FnOk P w K mg base (L2.CX P w) 7 fR fdR ["self"] (spRun K C B) := ok_run FR T W R
  refine F.okX sc_inis (fun vs H Q E h => ?_) (fun cdv A outer s H vs Q E hr h => ?_)
  · obtain ⟨p, dx, v, rfl, _⟩ := h
    rfl
  · obtain ⟨p, dx, v, rfl, hp, hv⟩ := h
    refine ⟨_, (pss_cons (ps_if (pt_not (pt_val (pe_callB call_isi (by rfl) T.bi.isi (by decide +kernel) (pa_cons (pv 1) (pa_cons (pe_bltn (v := .ty "str") (by rfl) T.bi.str (by decide +kernel) rfl) pa_nil))))) (pss_one (ps_raise rfl (takes_of rfl rfl rfl rfl) (pmk_err R hr (by decide) (pa_cons pe_int pa_nil)))) pss_nil)
      (pss_cons (ps_fld (pv 0) (pe_lst pa_nil) rfl)
      (pss_cons (ps_fld (pv 0) (pe_lst pa_nil) rfl)
      (pss_cons (ps_fld (pv 0) (pe_lst pa_nil) rfl)
      (pss_cons (ps_fld (pv 0) (pe_lst pa_nil) rfl)
      (pss_cons (ps_fld (pv 0) (pv 1) rfl)
      (pss_cons (ps_fld (pv 0) pe_int rfl)
      (pss_cons (ps_fld (pv 0) (pe_lst pa_nil) rfl)
      (pss_cons (ps_fld (pv 0) (pe_lst (pa_cons pe_int pa_nil)) rfl)
      (pss_one (ps_expr (pe_methS0 (pv 0) W.cl mR GR hr bR (fun σ => passAt (takes_of rfl rfl rfl rfl) σ))))))))))))), ?_⟩
    rcases hv with ⟨⟨d, hd, hk⟩, k⟩ | ⟨z, r, rfl, hz, hR, k⟩
    · refine ⟨_, rfl, v, .ty "str", .type (tyD d), .type "str", false, rfl, .ty "str", tyX_of hd, kit_ty hk, _, rfl, iteT ?_⟩
      exact ⟨_, rfl, fun H2 d2 S2 h2 => k H2 d2 (fun b u q => S2 _ _ (hidS_in _ _ b u q)) h2⟩
    · refine ⟨_, rfl, .str z, .ty "str", .type "str", .type "str", true, rfl, .ty "str", .base (.str z), kit_ty (by decide +kernel), _, rfl, iteF ?_⟩
      have b0 : Bld C dx p H H [] [] := ⟨hp, hidS_in _ _, fun r hr => (by cases hr), List.nodup_nil⟩
      have lst0 : ([] : List V).length ≤ sizeLine := Nat.zero_le _
      refine ⟨Nat.zero_le _, fun q1 n1 => ?_⟩
      have b1 := b0.new (xs := []) n1
      refine ⟨_, rfl, p, C, dx, _, rfl, b1.ins, W.cl, W.n1, (by decide), ?_⟩
      have b1 := b1.set (fs' := putF "paths" (.ref q1) [])
      generalize upd (upd H q1 (.lst [])) p (.ins C dx (putF "paths" (.ref q1) [])) = H1 at b1 ⊢
      refine ⟨Nat.zero_le _, fun q2 n2 => ?_⟩
      have b2 := b1.new (xs := []) n2
      refine ⟨_, rfl, p, C, dx, _, rfl, b2.ins, W.cl, W.n2, (by show 1 < 1000; decide), ?_⟩
      have b2 := b2.set (fs' := putF "heads" (.ref q2) (putF "paths" (.ref q1) []))
      generalize upd (upd H1 q2 (.lst [])) p (.ins C dx (putF "heads" (.ref q2) (putF "paths" (.ref q1) []))) = H2 at b2 ⊢
      refine ⟨Nat.zero_le _, fun q3 n3 => ?_⟩
      have b3 := b2.new (xs := []) n3
      refine ⟨_, rfl, p, C, dx, _, rfl, b3.ins, W.cl, W.n3, (by show 2 < 1000; decide), ?_⟩
      have b3 := b3.set (fs' := putF "firsts" (.ref q3) (putF "heads" (.ref q2) (putF "paths" (.ref q1) [])))
      generalize upd (upd H2 q3 (.lst [])) p (.ins C dx (putF "firsts" (.ref q3) (putF "heads" (.ref q2) (putF "paths" (.ref q1) [])))) = H3 at b3 ⊢
      refine ⟨Nat.zero_le _, fun q4 n4 => ?_⟩
      have b4 := b3.new (xs := []) n4
      refine ⟨_, rfl, p, C, dx, _, rfl, b4.ins, W.cl, W.n4, (by show 3 < 1000; decide), ?_⟩
      have b4 := b4.set (fs' := putF "behinds" (.ref q4) (putF "firsts" (.ref q3) (putF "heads" (.ref q2) (putF "paths" (.ref q1) []))))
      generalize upd (upd H3 q4 (.lst [])) p (.ins C dx (putF "behinds" (.ref q4) (putF "firsts" (.ref q3) (putF "heads" (.ref q2) (putF "paths" (.ref q1) []))))) = H4 at b4 ⊢
      refine ⟨_, rfl, _, rfl, p, C, dx, _, rfl, b4.ins, W.cl, W.nT, (by show 4 < 1000; decide), ?_⟩
      have b5 := b4.set (fs' := putF "_text" (.str z) (putF "behinds" (.ref q4) (putF "firsts" (.ref q3) (putF "heads" (.ref q2) (putF "paths" (.ref q1) [])))))
      generalize upd H4 p (.ins C dx (putF "_text" (.str z) (putF "behinds" (.ref q4) (putF "firsts" (.ref q3) (putF "heads" (.ref q2) (putF "paths" (.ref q1) [])))))) = H5 at b5 ⊢
      refine ⟨_, rfl, p, C, dx, _, rfl, b5.ins, W.cl, W.nA, (by show 5 < 1000; decide), ?_⟩
      have b6 := b5.set (fs' := putF "_at" (.int 0) (putF "_text" (.str z) (putF "behinds" (.ref q4) (putF "firsts" (.ref q3) (putF "heads" (.ref q2) (putF "paths" (.ref q1) []))))))
      generalize upd H5 p (.ins C dx (putF "_at" (.int 0) (putF "_text" (.str z) (putF "behinds" (.ref q4) (putF "firsts" (.ref q3) (putF "heads" (.ref q2) (putF "paths" (.ref q1) []))))))) = H6 at b6 ⊢
      refine ⟨Nat.zero_le _, fun q5 n5 => ?_⟩
      have b7 := b6.new (xs := []) n5
      refine ⟨_, rfl, p, C, dx, _, rfl, b7.ins, W.cl, W.n5, (by show 6 < 1000; decide), ?_⟩
      have b7 := b7.set (fs' := putF "_around" (.ref q5) (putF "_at" (.int 0) (putF "_text" (.str z) (putF "behinds" (.ref q4) (putF "firsts" (.ref q3) (putF "heads" (.ref q2) (putF "paths" (.ref q1) [])))))))
      generalize upd (upd H6 q5 (.lst [])) p (.ins C dx (putF "_around" (.ref q5) (putF "_at" (.int 0) (putF "_text" (.str z) (putF "behinds" (.ref q4) (putF "firsts" (.ref q3) (putF "heads" (.ref q2) (putF "paths" (.ref q1) [])))))))) = H7 at b7 ⊢
      refine ⟨sizeL (by decide) (m := 1), fun q6 n6 => ?_⟩
      have b8 := b7.new (xs := [.int 0]) n6
      refine ⟨_, rfl, p, C, dx, _, rfl, b8.ins, W.cl, W.n6, (by show 7 < 1000; decide), ?_⟩
      have b8 := b8.set (fs' := putF "_counts" (.ref q6) (putF "_around" (.ref q5) (putF "_at" (.int 0) (putF "_text" (.str z) (putF "behinds" (.ref q4) (putF "firsts" (.ref q3) (putF "heads" (.ref q2) (putF "paths" (.ref q1) []))))))))
      generalize upd (upd H7 q6 (.lst [.int 0])) p (.ins C dx (putF "_counts" (.ref q6) (putF "_around" (.ref q5) (putF "_at" (.int 0) (putF "_text" (.str z) (putF "behinds" (.ref q4) (putF "firsts" (.ref q3) (putF "heads" (.ref q2) (putF "paths" (.ref q1) []))))))))) = H8 at b8 ⊢
      have l1 := b8.lst (q1, []) (by simp)
      have l2 := b8.lst (q2, []) (by simp)
      have l3 := b8.lst (q3, []) (by simp)
      have l4 := b8.lst (q4, []) (by simp)
      have l5 := b8.lst (q5, []) (by simp)
      have l6 := b8.lst (q6, [.int 0]) (by simp)
      have nd : [q1, q2, q3, q4, q5, q6].Nodup := b8.nd
      have At : ScAt K C H8 ⟨p, q1, q2, q3, q4, q5, q6⟩ z sc0 := by
        refine ⟨⟨dx, b8.ins⟩, ⟨[], l1.1, .nil⟩, ⟨[], l2.1, .nil⟩, l3.1, l4.1, l5.1, l6.1, ?_⟩
        refine List.nodup_cons.mpr ⟨fun hm => ?_, nd⟩
        have hm : p ∈ [q1, q2, q3, q4, q5, q6] := hm
        simp only [List.mem_cons, List.not_mem_nil, or_false] at hm
        rcases hm with h | h | h | h | h | h
        · exact l1.2.2 h.symm
        · exact l2.2.2 h.symm
        · exact l3.2.2 h.symm
        · exact l4.2.2 h.symm
        · exact l5.2.2 h.symm
        · exact l6.2.2 h.symm
      have fr : Same (hidS [p] H) (hidS (Ad.L ⟨p, q1, q2, q3, q4, q5, q6⟩) H8) := fun b u e => by
        obtain ⟨e1, e2⟩ := hidS_at e
        refine hidS_of (fun hm => ?_) (b8.old _ _ e)
        unfold Ad.L at hm
        simp only [List.mem_cons, List.not_mem_nil, or_false] at hm
        rcases hm with h | h | h | h | h | h | h
        · exact e1 (by simp [h])
        · rw [h, l1.2.1] at e2; cases e2
        · rw [h, l2.2.1] at e2; cases e2
        · rw [h, l3.2.1] at e2; cases e2
        · rw [h, l4.2.1] at e2; cases e2
        · rw [h, l5.2.1] at e2; cases e2
        · rw [h, l6.2.1] at e2; cases e2
      refine ⟨_, rfl, p, dx, _, rfl, b8.ins, by rfl, ⟨p, q1, q2, q3, q4, q5, q6⟩, z, r, rfl, At, hz, hR, ?_⟩
      cases r with
      | inl e => exact fun H' d s1 hd => k H' d (fr.trans s1) hd
      | inr S' => exact fun H' At' s1 => k H' _ rfl At' (fr.trans (s1.trans (hidS_in _ _)))
end
end K1
set_option maxHeartbeats 4000000
/-! the items that are drawn -/
namespace K1
open PySem L2
def nameC : List (List Nat) := [[97], [98], [97, 98], [120, 49], [98, 49, 50], [122, 122, 122, 122], [113, 57, 57]]
def nameV : List V := [.str "a", .str "b", .str "ab", .str "x1", .str "b12", .str "zzzz", .str "q99"]
def nameD' : List PyData := nameC.map fun w => .str (sO w)
theorem nameV_eq : nameV = nameC.map fun w => V.str (sO w) := by decide +kernel
theorem delim_fig {rest : List Nat} (d : Delim rest) : sgM isFig rest = false := by
  rcases d with rfl | ⟨r, rfl⟩ | ⟨r, rfl⟩ <;> rfl
theorem delim2 {rest : List Nat} (d : Delim2 rest) : Delim rest := by
  rcases d with ⟨c, r, rfl, _⟩ | ⟨r, rfl⟩
  · exact .inr (.inl ⟨_, rfl⟩)
  · exact .inr (.inr ⟨_, rfl⟩)
theorem br_of {S : List Nat} (h1 : sgM (fun c => c == 43) S = false) (h2 : sgM (fun c => c == 42) S = false) (h3 : (S.drop (wE S)).take 2 ≠ [32, 61]) : brM S = ([.str "block"], 1) := by
  unfold brM
  rw [h1, h2, if_neg Bool.false_ne_true, if_neg Bool.false_ne_true, if_neg (fun q => h3 q.2)]
theorem leaf_use (w : List Nat) (h : w ∈ nameC) : LeafOk [.str "use", .str (sO w)] w := by
  unfold nameC at h
  simp only [List.mem_cons, List.not_mem_nil, or_false] at h
  rcases h with rfl | rfl | rfl | rfl | rfl | rfl | rfl
  all_goals
    refine ⟨fun rest d => ?_, fun rest d => ?_, by decide +kernel, ⟨_, _, rfl, by decide, by decide, by decide⟩⟩
    · rcases d with rfl | ⟨r, rfl⟩ | ⟨r, rfl⟩ <;> rfl
    · rcases d with ⟨c, r, rfl, hc⟩ | ⟨r, rfl⟩
      · exact br_of rfl rfl (fun h => hc (List.cons.inj (List.cons.inj (show [32, c] = [32, 61] from h)).2).1)
      · rfl
theorem leaf_lost : LeafOk [.str "lost"] [63] := ⟨fun rest d => rfl, fun rest d => rfl, by decide +kernel, ⟨63, [], rfl, by decide, by decide, by decide⟩⟩
def numC (m : Nat) : List Nat := if m < 10 then [48 + m] else [48 + m / 10, 48 + m % 10]
theorem num_text : ∀ m : Fin 100, Str.ofString (toString ((m.val : Nat) : Int)) = sO (numC m.val) := by decide +kernel
theorem br_num {c : Nat} {t : List Nat} (h : isFig c = true) : brM (c :: t) = ([.str "block"], 1) := by
  have hl : isLet c = false := by
    unfold isFig at h
    unfold isLet
    simp only [Bool.and_eq_true, decide_eq_true_eq] at h
    rw [decide_eq_false (by omega)]
    rfl
  have w0 : wE (c :: t) = 0 := by
    have e : lE 4 (c :: t) = 0 := by
      show (if isLet c = true then _ else 0) = 0
      rw [hl]
      rfl
    unfold wE
    rw [if_pos e]
  unfold isFig at h
  simp only [Bool.and_eq_true, decide_eq_true_eq] at h
  have n1 : sgM (fun d => d == 43) (c :: t) = false := by show (c == 43) = false; simp; omega
  have n2 : sgM (fun d => d == 42) (c :: t) = false := by show (c == 42) = false; simp; omega
  unfold brM
  rw [n1, n2, w0, if_neg Bool.false_ne_true, if_neg Bool.false_ne_true, if_neg (fun q => Nat.lt_irrefl _ q.1)]
theorem hd_num {c : Nat} {t : List Nat} {n : Nat} (h : isFig c = true) (hn : nE (c :: t) = n) (h0 : 0 < n) : hdM (c :: t) = some ([.str "number", .int (numL ((c :: t).take n))], n) := by
  have hl : isLet c = false := by
    unfold isFig at h
    unfold isLet
    simp only [Bool.and_eq_true, decide_eq_true_eq] at h
    rw [decide_eq_false (by omega)]
    rfl
  have w0 : wE (c :: t) = 0 := by
    have e : lE 4 (c :: t) = 0 := by
      show (if isLet c = true then _ else 0) = 0
      rw [hl]
      rfl
    unfold wE
    rw [if_pos e]
  unfold isFig at h
  simp only [Bool.and_eq_true, decide_eq_true_eq] at h
  have n1 : sgM (fun d => d == 40) (c :: t) = false := by show (c == 40) = false; simp; omega
  have n2 : sgM (fun d => d == 63) (c :: t) = false := by show (c == 63) = false; simp; omega
  unfold hdM
  rw [n1, n2, w0, hn, if_neg Bool.false_ne_true, if_neg Bool.false_ne_true, if_neg (Nat.lt_irrefl _), if_pos h0]
theorem hold_num (y : PyData) : holdH [.str "number", y] = false := by
  show ((("number" : Str) == "block" || ("number" : Str) == "let" || ("number" : Str) == "sum" || ("number" : Str) == "product")) = false
  decide +kernel
theorem leaf_num (m : Nat) (hm : m < 100) : LeafOk [.str "number", .int (m : Int)] (numC m) := by
  unfold numC
  by_cases h : m < 10
  · rw [if_pos h]
    have hf : isFig (48 + m) = true := by unfold isFig; simp; omega
    refine ⟨fun rest d => ?_, fun rest d => br_num hf, hold_num _, ⟨_, _, rfl, by omega, by omega, by omega⟩⟩
    have hn : nE ([48 + m] ++ rest) = 1 := by
      unfold nE
      by_cases h0 : m = 0
      · rw [if_pos (by show (48 + m == 48) = true; rw [h0]; rfl)]
      · rw [if_neg (by show ¬ (48 + m == 48) = true; simp; omega)]
        unfold pE
        rw [if_pos (by show isFst (48 + m) = true; unfold isFst; simp; omega), if_neg]
        have : ([48 + m] ++ rest).drop 1 = rest := rfl
        rw [this, delim_fig d]
        exact Bool.false_ne_true
    have e := hd_num (t := rest) hf hn (by decide)
    show hdM ((48 + m) :: rest) = _
    rw [e]
    have z : numL (((48 + m) :: rest).take 1) = (m : Int) := by
      show 10 * 0 + (((48 + m : Nat) : Int) - 48) = (m : Int)
      omega
    rw [z]
    rfl
  · rw [if_neg h]
    have hf : isFig (48 + m / 10) = true := by unfold isFig; simp; omega
    refine ⟨fun rest d => ?_, fun rest d => br_num hf, hold_num _, ⟨_, _, rfl, by omega, by omega, by omega⟩⟩
    have hn : nE ([48 + m / 10, 48 + m % 10] ++ rest) = 2 := by
      unfold nE
      rw [if_neg (by show ¬ (48 + m / 10 == 48) = true; simp; omega)]
      unfold pE
      rw [if_pos (by show isFst (48 + m / 10) = true; unfold isFst; simp; omega), if_pos (by show isFig (48 + m % 10) = true; unfold isFig; simp; omega)]
    have e := hd_num (t := (48 + m % 10) :: rest) hf hn (by decide)
    show hdM ((48 + m / 10) :: (48 + m % 10) :: rest) = _
    rw [e]
    have z : numL (((48 + m / 10) :: (48 + m % 10) :: rest).take 2) = (m : Int) := by
      show 10 * (10 * 0 + (((48 + m / 10 : Nat) : Int) - 48)) + (((48 + m % 10 : Nat) : Int) - 48) = (m : Int)
      omega
    rw [z]
    rfl
theorem node_let (w : List Nat) (h : w ∈ nameC) : NodeOk [.str "let", .str (sO w)] (40 :: (w ++ [32, 61])) false := by
  unfold nameC at h
  simp only [List.mem_cons, List.not_mem_nil, or_false] at h
  rcases h with rfl | rfl | rfl | rfl | rfl | rfl | rfl
  all_goals exact .other (fun rest => rfl) (by decide +kernel) rfl ⟨_, rfl⟩
theorem node_sum : NodeOk [.str "sum"] [40, 43] false := .other (fun rest => rfl) (by decide +kernel) (by decide +kernel) ⟨_, rfl⟩
theorem node_product : NodeOk [.str "product"] [40, 42] false := .other (fun rest => rfl) (by decide +kernel) (by decide +kernel) ⟨_, rfl⟩
/-! ### how large they are -/
def wB : Nat → Nat
  | 0 => 4
  | n + 1 => 8 + 3 * (wB n + 1)
end K1
set_option maxHeartbeats 4000000
/-! drawn items: their sizes; data that no list of the heap is part of -/
namespace K1
open PySem L2
mutual
inductive Flat : PyData → Prop
  | non : Flat .none
  | bl (b : Bool) : Flat (.bool b)
  | int (i : Int) : Flat (.int i)
  | str (x : Str) : Flat (.str x)
  | tup {ds : List PyData} : Flats ds → Flat (.tuple ds)
inductive Flats : List PyData → Prop
  | nil : Flats []
  | cons {d : PyData} {ds : List PyData} : Flat d → Flats ds → Flats (d :: ds)
end
theorem Flats.of : ∀ {ds : List PyData}, (∀ d ∈ ds, Flat d) → Flats ds
  | [], _ => .nil
  | d :: ds, h => .cons (h d List.mem_cons_self) (Flats.of fun e he => h e (List.mem_cons_of_mem _ he))
theorem hideT {K : PySem.W.Frag} {H : Hp} {a b : Addr} {us xs : List V} (ha : H a = some (.lst us)) (h : SqT K H b xs) : SqT K (hid a H) b xs := by
  rcases h with (h | ⟨o, h⟩) | h
  · refine .inl (.inl ?_)
    rw [hid_ne (fun z => by rw [z, ha] at h; cases h)]
    exact h
  · refine .inl (.inr ⟨o, ?_⟩)
    rw [hid_ne (fun z => by rw [z, ha] at h; cases h)]
    exact h
  · exact .inr h
mutual
theorem Flat.hide {K : PySem.W.Frag} {H : Hp} {a : Addr} {us : List V} (ha : H a = some (.lst us)) : ∀ (d : PyData) (v : V), Flat d → DQ K H v d → DQ K (hid a H) v d
  | .none, _, _, h => by
    cases h
    exact .non
  | .bool b, _, _, h => by
    cases h
    exact .bl b
  | .int i, _, _, h => by
    cases h
    exact .int i
  | .str x, _, _, h => by
    cases h with
    | str _ h => exact .str x h
  | .list ds, _, f, _ => by cases f
  | .tuple ds, _, f, h => by
    cases f with
    | tup f =>
      cases h with
      | tup h1 h2 => exact .tup (hideT ha h1) (Flats.hide ha ds _ f h2)
  | .dict ps, _, f, _ => by cases f
theorem Flats.hide {K : PySem.W.Frag} {H : Hp} {a : Addr} {us : List V} (ha : H a = some (.lst us)) : ∀ (ds : List PyData) (vs : List V), Flats ds → DQs K H vs ds → DQs K (hid a H) vs ds
  | [], _, _, h => by
    cases h
    exact .nil
  | d :: ds, _, f, h => by
    cases f with
    | cons f1 f2 =>
      cases h with
      | cons h1 h2 => exact .cons (Flat.hide ha d _ f1 h1) (Flats.hide ha ds _ f2 h2)
end
/-- held against an empty one -/
def rEqE (K : PySem.W.Frag) : R2 := fun x y H Q => ∃ a b xs, x = .ref a ∧ y = .ref b ∧ ((SqL K H a xs ∧ SqL K H b []) ∨ (SqT K H a xs ∧ SqT K H b [])) ∧ Q (.bl xs.isEmpty) H
theorem op_eqE {X : Cx} (hu : X.A.units + 64 < cLine) : OpR X (compareOp .Eq) (rEqE X.K) := by
  intro pins s σ H x y v u Q I rx ry h
  obtain ⟨a, b, xs, rfl, rfl, h, q⟩ := h
  cases rx
  cases ry
  rcases h with ⟨h1, h2⟩ | ⟨h1, h2⟩
  · obtain ⟨us, r1, p1, _⟩ := I.list h1
    obtain ⟨ws, r2, p2, _⟩ := I.list h2
    cases r2
    cases r1 with
    | nil => exact SeqAt.eq_listAt (e := fun _ => true) p1.isList p2.isList rfl (by omega) (fun j h1 h2 => absurd h2 (Nat.not_lt_zero j)) ⟨.bl true, H, I, rfl, q⟩
    | cons r1 rs => exact SeqAt.eq_list_lengthsAt p1.isList p2.isList (by simp) (by omega) ⟨.bl false, H, I, rfl, q⟩
  · obtain ⟨us, r1, p1, _⟩ := I.tuple h1
    obtain ⟨ws, r2, p2, _⟩ := I.tuple h2
    cases r2
    refine SeqAt.eq_tupleAt (e := fun _ => true) p1 p2 (by omega) (fun j h1 h2 => absurd h2 (Nat.not_lt_zero j)) ⟨.bl xs.isEmpty, H, I, ?_, q⟩
    cases r1 with
    | nil => rfl
    | cons r1 rs => show Value.bool _ = Value.bool false; simp
def rNeE (K : PySem.W.Frag) : R2 := fun x y H Q => ∃ a b xs, x = .ref a ∧ y = .ref b ∧ SqL K H a xs ∧ SqL K H b [] ∧ Q (.bl !xs.isEmpty) H
theorem op_neE {X : Cx} (hu : X.A.units + 64 < cLine) : OpR X (compareOp .NotEq) (rNeE X.K) := by
  intro pins s σ H x y v u Q I rx ry h
  obtain ⟨a, b, xs, rfl, rfl, h1, h2, q⟩ := h
  cases rx
  cases ry
  obtain ⟨us, r1, p1, _⟩ := I.list h1
  obtain ⟨ws, r2, p2, _⟩ := I.list h2
  cases r2
  cases r1 with
  | nil => exact SeqAt.RcNeAt.lists (e := fun _ => true) p1.isList p2.isList rfl (by omega) (fun j h1 h2 => absurd h2 (Nat.not_lt_zero j)) _ _ _ _ ⟨.bl false, H, I, rfl, q⟩
  | cons r1 rs => exact SeqAt.RcNeAt.lists_lengths p1.isList p2.isList (by simp) (by omega) _ _ _ _ ⟨.bl true, H, I, rfl, q⟩
/-- a leaf as it is drawn -/
inductive LfK : List PyData → List Nat → Prop
  | num (m : Nat) (h : m < 100) : LfK [.str "number", .int (m : Int)] (numC m)
  | lost : LfK [.str "lost"] [63]
  | use (w : List Nat) (h : w ∈ nameC) : LfK [.str "use", .str (sO w)] w
inductive NdK : List PyData → List Nat → Bool → Prop
  | block : NdK [.str "block"] [40] true
  | sum : NdK [.str "sum"] [40, 43] false
  | product : NdK [.str "product"] [40, 42] false
  | let_ (w : List Nat) (h : w ∈ nameC) : NdK [.str "let", .str (sO w)] (40 :: (w ++ [32, 61])) false
inductive Dr : Nat → It → Prop
  | leaf {n : Nat} {h : List PyData} {w : List Nat} (k : LfK h w) : Dr n (.leaf h w)
  | node {n : Nat} {h : List PyData} {o : List Nat} {b : Bool} {l : List It} (k : NdK h o b) (hl : l.length ≤ 3) (hc : ∀ x ∈ l, Dr n x) : Dr (n + 1) (.node h o b l)
theorem LfK.ok {h : List PyData} {w : List Nat} (k : LfK h w) : LeafOk h w := by
  cases k with
  | num m h => exact leaf_num m h
  | lost => exact leaf_lost
  | use w h => exact leaf_use w h
theorem NdK.ok {h : List PyData} {o : List Nat} {b : Bool} (k : NdK h o b) : NodeOk h o b := by
  cases k with
  | block => exact .block
  | sum => exact node_sum
  | product => exact node_product
  | let_ w h => exact node_let w h
theorem Dr.gd {n : Nat} {x : It} (d : Dr n x) : Gd n x := by
  induction d with
  | leaf k => exact .leaf k.ok
  | node k hl _ ih => exact .node k.ok hl ih
theorem name_len {w : List Nat} (h : w ∈ nameC) : 1 ≤ w.length ∧ w.length ≤ 4 ∧ ∀ c ∈ w, c < 200 := by
  unfold nameC at h
  simp only [List.mem_cons, List.not_mem_nil, or_false] at h
  rcases h with rfl | rfl | rfl | rfl | rfl | rfl | rfl <;> decide
theorem LfK.len {h : List PyData} {w : List Nat} (k : LfK h w) : w.length ≤ 4 := by
  cases k with
  | num m h => unfold numC; split <;> simp
  | lost => decide
  | use w h => exact (name_len h).2.1
theorem NdK.len {h : List PyData} {o : List Nat} {b : Bool} (k : NdK h o b) : o.length ≤ 7 := by
  cases k with
  | block => decide
  | sum => decide
  | product => decide
  | let_ w h =>
    have := (name_len h).2.1
    simp only [List.length_cons, List.length_append, List.length_nil]
    omega
theorem gapped_len {B : Nat} : ∀ {l : List It}, (∀ x ∈ l, x.word.length ≤ B) → (gapped l).length ≤ l.length * (B + 1)
  | [], _ => by rw [gapped]; exact Nat.zero_le _
  | x :: r, h => by
    have h1 := h x List.mem_cons_self
    have h2 := gapped_len (B := B) (l := r) fun y hy => h y (List.mem_cons_of_mem _ hy)
    rw [gapped, List.length_cons, List.length_append, List.length_cons, Nat.succ_mul]
    omega
theorem Dr.len {n : Nat} {x : It} (d : Dr n x) : x.word.length ≤ wB n := by
  induction d with
  | @leaf n h w k =>
    rw [It.word]
    have := k.len
    cases n with
    | zero => exact this
    | succ n => show _ ≤ 8 + 3 * (wB n + 1); omega
  | @node n h o b l k hl _ ih =>
    rw [word_node]
    have h1 := gapped_len ih
    have h2 := k.len
    have h3 : (if b = true then (gapped l).drop 1 else gapped l).length ≤ (gapped l).length := by
      split
      · rw [List.length_drop]; omega
      · exact Nat.le_refl _
    rw [List.length_append, List.length_append]
    have h4 : l.length * (wB n + 1) ≤ 3 * (wB n + 1) := Nat.mul_le_mul_right _ hl
    show _ ≤ 8 + 3 * (wB n + 1)
    simp only [List.length_cons, List.length_nil]
    omega
def cB : Nat → Nat
  | 0 => 1
  | n + 1 => 1 + 3 * cB n
theorem cB_pos (n : Nat) : 1 ≤ cB n := by cases n <;> simp [cB] <;> omega
theorem rowsL_len {B : Nat} : ∀ {l : List It} {p : List Int} {k a : Nat}, (∀ x ∈ l, ∀ p a, (x.rows p a).length ≤ B) → (rowsL p k a l).length ≤ l.length * B
  | [], p, k, a, _ => by rw [rowsL]; exact Nat.zero_le _
  | x :: r, p, k, a, h => by
    rw [rowsL, List.length_append, List.length_cons, Nat.succ_mul]
    have h1 := h x List.mem_cons_self (p ++ [(k : Int)]) a
    have h2 := rowsL_len (B := B) (l := r) (p := p) (k := k + 1) (a := a + x.word.length + 1) fun y hy => h y (List.mem_cons_of_mem _ hy)
    omega
theorem Dr.rows {n : Nat} {x : It} (d : Dr n x) : ∀ p a, (x.rows p a).length ≤ cB n := by
  induction d with
  | @leaf n h w k =>
    intro p a
    rw [It.rows]
    exact cB_pos n
  | @node n h o b l k hl _ ih =>
    intro p a
    rw [It.rows, List.length_cons]
    have h1 := rowsL_len (p := p) (k := 0) (a := a + o.length + if b = true then 0 else 1) ih
    have h4 : l.length * cB n ≤ 3 * cB n := Nat.mul_le_mul_right _ hl
    show _ ≤ 1 + 3 * cB n
    omega
theorem datL_map : ∀ l : List It, datL l = l.map It.dat
  | [] => by rw [datL]; rfl
  | x :: r => by rw [datL, datL_map r]; rfl
theorem Flats.app {ds es : List PyData} (h : Flats ds) (g : Flats es) : Flats (ds ++ es) := by
  induction ds with
  | nil => exact g
  | cons d ds ih =>
    cases h with
    | cons h1 h2 => exact .cons h1 (ih h2)
theorem LfK.flat {h : List PyData} {w : List Nat} (k : LfK h w) : Flats h := by
  cases k with
  | num m _ => exact .cons (.str _) (.cons (.int _) .nil)
  | lost => exact .cons (.str _) .nil
  | use w _ => exact .cons (.str _) (.cons (.str _) .nil)
theorem NdK.flat {h : List PyData} {o : List Nat} {b : Bool} (k : NdK h o b) : Flats h := by
  cases k with
  | block => exact .cons (.str _) .nil
  | sum => exact .cons (.str _) .nil
  | product => exact .cons (.str _) .nil
  | let_ w _ => exact .cons (.str _) (.cons (.str _) .nil)
theorem Dr.flat {n : Nat} {x : It} (d : Dr n x) : Flat x.dat := by
  induction d with
  | @leaf n h w k => rw [It.dat]; exact .tup k.flat
  | @node n h o b l k hl _ ih =>
    rw [It.dat, datL_map]
    refine .tup (k.flat.app (.cons (.tup (Flats.of fun e he => ?_)) .nil))
    obtain ⟨y, hy, rfl⟩ := List.mem_map.mp he
    exact ih y hy
theorem str_small {w : List Nat} (h : ∀ c ∈ w, c < 200) : (sO w).cps.toList.all (fun c => decide (c < 16 ^ 8)) = true := by
  rw [sO_cps, List.all_eq_true]
  intro c hc
  exact decide_eq_true (Nat.lt_of_lt_of_le (h c hc) (by decide))
def dB : Nat → Nat
  | 0 => 30
  | n + 1 => 3 * (3 * (dB n + 1) + 1)
theorem dB_low (n : Nat) : 30 ≤ dB n := by
  induction n with
  | zero => exact Nat.le_refl _
  | succ n ih => show 30 ≤ 3 * (3 * (dB n + 1) + 1); omega
theorem nice_lit {x : String} (h : (Str.ofString x).length ≤ 13) (hc : (Str.ofString x).cps.toList.all (fun c => decide (c < 16 ^ 8)) = true) : Nice 0 14 (.str (Str.ofString x)) := (nice_str h hc).mono (Nat.le_refl _) (by decide)
theorem LfK.nice {h : List PyData} {w : List Nat} (k : LfK h w) : (∀ d ∈ h, Nice 0 14 d) ∧ h.length ≤ 2 := by
  cases k with
  | num m hm =>
    refine ⟨fun d hd => ?_, by simp⟩
    simp only [List.mem_cons, List.not_mem_nil, or_false] at hd
    rcases hd with rfl | rfl
    · exact nice_lit (by decide +kernel) (by decide +kernel)
    · exact nice_int (by omega)
  | lost =>
    refine ⟨fun d hd => ?_, by simp⟩
    rw [List.mem_singleton.mp hd]
    exact nice_lit (by decide +kernel) (by decide +kernel)
  | use w hw =>
    refine ⟨fun d hd => ?_, by simp⟩
    simp only [List.mem_cons, List.not_mem_nil, or_false] at hd
    rcases hd with rfl | rfl
    · exact nice_lit (by decide +kernel) (by decide +kernel)
    · obtain ⟨_, h2, h3⟩ := name_len hw
      exact (nice_str (n := 14) (by rw [sO_len]; omega) (str_small h3))
theorem NdK.nice {h : List PyData} {o : List Nat} {b : Bool} (k : NdK h o b) : (∀ d ∈ h, Nice 0 14 d) ∧ h.length ≤ 2 := by
  cases k with
  | block =>
    refine ⟨fun d hd => ?_, by simp⟩
    rw [List.mem_singleton.mp hd]
    exact nice_lit (by decide +kernel) (by decide +kernel)
  | sum =>
    refine ⟨fun d hd => ?_, by simp⟩
    rw [List.mem_singleton.mp hd]
    exact nice_lit (by decide +kernel) (by decide +kernel)
  | product =>
    refine ⟨fun d hd => ?_, by simp⟩
    rw [List.mem_singleton.mp hd]
    exact nice_lit (by decide +kernel) (by decide +kernel)
  | let_ w hw =>
    refine ⟨fun d hd => ?_, by simp⟩
    simp only [List.mem_cons, List.not_mem_nil, or_false] at hd
    rcases hd with rfl | rfl
    · exact nice_lit (by decide +kernel) (by decide +kernel)
    · obtain ⟨_, h2, h3⟩ := name_len hw
      exact (nice_str (n := 14) (by rw [sO_len]; omega) (str_small h3))
theorem Nice.tuple' {k W n : Nat} {ds : List PyData} (h : ∀ d ∈ ds, Nice k W d) (hl : ds.length ≤ n) : Nice (k + 1) (n * (W + 1)) (.tuple ds) := (Nice.tuple h).mono (Nat.le_refl _) (Nat.mul_le_mul_right _ hl)
theorem items_nice {n : Nat} {l : List It} (hl : l.length ≤ 3) (h : ∀ x ∈ l, Nice (2 * n + 1) (dB n) x.dat) : Nice (2 * n + 2) (3 * (dB n + 1)) (.tuple (datL l)) := by
  rw [datL_map]
  refine Nice.tuple' (fun d hd => ?_) (by rw [List.length_map]; exact hl)
  obtain ⟨y, hy, rfl⟩ := List.mem_map.mp hd
  exact h y hy
theorem Dr.nice {n : Nat} {x : It} (d : Dr n x) : Nice (2 * n + 1) (dB n) x.dat := by
  induction d with
  | @leaf n h w k =>
    rw [It.dat]
    obtain ⟨h1, h2⟩ := k.nice
    exact (Nice.tuple' h1 h2).mono (by omega) (dB_low n)
  | @node n h o b l k hl _ ih =>
    rw [It.dat]
    obtain ⟨h1, h2⟩ := k.nice
    have hi := items_nice hl ih
    have := dB_low n
    refine (Nice.tuple' (k := 2 * n + 2) (W := 3 * (dB n + 1)) (n := 3) (fun d hd => ?_) (by rw [List.length_append]; show h.length + 1 ≤ 3; omega)).mono (by omega) (Nat.le_refl _)
    rcases List.mem_append.mp hd with q | q
    · exact (h1 d q).mono (Nat.zero_le _) (by omega)
    · rw [List.mem_singleton.mp q]
      exact hi
mutual
theorem flat_pure : ∀ (d : PyData), Flat d → Pure d
  | .none, _ => pure_none
  | .bool _, _ => ⟨rfl, rfl⟩
  | .int _, _ => pure_int _
  | .str _, _ => pure_str _
  | .list _, h => by cases h
  | .dict _, h => by cases h
  | .tuple ds, h => by
    cases h with
    | tup f => exact flats_pure ds f
theorem flats_pure : ∀ (ds : List PyData), Flats ds → PyData.hasDictAll ds = false ∧ noListAll ds = true
  | [], _ => ⟨rfl, rfl⟩
  | d :: ds, h => by
    cases h with
    | cons h1 h2 =>
      obtain ⟨a1, a2⟩ := flat_pure d h1
      obtain ⟨b1, b2⟩ := flats_pure ds h2
      refine ⟨?_, ?_⟩
      · show (d.hasDict || PyData.hasDictAll ds) = false
        rw [a1, b1]; rfl
      · show (noList d && noListAll ds) = true
        rw [a2, b2]; rfl
end
theorem Dr.pure {n : Nat} {x : It} (d : Dr n x) : Pure x.dat := by
  have f : ∀ (d : PyData), Flat d → Pure d := by
    intro d h
    exact flat_pure d h
  exact f _ d.flat
end K1
set_option maxHeartbeats 4000000
/-! _law_item, _law_program -/
namespace K1
open PySem L2
theorem Bt.ne {p q : Addr} {H : Hp} (h : Src H p) (n : H q = none) : q ≠ p := fun e => by
  obtain ⟨x, y, z, _⟩ := h
  rw [e, z] at n
  cases n
theorem hid_mono {p : Addr} {H H' : Hp} (s : Same H H') : Same (hid p H) (hid p H') := fun b u e => by
  obtain ⟨h1, h2⟩ := hid_at e
  rw [hid_ne h1]
  exact s _ _ h2
theorem hid_put {p : Addr} {H : Hp} {o : HO} : hid p (upd H p o) = hid p H := by
  funext b
  unfold hid
  by_cases e : b = p
  · rw [if_pos e, if_pos e]
  · rw [if_neg e, if_neg e, upd_ne e]
theorem hid_comm {p q : Addr} {H : Hp} : hid p (hid q H) = hid q (hid p H) := by
  funext b
  unfold hid
  by_cases e : b = p <;> by_cases f : b = q <;> simp [e, f]
/-- texts as data -/
theorem strs_dqs {K : PySem.W.Frag} {H : Hp} : ∀ (ws : List (List Nat)), (∀ w ∈ ws, w.length ≤ 1000) → DQs K H (ws.map fun w => V.str (sO w)) (ws.map fun w => PyData.str (sO w))
  | [], _ => .nil
  | w :: ws, h => .cons (.str _ (by rw [sO_len]; exact h w List.mem_cons_self)) (strs_dqs ws fun x hx => h x (List.mem_cons_of_mem _ hx))
theorem names_dqs {K : PySem.W.Frag} {H : Hp} : DQs K H nameV nameD' := by
  rw [nameV_eq]
  exact strs_dqs nameC fun w hw => Nat.le_trans (name_len hw).2.1 (by decide)
theorem name_b : (V.str "b") = V.str (sO [98]) := by decide +kernel
theorem names_b {K : PySem.W.Frag} {H : Hp} : DQs K H (nameV ++ [.str "b"]) ((nameC ++ [[98]]).map fun w => PyData.str (sO w)) := by
  rw [nameV_eq, name_b]
  have z := strs_dqs (K := K) (H := H) (nameC ++ [[98]]) fun w hw => by
    rcases List.mem_append.mp hw with h | h
    · exact Nat.le_trans (name_len h).2.1 (by decide)
    · rw [List.mem_singleton.mp h]; decide
  rw [List.map_append] at z
  exact z
theorem name_in {d : PyData} (h : d ∈ nameD') : ∃ w ∈ nameC, d = .str (sO w) := by
  obtain ⟨w, hw, rfl⟩ := List.mem_map.mp h
  exact ⟨w, hw, rfl⟩
theorem name_inb {d : PyData} (h : d ∈ (nameC ++ [[98]]).map fun w => PyData.str (sO w)) : ∃ w ∈ nameC, d = .str (sO w) := by
  obtain ⟨w, hw, rfl⟩ := List.mem_map.mp h
  rcases List.mem_append.mp hw with q | q
  · exact ⟨w, q, rfl⟩
  · rw [List.mem_singleton.mp q]
    exact ⟨[98], by decide, rfl⟩
/-- the names as the law gives them -/
def NamesAt (H : Hp) (p l : Addr) : Prop := H l = some (.lst nameV) ∧ l ≠ p
theorem NamesAt.bt {H H' : Hp} {p l : Addr} (h : NamesAt H p l) (b : Bt p H H') : NamesAt H' p l := ⟨b.at h.2 h.1, h.2⟩
def spIt (K : PySem.W.Frag) (n : Nat) : Sp := fun vs H Q _ => ∃ (p l : Addr), vs = [.ref p, .int (n : Int), .ref l] ∧ Src H p ∧ NamesAt H p l ∧ ∀ H' u x, Bt p H H' → Dr n x → DQ K (hid p H') u x.dat → Q u H'
/-- is nothing to be held -/
def tDeep : TT := fun σ H Q => ∃ n r : Int, σ[1]? = some (some (.int n)) ∧ σ[3]? = some (some (.int r)) ∧ Q (decide (n = 0 ∨ r < 4)) H
def tWay3 : TT := fun σ H Q => ∃ (r : Int) (l : Addr), σ[3]? = some (some (.int r)) ∧ σ[2]? = some (some (.ref l)) ∧ H l = some (.lst nameV) ∧ ∀ H', Same H H' → Q (decide (r = 3)) H'
theorem dec_int {a b : Int} : decide (V.int a = V.int b) = decide (a = b) := by
  by_cases h : a = b
  · rw [h, decide_eq_true rfl, decide_eq_true rfl]
  · rw [decide_eq_false h, decide_eq_false fun z => h (by injection z)]
/-- a new tuple of data -/
theorem tup_new {K : PySem.W.Frag} {p q : Addr} {H H' : Hp} {us : List V} {ds : List PyData} (b : Bt p H H') (nq : H' q = none) (h : DQs K (hid p H') us ds) : Bt p H (upd H' q (.tup us)) ∧ DQ K (hid p (upd H' q (.tup us))) (.ref q) (.tuple ds) := by
  have nqp := Bt.ne b.src nq
  exact ⟨b.new nq, .tup (.inl (.inl (by rw [hid_ne nqp, upd_same]))) (h.to (hid_mono (K0.same_upd nq)))⟩
abbrev NI : List Str := ["_law_pool_here", "_law_deep", "_law_names", "_law_way", "_law_items", "_law_turn"]
section
variable {P : Program} {w : World} {K : PySem.W.Frag} {mg : Str → Option Value} {base : Heap}
theorem sc_item : FnScope NI ["_law_pool_here", "_law_deep", "_law_names"] (defScope (top 28)) := ⟨rfl, rfl, rfl, by decide +kernel, rfl, by decide +kernel, by decide +kernel⟩
/-- the test of a drawn item: a leaf, or one that holds others -/
theorem deep_ask {σ : St} {H : Hp} {Q : Bool → Hp → Prop} (hh : tDeep σ H Q) : tOr (tTest (tOp rEq (tVar 1) (tC (.int 0)))) (tTest (tOp (rI0 fun i j => .bl (decide (i < j))) (tVar 3) (tC (.int 4)))) σ H Q := by
  obtain ⟨n, r, h1, h3, q⟩ := hh
  refine ⟨_, h1, rfl, _, rfl, ?_⟩
  rw [dec_int]
  by_cases c : n = 0
  · have e : decide (n = 0 ∨ r < 4) = true := decide_eq_true (.inl c)
    rw [e] at q
    rw [decide_eq_true c]
    exact iteT q
  · have e : decide (n = 0 ∨ r < 4) = decide (r < 4) := by
      by_cases f : r < 4
      · rw [decide_eq_true f, decide_eq_true (.inr f)]
      · rw [decide_eq_false f, decide_eq_false fun z => z.elim c f]
    rw [e] at q
    rw [decide_eq_false c]
    exact iteF ⟨_, h3, _, _, rfl, rfl, _, rfl, q⟩
theorem leaf_rest {n : Nat} : True := trivial
theorem cl_item (T : All K mg) (M : Nms mg) (hrange : mg "range" = none) : ∀ n : Nat, Cl P w K mg base (n + 3) "_law_item" ["_law_pool_here", "_law_deep", "_law_names"] (spIt K n) := by
  obtain ⟨g, fd, D⟩ := T.dn 28 _ _ rfl
  intro n
  induction n with
  | zero =>
    refine D.cl (D.fn.ok sc_item (fun vs H Q E h => ?_) (fun cdv A outer s H vs Q E hr h => ?_))
    · obtain ⟨p, l, rfl, _⟩ := h
      rfl
    · obtain ⟨p, l, rfl, src, hl, k⟩ := h
      refine ⟨_, (pss_cons (ps_set (i := 3) sc_item.nd rfl (Or.inl rfl) (pe_cl (cl_takeB T M) hr (by decide) (pa_cons (pv 0) (pa_cons pe_int pa_nil))))
      (pss_cons (ps_if (pt_imp (t' := tDeep) (PW.pt (pw_or (pt_cmpR op_eq (pv 1) pe_int (nomark _)) (pw_or1 (pt_cmpR op_lt (pv 3) pe_int (nomark _))))) (fun σ H Q hh => deep_ask hh)) (pss_cons (ps_if (pt_imp (t' := tWay3) (PW.pt (pw_or (pt_cmpR op_eq (pv 3) pe_int (nomark _)) (pw_or1 (pt_cmpR (op_eqE hr.units) (pv 2) (pe_lst pa_nil) (nomark _))))) (fun σ H Q hh => ?_)) (pss_one (ps_ret (pe_tup (pa_cons pe_str (pa_cons (pe_cl (cl_takeB T M) hr (by decide) (pa_cons (pv 0) (pa_cons pe_int pa_nil))) pa_nil))))) pss_nil)
      (pss_one (ps_ret (pe_ifExp (pt_cmpR op_eq (pv 3) pe_int (nomark _)) (pe_tup (pa_cons pe_str pa_nil)) (pe_tup (pa_cons pe_str (pa_cons (pe_cl (cl_one T M) hr (by decide) (pa_cons (pv 0) (pa_cons (pv 2) pa_nil))) pa_nil))))))) pss_nil)
      (pss_cons ps_never
      (pss_cons ps_never
      (pss_one ps_never))))), ?_⟩
      · -- way == 3, or there are no names
        obtain ⟨r, l, h3, h2, hl, q⟩ := hh
        refine ⟨_, h3, rfl, _, rfl, ?_⟩
        rw [dec_int]
        by_cases c : r = 3
        · rw [decide_eq_true c] at q ⊢
          exact iteT (q H (Same.refl H))
        · rw [decide_eq_false c] at q ⊢
          refine iteF ⟨_, h2, Nat.zero_le _, fun t nt => ⟨l, t, nameV, rfl, rfl, .inl ⟨SqL.of ((upd_ne (ne_of_none hl nt)).trans hl), SqL.of upd_same⟩, _, rfl, q _ (K0.same_upd nt)⟩⟩
      · refine ⟨_, rfl, p, 9, rfl, src, by decide, by decide, fun r H1 r0 r1 b1 => ?_⟩
        refine ⟨_, _, rfl, rfl, ?_⟩
        rw [decide_eq_true (.inl rfl)]
        refine iteT ?_
        refine ⟨_, l, rfl, rfl, (hl.bt b1).1, fun H2 s2 => ?_⟩
        have b2 := b1.grow s2
        have s12 : 1 ≤ sizeLine := sizeL (by decide) (m := 1)
        have s22 : 2 ≤ sizeLine := sizeL (by decide) (m := 2)
        by_cases c3 : r = 3
        · rw [decide_eq_true c3]
          refine iteT ⟨_, rfl, p, 100, rfl, b2.src, by decide, by decide, fun m H3 m0 m1 b3 => ⟨s22, fun q nq => ?_⟩⟩
          obtain ⟨i, rfl⟩ : ∃ i : Nat, m = (i : Int) := ⟨m.toNat, by omega⟩
          obtain ⟨g1, g2⟩ := tup_new (K := K) (us := [.str "number", .int (i : Int)]) (ds := [.str "number", .int (i : Int)]) (b2.trans b3) nq (.cons (.str _ (by decide +kernel)) (.cons (.int _) .nil))
          exact k _ _ (.leaf [.str "number", .int (i : Int)] (numC i)) g1 (.leaf (.num i (by omega))) g2
        · rw [decide_eq_false c3]
          refine iteF ⟨_, rfl, rfl, _, rfl, ?_⟩
          rw [dec_int]
          by_cases c2 : r = 2
          · rw [decide_eq_true c2]
            refine iteT ⟨s12, fun q nq => ?_⟩
            obtain ⟨g1, g2⟩ := tup_new (K := K) (us := [.str "lost"]) (ds := [.str "lost"]) b2 nq (.cons (.str _ (by decide +kernel)) .nil)
            exact k _ _ (.leaf [.str "lost"] [63]) g1 (.leaf .lost) g2
          · rw [decide_eq_false c2]
            have hl2 := hl.bt b2
            refine iteF ⟨_, rfl, _, rfl, p, l, nameV, nameD', rfl, b2.src, SqL.of (by rw [hid_ne hl2.2]; exact hl2.1), names_dqs, by decide, by decide, fun H3 u d hd b3 hu => ⟨s22, fun q nq => ?_⟩⟩
            obtain ⟨w, hw, rfl⟩ := name_in hd
            obtain ⟨g1, g2⟩ := tup_new (K := K) (us := [.str "use", u]) (ds := [.str "use", .str (sO w)]) (b2.trans b3) nq (.cons (.str _ (by decide +kernel)) (.cons hu .nil))
            exact k _ _ (.leaf [.str "use", .str (sO w)] w) g1 (.leaf (.use w hw)) g2
  | succ n ih =>
    refine D.cl (D.fn.ok sc_item (fun vs H Q E h => ?_) (fun cdv A outer s H vs Q E hr h => ?_))
    · obtain ⟨p, l, rfl, _⟩ := h
      rfl
    · obtain ⟨p, l, rfl, src, hl, k⟩ := h
      have hr3 : Room (n + 3) _ := hr
      have le1 : 1 ≤ n + 3 := by omega
      have le2 : 2 ≤ n + 3 := by omega
      refine ⟨_, (pss_cons (ps_set (i := 3) sc_item.nd rfl (Or.inl rfl) (pe_cl (cl_takeB T M) hr3 le1 (pa_cons (pv 0) (pa_cons pe_int pa_nil))))
      (pss_cons (ps_if (pt_imp (t' := tDeep) (PW.pt (pw_or (pt_cmpR op_eq (pv 1) pe_int (nomark _)) (pw_or1 (pt_cmpR op_lt (pv 3) pe_int (nomark _))))) (fun σ H Q hh => deep_ask hh)) (pss_cons (ps_if (pt_imp (t' := tWay3) (PW.pt (pw_or (pt_cmpR op_eq (pv 3) pe_int (nomark _)) (pw_or1 (pt_cmpR (op_eqE hr.units) (pv 2) (pe_lst pa_nil) (nomark _))))) (fun σ H Q hh => ?_)) (pss_one (ps_ret (pe_tup (pa_cons pe_str (pa_cons (pe_cl (cl_takeB T M) hr3 le1 (pa_cons (pv 0) (pa_cons pe_int pa_nil))) pa_nil))))) pss_nil)
      (pss_one (ps_ret (pe_ifExp (pt_cmpR op_eq (pv 3) pe_int (nomark _)) (pe_tup (pa_cons pe_str pa_nil)) (pe_tup (pa_cons pe_str (pa_cons (pe_cl (cl_one T M) hr3 le2 (pa_cons (pv 0) (pa_cons (pv 2) pa_nil))) pa_nil))))))) pss_nil)
      (pss_cons (ps_set (i := 4) sc_item.nd rfl (Or.inl rfl) (pe_callTy call_tuple_of (by rfl) T.bi.tuple (by decide +kernel) (pa_cons (pe_lc (own := [("_law_turn", 5)]) (g := gName 5) (tt := tYes) (te := (tCall (spIt K n) [] E0 (tCons (tVar 0) (tCons (tOp (rI0 fun i j => .int (i - j)) (tVar 1) (tC (.int 1))) (tCons (tVar 2) tNil))))) rfl sc_item.nd (pi_range1 rfl hrange (pa_cons (pe_cl (cl_takeB T M) hr3 le1 (pa_cons (pv 0) (pa_cons pe_int pa_nil))) pa_nil)) (blkOk_by (own := [("_law_turn", 5)]) (N := NI) (sc := defScope (top 28)) (by decide +kernel)) (fun _ _ _ _ _ => (pg_name (i := 5) sc_item.nd rfl (Or.inl rfl))) (fun _ _ _ _ _ => pts_nil) (fun _ _ _ _ _ => (pe_cl ih hr3 (Nat.le_refl _) (pa_cons (pv 0) (pa_cons (pe_op op_sub (pv 1) pe_int) (pa_cons (pv 2) pa_nil)))))) pa_nil)))
      (pss_cons (ps_if (pt_cmpR op_lt (pv 3) pe_int (nomark _)) (pss_one (ps_ret (pe_tup (pa_cons (pe_ix ix_list (pe_lst (pa_cons pe_str (pa_cons pe_str (pa_cons pe_str pa_nil)))) (pe_op op_sub (pv 3) pe_int) (fun _ _ => rfl)) (pa_cons (pv 4) pa_nil))))) pss_nil)
      (pss_one (ps_ret (pe_tup (pa_cons pe_str (pa_cons (pe_cl (cl_one T M) hr3 le2 (pa_cons (pv 0) (pa_cons (pe_op op_cat (pv 2) (pe_lst (pa_cons pe_str pa_nil))) pa_nil))) (pa_cons (pv 4) pa_nil)))))))))), ?_⟩
      · -- way == 3, or there are no names
        obtain ⟨r, l, h3, h2, hl, q⟩ := hh
        refine ⟨_, h3, rfl, _, rfl, ?_⟩
        rw [dec_int]
        by_cases c : r = 3
        · rw [decide_eq_true c] at q ⊢
          exact iteT (q H (Same.refl H))
        · rw [decide_eq_false c] at q ⊢
          refine iteF ⟨_, h2, Nat.zero_le _, fun t nt => ⟨l, t, nameV, rfl, rfl, .inl ⟨SqL.of ((upd_ne (ne_of_none hl nt)).trans hl), SqL.of upd_same⟩, _, rfl, q _ (K0.same_upd nt)⟩⟩
      · refine ⟨_, rfl, p, 9, rfl, src, by decide, by decide, fun r H1 r0 r1 b1 => ?_⟩
        refine ⟨_, _, rfl, rfl, ?_⟩
        by_cases c4 : r < 4
        · rw [decide_eq_true (.inr c4)]
          refine iteT ?_
          refine ⟨_, l, rfl, rfl, (hl.bt b1).1, fun H2 s2 => ?_⟩
          have b2 := b1.grow s2
          have s12 : 1 ≤ sizeLine := sizeL (by decide) (m := 1)
          have s22 : 2 ≤ sizeLine := sizeL (by decide) (m := 2)
          by_cases c3 : r = 3
          · rw [decide_eq_true c3]
            refine iteT ⟨_, rfl, p, 100, rfl, b2.src, by decide, by decide, fun m H3 m0 m1 b3 => ⟨s22, fun q nq => ?_⟩⟩
            obtain ⟨i, rfl⟩ : ∃ i : Nat, m = (i : Int) := ⟨m.toNat, by omega⟩
            obtain ⟨g1, g2⟩ := tup_new (K := K) (us := [.str "number", .int (i : Int)]) (ds := [.str "number", .int (i : Int)]) (b2.trans b3) nq (.cons (.str _ (by decide +kernel)) (.cons (.int _) .nil))
            exact k _ _ (.leaf [.str "number", .int (i : Int)] (numC i)) g1 (.leaf (.num i (by omega))) g2
          · rw [decide_eq_false c3]
            refine iteF ⟨_, rfl, rfl, _, rfl, ?_⟩
            rw [dec_int]
            by_cases c2 : r = 2
            · rw [decide_eq_true c2]
              refine iteT ⟨s12, fun q nq => ?_⟩
              obtain ⟨g1, g2⟩ := tup_new (K := K) (us := [.str "lost"]) (ds := [.str "lost"]) b2 nq (.cons (.str _ (by decide +kernel)) .nil)
              exact k _ _ (.leaf [.str "lost"] [63]) g1 (.leaf .lost) g2
            · rw [decide_eq_false c2]
              have hl2 := hl.bt b2
              refine iteF ⟨_, rfl, _, rfl, p, l, nameV, nameD', rfl, b2.src, SqL.of (by rw [hid_ne hl2.2]; exact hl2.1), names_dqs, by decide, by decide, fun H3 u d hd b3 hu => ⟨s22, fun q nq => ?_⟩⟩
              obtain ⟨w, hw, rfl⟩ := name_in hd
              obtain ⟨g1, g2⟩ := tup_new (K := K) (us := [.str "use", u]) (ds := [.str "use", .str (sO w)]) (b2.trans b3) nq (.cons (.str _ (by decide +kernel)) (.cons hu .nil))
              exact k _ _ (.leaf [.str "use", .str (sO w)] w) g1 (.leaf (.use w hw)) g2
        · rw [decide_eq_false (fun z => z.elim (by omega) c4)]
          -- the items
          refine iteF ⟨_, rfl, p, 4, rfl, b1.src, by decide, by decide, fun m H2 m0 m1 b2 => ⟨m, rfl, by omega, by omega, fun L nL => ?_⟩⟩
          have b12 := b1.trans b2
          have nLp := Bt.ne b2.src nL
          refine lc_range (lo := 0) (n := m.toNat) (fun i H' => i ≤ m.toNat ∧ Bt p H2 H' ∧ H2 L = none ∧ ∃ acc its, H' L = some (.lst acc) ∧ its.length = i ∧ (∀ x ∈ its, Dr n x) ∧ DQs K (hid L (hid p H')) acc (datL its)) ⟨Nat.zero_le _, (Bt.refl b2.src).new nL, nL, [], [], upd_same, rfl, fun x hx => (by cases hx), by rw [datL]; exact .nil⟩ ?_ ?_
          · rintro i H' hi ⟨hle, b3, nL', acc, its, hacc, hil, hdr, hdq⟩
            refine ⟨rfl, ?_⟩
            unfold tYes
            dsimp only
            rw [if_pos rfl]
            have b13 := b12.trans b3
            refine ⟨_, rfl, _, rfl, _, _, rfl, rfl, _, rfl, p, l, ?_, b13.src, hl.bt b13, fun H3 u x b4 hx hu => ?_⟩
            · show [V.ref p, V.int (((n + 1 : Nat) : Int) - 1), V.ref l] = [V.ref p, V.int (n : Int), V.ref l]
              rw [show (((n + 1 : Nat) : Int) - 1) = (n : Int) from by omega]
            have hacc3 : H3 L = some (.lst acc) := b4.at nLp hacc
            have sH : Same (hid L (hid p H')) (hid L (hid p H3)) := hid_mono b4.same
            have hLp : (hid p H3) L = some (.lst acc) := by rw [hid_ne nLp]; exact hacc3
            have hu2 : DQ K (hid L (hid p H3)) u x.dat := Flat.hide hLp _ _ hx.flat hu
            have lacc : acc.length = i := by rw [hdq.len, datL_map, List.length_map, hil]
            refine ⟨acc, hacc3, by rw [sizeLine_eq]; omega, hi, ?_, nL, acc ++ [u], its ++ [x], upd_same, by rw [List.length_append, hil]; rfl, fun y hy => ?_, ?_⟩
            · have b5 := b3.trans b4
              refine ⟨fun b w e => ?_, ?_⟩
              · obtain ⟨e1, e2⟩ := hid_at e
                rw [hid_ne e1, upd_ne (ne_of_none e2 nL)]
                exact b5.at e1 e2
              · obtain ⟨x1, x2, e, r⟩ := b5.src
                exact ⟨x1, x2, by rw [upd_ne (Ne.symm nLp)]; exact e, r⟩
            · rcases List.mem_append.mp hy with q | q
              · exact hdr y q
              · rw [List.mem_singleton.mp q]; exact hx
            · rw [hid_comm, hid_put, hid_comm, datL_map, List.map_append, ← datL_map]
              exact (hdq.to sH).app (.cons hu2 .nil)
          · rintro H' ⟨_, b3, _, acc, its, hacc, hil, hdr, hdq⟩
            have b13 := b12.trans b3
            refine ⟨L, acc, rfl, .inl ⟨SqL.of hacc, fun q nq => ?_⟩⟩
            have hil3 : its.length ≤ 3 := by omega
            have hdq' : DQs K (hid p H') acc (datL its) := hdq.to (hid_same L _)
            obtain ⟨b4, dq4⟩ := tup_new b13 nq hdq'
            generalize upd H' q (.tup acc) = H4 at b4 dq4 ⊢
            refine ⟨_, rfl, _, _, rfl, rfl, _, rfl, ?_⟩
            have s22 : 2 ≤ sizeLine := sizeL (by decide) (m := 2)
            have s33 : 3 ≤ sizeLine := sizeL (by decide) (m := 3)
            by_cases c7 : r < 7
            · rw [decide_eq_true c7]
              refine iteT ⟨s33, fun t nt => ⟨_, rfl, _, _, rfl, rfl, t, [.str "block", .str "sum", .str "product"], r - 4, ?_⟩⟩
              have b5 := b4.new (o := .lst [.str "block", .str "sum", .str "product"]) nt
              have e5 := @upd_same H4 t (.lst [.str "block", .str "sum", .str "product"])
              have dq5 := dq4.to (hid_mono (K0.same_upd (o := .lst [.str "block", .str "sum", .str "product"]) nt))
              generalize upd H4 t (.lst [.str "block", .str "sum", .str "product"]) = H5 at b5 e5 dq5 ⊢
              have fin : ∀ (kd : List PyData) (kn : Str) (o : List Nat) (bb : Bool), kd = [.str kn] → kn.length ≤ 1000 → NdK kd o bb → ∀ q2, H5 q2 = none → Q (.ref q2) (upd H5 q2 (.tup [.str kn, .ref q])) := by
                intro kd kn o bb e1 e2 hk q2 nq2
                obtain ⟨g1, g2⟩ := tup_new (K := K) (us := [.str kn, .ref q]) (ds := [.str kn, .tuple (datL its)]) b5 nq2 (.cons (.str _ e2) (.cons dq5 .nil))
                refine k _ _ (.node kd o bb its) g1 (.node hk hil3 hdr) ?_
                rw [It.dat, e1]
                exact g2
              obtain rfl | rfl | rfl : r = 4 ∨ r = 5 ∨ r = 6 := by omega
              · exact ⟨.str "block", rfl, rfl, SqL.of e5, atI_nat (j := 0) rfl, _, rfl, s22, fin _ _ _ _ rfl (by decide +kernel) .block⟩
              · exact ⟨.str "sum", rfl, rfl, SqL.of e5, atI_nat (j := 1) rfl, _, rfl, s22, fin _ _ _ _ rfl (by decide +kernel) .sum⟩
              · exact ⟨.str "product", rfl, rfl, SqL.of e5, atI_nat (j := 2) rfl, _, rfl, s22, fin _ _ _ _ rfl (by decide +kernel) .product⟩
            · rw [decide_eq_false c7]
              have hl4 := hl.bt b4
              refine iteF ⟨_, rfl, _, rfl, sizeL (by decide) (m := 1), fun t nt => ?_⟩
              have tp := Bt.ne b4.src nt
              have hlt : (upd H4 t (.lst [.str "b"])) l = some (.lst nameV) := by rw [upd_ne (ne_of_none hl4.1 nt)]; exact hl4.1
              refine ⟨l, t, nameV, [.str "b"], rfl, rfl, hlt, upd_same, by rw [sizeLine_eq]; decide, fun s' ns => ?_⟩
              have b5 := (b4.new (o := .lst [.str "b"]) nt).new (o := .lst (nameV ++ [.str "b"])) ns
              have dq5 := (dq4.to (hid_mono (K0.same_upd (o := .lst [.str "b"]) nt))).to (hid_mono (K0.same_upd (o := .lst (nameV ++ [.str "b"])) ns))
              have sp := Bt.ne (b4.new (o := .lst [.str "b"]) nt).src ns
              have e5 := @upd_same (upd H4 t (.lst [.str "b"])) s' (.lst (nameV ++ [.str "b"]))
              generalize upd (upd H4 t (.lst [.str "b"])) s' (.lst (nameV ++ [.str "b"])) = H5 at b5 dq5 e5 ⊢
              refine ⟨p, s', _, (nameC ++ [[98]]).map (fun w => PyData.str (sO w)), rfl, b5.src, SqL.of (by rw [hid_ne sp]; exact e5), names_b, by decide, by decide, fun H6 u d hd b6 hu => ⟨_, rfl, s33, fun q2 nq2 => ?_⟩⟩
              obtain ⟨w, hw, rfl⟩ := name_inb hd
              obtain ⟨g1, g2⟩ := tup_new (K := K) (us := [.str "let", u, .ref q]) (ds := [.str "let", .str (sO w), .tuple (datL its)]) (b5.trans b6) nq2 (.cons (.str _ (by decide +kernel)) (.cons hu (.cons (dq5.to b6.same) .nil)))
              refine k _ _ (.node [.str "let", .str (sO w)] (40 :: (w ++ [32, 61])) false its) g1 (.node (.let_ w hw) hil3 hdr) ?_
              rw [It.dat]
              exact g2
end
end K1
set_option maxHeartbeats 4000000
/-! _law_program; words as texts -/
namespace K1
open PySem L2
def spProg (K : PySem.W.Frag) : Sp := fun vs H Q _ => ∃ (p l : Addr), vs = [.ref p, .ref l] ∧ Src H p ∧ NamesAt H p l ∧ ∀ H' u its, Bt p H H' → its.length ≤ 4 → (∀ x ∈ its, Dr 3 x) → DQ K (hid p H') u (.tuple (datL its)) → Q u H'
section
variable {P : Program} {w : World} {K : PySem.W.Frag} {mg : Str → Option Value} {base : Heap}
theorem sc_program : FnScope ["_law_pool_here", "_law_names", "_law_turn"] ["_law_pool_here", "_law_names"] (defScope (top 29)) := ⟨rfl, rfl, rfl, by decide +kernel, rfl, by decide +kernel, by decide +kernel⟩
theorem cl_program (T : All K mg) (M : Nms mg) (hrange : mg "range" = none) : Cl P w K mg base 7 "_law_program" ["_law_pool_here", "_law_names"] (spProg K) := by
  obtain ⟨g, fd, D⟩ := T.dn 29 _ _ rfl
  have ih : Cl P w K mg base 6 "_law_item" ["_law_pool_here", "_law_deep", "_law_names"] (spIt K 3) := cl_item T M hrange 3
  refine D.cl (D.fn.ok sc_program (fun vs H Q E h => ?_) (fun cdv A outer s H vs Q E hr h => ?_))
  · obtain ⟨p, l, rfl, _⟩ := h
    rfl
  · obtain ⟨p, l, rfl, src, hl, k⟩ := h
    refine ⟨_, (pss_one (ps_ret (pe_callTy call_tuple_of (by rfl) T.bi.tuple (by decide +kernel) (pa_cons (pe_lc (own := [("_law_turn", 2)]) (g := gName 2) (tt := tYes) (te := (tCall (spIt K 3) [] E0 (tCons (tVar 0) (tCons (tC (.int 3)) (tCons (tVar 1) tNil))))) rfl sc_program.nd (pi_range1 rfl hrange (pa_cons (pe_cl (cl_takeB T M) hr (by decide) (pa_cons (pv 0) (pa_cons pe_int pa_nil))) pa_nil)) (blkOk_by (own := [("_law_turn", 2)]) (N := ["_law_pool_here", "_law_names", "_law_turn"]) (sc := defScope (top 29)) (by decide +kernel)) (fun _ _ _ _ _ => (pg_name (i := 2) sc_program.nd rfl (Or.inl rfl))) (fun _ _ _ _ _ => pts_nil) (fun _ _ _ _ _ => (pe_cl ih hr (by decide) (pa_cons (pv 0) (pa_cons pe_int (pa_cons (pv 1) pa_nil)))))) pa_nil)))), ?_⟩
    refine ⟨_, rfl, p, 5, rfl, src, by decide, by decide, fun m H2 m0 m1 b12 => ⟨m, rfl, by omega, by omega, fun L nL => ?_⟩⟩
    have nLp := Bt.ne b12.src nL
    refine lc_range (lo := 0) (n := m.toNat) (fun i H' => i ≤ m.toNat ∧ Bt p H2 H' ∧ ∃ acc its, H' L = some (.lst acc) ∧ its.length = i ∧ (∀ x ∈ its, Dr 3 x) ∧ DQs K (hid L (hid p H')) acc (datL its)) ⟨Nat.zero_le _, (Bt.refl b12.src).new nL, [], [], upd_same, rfl, fun x hx => (by cases hx), by rw [datL]; exact .nil⟩ ?_ ?_
    · rintro i H' hi ⟨hle, b3, acc, its, hacc, hil, hdr, hdq⟩
      refine ⟨rfl, ?_⟩
      unfold tYes
      dsimp only
      rw [if_pos rfl]
      have b13 := b12.trans b3
      refine ⟨_, rfl, _, rfl, p, l, rfl, b13.src, hl.bt b13, fun H3 u x b4 hx hu => ?_⟩
      have hacc3 : H3 L = some (.lst acc) := b4.at nLp hacc
      have sH : Same (hid L (hid p H')) (hid L (hid p H3)) := hid_mono b4.same
      have hLp : (hid p H3) L = some (.lst acc) := by rw [hid_ne nLp]; exact hacc3
      have hu2 : DQ K (hid L (hid p H3)) u x.dat := Flat.hide hLp _ _ hx.flat hu
      have lacc : acc.length = i := by rw [hdq.len, datL_map, List.length_map, hil]
      refine ⟨acc, hacc3, by rw [sizeLine_eq]; omega, hi, ?_, acc ++ [u], its ++ [x], upd_same, by rw [List.length_append, hil]; rfl, fun y hy => ?_, ?_⟩
      · have b5 := b3.trans b4
        refine ⟨fun b w e => ?_, ?_⟩
        · obtain ⟨e1, e2⟩ := hid_at e
          rw [hid_ne e1, upd_ne (ne_of_none e2 nL)]
          exact b5.at e1 e2
        · obtain ⟨x1, x2, e, r⟩ := b5.src
          exact ⟨x1, x2, by rw [upd_ne (Ne.symm nLp)]; exact e, r⟩
      · rcases List.mem_append.mp hy with q | q
        · exact hdr y q
        · rw [List.mem_singleton.mp q]; exact hx
      · rw [hid_comm, hid_put, hid_comm, datL_map, List.map_append, ← datL_map]
        exact (hdq.to sH).app (.cons hu2 .nil)
    · rintro H' ⟨_, b3, acc, its, hacc, hil, hdr, hdq⟩
      refine ⟨L, acc, rfl, .inl ⟨SqL.of hacc, fun q nq => ?_⟩⟩
      obtain ⟨b4, dq4⟩ := tup_new (b12.trans b3) nq (hdq.to (hid_same L _))
      exact k _ _ its b4 (by omega) hdr dq4
end
theorem sO_app (a b : List Nat) : sO a ++ sO b = sO (a ++ b) := by
  show (⟨a.toArray ++ b.toArray⟩ : Str) = ⟨(a ++ b).toArray⟩
  simp
theorem join_fold : ∀ (l : List It) (acc : Array Nat), (l.map fun x => sO x.word).foldl (fun acc p => acc ++ (sO [32]).cps ++ p.cps) acc = acc ++ (gapped l).toArray
  | [], acc => by rw [gapped]; simp
  | x :: r, acc => by
    rw [List.map_cons, List.foldl_cons, join_fold r, gapped]
    simp [sO]
/-- words behind a first one -/
theorem join_cons (o : List Nat) (l : List It) : Txt.join (sO [32]) (sO o :: l.map fun x => sO x.word) = sO (o ++ gapped l) := by
  show (⟨((sO o :: l.map fun x => sO x.word).drop 1).foldl (fun acc p => acc ++ (sO [32]).cps ++ p.cps) ((sO o :: l.map fun x => sO x.word).headD Str.empty).cps⟩ : Str) = _
  rw [List.drop_succ_cons, List.drop_zero, join_fold]
  simp [sO]
theorem join_words (l : List It) : Txt.join (sO [32]) (l.map fun x => sO x.word) = sO (textM l) := by
  unfold textM
  cases l with
  | nil => rw [gapped]; rfl
  | cons x r =>
    rw [List.map_cons, join_cons, gapped]
    rfl
theorem blank : (" " : Str) = sO [32] := by decide +kernel
theorem sum_words {B : Nat} : ∀ {l : List It}, (∀ x ∈ l, x.word.length ≤ B) → ((l.map fun x => sO x.word).map (·.length)).sum ≤ l.length * B
  | [], _ => Nat.zero_le _
  | x :: r, h => by
    have h1 := h x List.mem_cons_self
    have h2 := sum_words (B := B) (l := r) fun y hy => h y (List.mem_cons_of_mem _ hy)
    rw [List.map_cons, List.map_cons, List.sum_cons, List.length_cons, Nat.succ_mul, sO_len]
    omega
end K1
set_option maxHeartbeats 4000000
/-! _law_word, _law_text -/
namespace K1
open PySem L2
theorem call_strS {X : Cx} : CallR X (.type "str") (fun xs H Q => ∃ a, xs = [.str a] ∧ Q (.str a) H) := by
  intro pins s σ H xs us Q I r h
  obtain ⟨a, rfl, q⟩ := h
  obtain ⟨u, rfl, t, rfl⟩ := vals1 r
  exact PySem.P.str_of_str ⟨.str a, H, I, ⟨t, rfl⟩, q⟩
/-- str of a number, of a text, of a tuple -/
def rStrAny (K : PySem.W.Frag) : List V → Hp → VK → Prop := fun xs H Q => (∃ i, xs = [.int i] ∧ i.natAbs.log2 < 1920 ∧ Q (.str (toString i)) H) ∨ (∃ a, xs = [.str a] ∧ Q (.str a) H) ∨ rStrT K xs H Q
theorem call_strAny {X : Cx} (hg : X.A.guards = some []) (hu : X.A.units + 64 < cLine) : CallR X (.type "str") (rStrAny X.K) := by
  intro pins s σ H xs us Q I r h
  rcases h with h | h | h
  · exact call_str_int pins s σ H xs us Q I r h
  · exact call_strS pins s σ H xs us Q I r h
  · exact call_strT hg hu pins s σ H xs us Q I r h
/-- is it an item of that kind -/
def tKind (K : PySem.W.Frag) (y : Str) : TT := fun σ H Q => ∃ (v : V) (k : Str) (r : List PyData), σ[0]? = some (some v) ∧ DQ K H v (.tuple (.str k :: r)) ∧ Q (decide (k = y)) H
theorem kind_ask {K : PySem.W.Frag} {y : Str} {σ : St} {H : Hp} {Q : Bool → Hp → Prop} (hh : tKind K y σ H Q) : tTest (tOp rEq (tOp (rIxT K) (tVar 0) (tC (.int 0))) (tC (.str y))) σ H Q := by
  obtain ⟨v, k, r, h0, hd, q⟩ := hh
  obtain ⟨a, xs, u, rfl, hT, hi, hu⟩ := hd.item (i := 0) rfl
  cases hu
  refine ⟨_, h0, a, xs, _, _, rfl, rfl, hT, hi, rfl, _, rfl, ?_⟩
  rw [dec_str]
  exact q
/-- a comprehension over a tuple, each item to be asked of something that makes new things -/
theorem lc_funT2 {K : PySem.W.Frag} {a : Addr} {xs : List V} {te : TE} {j : Nat} {σ : St} {H1 : Hp} {D : Addr} {Qd : Hp → Prop} (f : Nat → V) (nD : H1 D = none) (ha : SqT K H1 a xs) (hz : xs.length ≤ 1000) (hw : ∀ x, wipe ((wipe σ [j]).set j (some x)) [j] = wipe σ [j])
    (he : ∀ i x H' Q, xs[i]? = some x → Same H1 H' → (∀ H'', Same H' H'' → Q (f i) H'') → te ((wipe σ [j]).set j (some x)) H' Q) (hd : ∀ H', Same H1 H' → H' D = some (.lst ((List.range xs.length).map f)) → Qd H') :
    ∃ W : Nat → Nat → Hp → Prop, (∃ m, W 0 m (upd H1 D (.lst []))) ∧ ∀ i m H, W i m H →
      ((Itt K a).stop i H ∧ Qd H) ∨ ((Itt K a).go i H ∧ ∃ Nx : Hp → Prop, (∀ H', Nx H' → ∃ m', m' < m ∧ W (i + 1) m' H') ∧ ∀ x H', (Itt K a).yld i H x H' → (gName j) x (wipe σ [j]) H' fun σ2 H2 => wipe σ2 [j] = wipe σ [j] ∧ tYes σ2 H2 fun b H3 =>
        if b = true then te σ2 H3 fun y H4 => ∃ acc, H4 D = some (.lst acc) ∧ acc.length < sizeLine ∧ Nx (upd H4 D (.lst (acc ++ [y]))) else Nx H3) := by
  refine lc_tup (K := K) (a := a) (xs := xs) (fun i H' => i ≤ xs.length ∧ Same H1 H' ∧ H' D = some (.lst ((List.range i).map f))) ⟨Nat.zero_le _, K0.same_upd nD, upd_same⟩ (fun i H' _ ⟨_, s, _⟩ => K0.seqT_same s ha) ?_ (fun H' ⟨_, s, h⟩ => hd H' s h)
  intro i x H' hi ⟨hle, s, h⟩
  have hlt := (List.getElem?_eq_some_iff.mp hi).1
  refine ⟨hw x, ?_⟩
  unfold tYes
  dsimp only
  rw [if_pos rfl]
  refine he i x H' _ hi s fun H'' s2 => ⟨_, s2 _ _ h, ?_, hlt, K0.same_over (s.trans s2) nD, ?_⟩
  · rw [List.length_map, List.length_range, sizeLine_eq]
    omega
  · rw [upd_same, List.range_succ, List.map_append]
    rfl
theorem range_words : ∀ (l : List It) , (List.range l.length).map (fun i => V.str (sO ((l.getD i (.leaf [] [])).word))) = (l.map fun x => sO x.word).map V.str := by
  intro l
  refine List.ext_getElem? fun i => ?_
  rw [List.getElem?_map, List.getElem?_map, List.getElem?_map]
  by_cases h : i < l.length
  · rw [List.getElem?_range h, List.getElem?_eq_getElem h]
    show some (V.str (sO ((l.getD i (.leaf [] [])).word))) = _
    rw [List.getD_eq_getElem?_getD, List.getElem?_eq_getElem h]
    rfl
  · rw [List.getElem?_eq_none (by rw [List.length_range]; omega), List.getElem?_eq_none (by omega)]
    rfl
theorem DQ.last {K : PySem.W.Frag} {H : Hp} {v : V} {ds : List PyData} {d : PyData} (h : DQ K H v (.tuple (ds ++ [d]))) (hl : ds.length ≤ 1000) : ∃ a xs u, v = .ref a ∧ SqT K H a xs ∧ atI xs (-1) = some u ∧ DQ K H u d := by
  cases h with
  | @tup a xs _ h1 h2 =>
    obtain ⟨u, e, q⟩ := h2.get (i := ds.length) (d := d) (by rw [List.getElem?_append_right (Nat.le_refl _), Nat.sub_self]; rfl)
    have hl2 := h2.len
    rw [List.length_append] at hl2
    refine ⟨a, xs, u, rfl, h1, atI_end ?_ (by simp at hl2; omega), q⟩
    rw [List.getLast?_eq_getElem?, hl2]
    exact e
theorem wB_le {n : Nat} (h : n ≤ 3) : wB n ≤ 251 := by
  match n, h with
  | 0, _ => decide
  | 1, _ => decide
  | 2, _ => decide
  | 3, _ => decide
theorem dB_le {n : Nat} (h : n ≤ 3) : 3 * (dB n + 1) ≤ 2 ^ 17 := by
  match n, h with
  | 0, _ => decide
  | 1, _ => decide
  | 2, _ => decide
  | 3, _ => decide
theorem NdK.kind {h : List PyData} {o : List Nat} {b : Bool} (k : NdK h o b) : ∃ kn r, h = .str kn :: r ∧ decide (kn = ("number" : Str)) = false ∧ decide (kn = ("lost" : Str)) = false ∧ decide (kn = ("use" : Str)) = false ∧ h.length ≤ 2 := by
  cases k with
  | block => exact ⟨_, _, rfl, by decide +kernel, by decide +kernel, by decide +kernel, by decide⟩
  | sum => exact ⟨_, _, rfl, by decide +kernel, by decide +kernel, by decide +kernel, by decide⟩
  | product => exact ⟨_, _, rfl, by decide +kernel, by decide +kernel, by decide +kernel, by decide⟩
  | let_ w hw => exact ⟨_, _, rfl, by decide +kernel, by decide +kernel, by decide +kernel, Nat.le_refl _⟩
theorem lit_open : ("(" : Str) = sO [40] := by decide +kernel
theorem lit_close : (")" : Str) = sO [41] := by decide +kernel
theorem lit_sum : ("(+" : Str) = sO [40, 43] := by decide +kernel
theorem lit_product : ("(*" : Str) = sO [40, 42] := by decide +kernel
theorem lit_eq : (" =" : Str) = sO [32, 61] := by decide +kernel
def spWord (K : PySem.W.Frag) (n : Nat) : Sp := fun vs H Q _ => ∃ v x, vs = [v] ∧ Dr n x ∧ DQ K H v x.dat ∧ ∀ H', Same H H' → Q (.str (sO x.word)) H'
/-- what shows in a repr of items -/
theorem shown_small {d : PyData} {W : Nat} {k : Nat} (h : Nice k W d) (hW : W ≤ 2 ^ 17) : d.shown.length ≤ 3000000 := by
  have z := PyData.shown_le 13 (by decide) d h.lv
  have e : (2 : Nat) ^ 17 = 131072 := by decide
  have := h.wt
  omega
abbrev NW : List Str := ["_law_item_here", "_law_words", "_law_opening", "_law_one_here"]
section
variable {P : Program} {w : World} {K : PySem.W.Frag} {mg : Str → Option Value} {base : Heap}
theorem sc_word : FnScope NW ["_law_item_here"] (defScope (top 30)) := ⟨rfl, rfl, rfl, by decide +kernel, rfl, by decide +kernel, by decide +kernel⟩
theorem cl_word (T : All K mg) : ∀ n : Nat, n ≤ 3 → ClG P w K mg base (n + 1) "_law_word" ["_law_item_here"] (spWord K n) := by
  obtain ⟨g, fd, D⟩ := T.dn 30 _ _ rfl
  intro n
  induction n with
  | zero =>
    intro _
    refine ⟨g, fd, okG D.fn sc_word (fun vs H Q E h => ?_) (fun cdv A outer s H vs Q E hgd hr h => ?_), D.mg, D.fn.kp, D.bn⟩
    · obtain ⟨v, x, rfl, _⟩ := h
      rfl
    · obtain ⟨v, x, rfl, hx, hd, k⟩ := h
      refine ⟨_, (pss_cons (ps_if (pt_imp (t' := tKind K "number") (pt_cmpR op_eq (pe_ix ix_tup (pv 0) pe_int (fun _ _ => rfl)) pe_str (nomark _)) (fun σ H Q hh => kind_ask hh)) (pss_one (ps_ret (pe_callTy (call_strAny hgd hr.units) (by rfl) T.bi.str (by decide +kernel) (pa_cons (pe_ix ix_tup (pv 0) pe_int (fun _ _ => rfl)) pa_nil)))) pss_nil)
      (pss_cons (ps_if (pt_imp (t' := tKind K "lost") (pt_cmpR op_eq (pe_ix ix_tup (pv 0) pe_int (fun _ _ => rfl)) pe_str (nomark _)) (fun σ H Q hh => kind_ask hh)) (pss_one (ps_ret pe_str)) pss_nil)
      (pss_cons (ps_if (pt_imp (t' := tKind K "use") (pt_cmpR op_eq (pe_ix ix_tup (pv 0) pe_int (fun _ _ => rfl)) pe_str (nomark _)) (fun σ H Q hh => kind_ask hh)) (pss_one (ps_ret (pe_ix ix_tup (pv 0) pe_int (fun _ _ => rfl)))) pss_nil)
      (pss_cons ps_never
      (pss_cons ps_never
      (pss_cons ps_never
      (pss_one ps_never))))))), ?_⟩
      cases hx with
      | leaf hk =>
        rw [It.dat] at hd
        rw [It.word] at k
        cases hk with
        | num m hm =>
          refine ⟨v, _, _, rfl, hd, ?_⟩
          rw [decide_eq_true rfl]
          obtain ⟨a1, xs1, u1, rfl, hT1, hi1, hu1⟩ := hd.item (i := 1) rfl
          cases hu1
          refine iteT ⟨_, rfl, a1, xs1, _, _, rfl, rfl, hT1, hi1, .inl ⟨_, rfl, ?_, ?_⟩⟩
          · exact Nat.lt_of_le_of_lt (Nat.log2_le_self _) (by omega)
          · have e := num_text ⟨m, hm⟩
            have e' : Str.ofString (toString (m : Int)) = sO (numC m) := e
            show Q (.str (Str.ofString (toString (m : Int)))) H
            rw [e']
            exact k H (Same.refl H)
        | lost =>
          refine ⟨v, _, _, rfl, hd, ?_⟩
          rw [show decide (("lost" : Str) = "number") = false from by decide +kernel]
          refine iteF ⟨v, _, _, rfl, hd, ?_⟩
          rw [decide_eq_true rfl]
          refine iteT ?_
          have e : ("?" : Str) = sO [63] := by decide +kernel
          show Q (.str "?") H
          rw [e]
          exact k H (Same.refl H)
        | use w hw =>
          refine ⟨v, _, _, rfl, hd, ?_⟩
          rw [show decide (("use" : Str) = "number") = false from by decide +kernel]
          refine iteF ⟨v, _, _, rfl, hd, ?_⟩
          rw [show decide (("use" : Str) = "lost") = false from by decide +kernel]
          refine iteF ⟨v, _, _, rfl, hd, ?_⟩
          rw [decide_eq_true rfl]
          obtain ⟨a1, xs1, u1, rfl, hT1, hi1, hu1⟩ := hd.item (i := 1) rfl
          cases hu1
          exact iteT ⟨_, rfl, a1, xs1, _, _, rfl, rfl, hT1, hi1, k H (Same.refl H)⟩
  | succ n ih =>
    intro hn3
    have IH := ih (by omega)
    refine ⟨g, fd, okG D.fn sc_word (fun vs H Q E h => ?_) (fun cdv A outer s H vs Q E hgd hr h => ?_), D.mg, D.fn.kp, D.bn⟩
    · obtain ⟨v, x, rfl, _⟩ := h
      rfl
    · obtain ⟨v, x, rfl, hx, hd, k⟩ := h
      have hrn : Room (n + 1) _ := hr
      refine ⟨_, (pss_cons (ps_if (pt_imp (t' := tKind K "number") (pt_cmpR op_eq (pe_ix ix_tup (pv 0) pe_int (fun _ _ => rfl)) pe_str (nomark _)) (fun σ H Q hh => kind_ask hh)) (pss_one (ps_ret (pe_callTy (call_strAny hgd hr.units) (by rfl) T.bi.str (by decide +kernel) (pa_cons (pe_ix ix_tup (pv 0) pe_int (fun _ _ => rfl)) pa_nil)))) pss_nil)
      (pss_cons (ps_if (pt_imp (t' := tKind K "lost") (pt_cmpR op_eq (pe_ix ix_tup (pv 0) pe_int (fun _ _ => rfl)) pe_str (nomark _)) (fun σ H Q hh => kind_ask hh)) (pss_one (ps_ret pe_str)) pss_nil)
      (pss_cons (ps_if (pt_imp (t' := tKind K "use") (pt_cmpR op_eq (pe_ix ix_tup (pv 0) pe_int (fun _ _ => rfl)) pe_str (nomark _)) (fun σ H Q hh => kind_ask hh)) (pss_one (ps_ret (pe_ix ix_tup (pv 0) pe_int (fun _ _ => rfl)))) pss_nil)
      (pss_cons (ps_setLc (i := 1) (own := [("_law_one_here", 3)]) (g := gName 3) (tt := tYes) (te := (tCall (spWord K n) [] E0 (tCons (tVar 3) tNil))) rfl sc_word.nd rfl rfl (sw_true rfl rfl rfl (by decide +kernel)) (pi_tup (pe_ix ix_tup (pv 0) (pe_un un_neg pe_int) (fun _ _ => rfl))) (blkOk_by (own := [("_law_one_here", 3)]) (N := NW) (sc := defScope (top 30)) (by decide +kernel)) (fun _ _ _ _ _ => (pg_name (i := 3) sc_word.nd rfl (Or.inl rfl))) (fun _ _ _ _ _ => pts_nil) (fun _ _ _ _ _ => (pe_clG IH hgd hrn (Nat.le_refl _) (pa_cons (pv 3) pa_nil))))
      (pss_cons (ps_if (pt_imp (t' := tKind K "block") (pt_cmpR op_eq (pe_ix ix_tup (pv 0) pe_int (fun _ _ => rfl)) pe_str (nomark _)) (fun σ H Q hh => kind_ask hh)) (pss_one (ps_ret (pe_op op_add_str (pe_op op_add_str pe_str (pe_join pe_str (pv 1))) pe_str))) pss_nil)
      (pss_cons (ps_set (i := 2) sc_word.nd rfl (Or.inl rfl) (pe_dget2 (hu_of hr) (pe_disp (pps_cons pe_str pe_str (pps_cons pe_str pe_str pps_nil)) (by rfl) (by rfl) (fun z => by cases z) (by decide)) (pe_ix ix_tup (pv 0) pe_int (fun _ _ => rfl)) (pe_op op_add_str (pe_op op_add_str pe_str (pe_callTy (call_strAny hgd hr.units) (by rfl) T.bi.str (by decide +kernel) (pa_cons (pe_ix ix_tup (pv 0) pe_int (fun _ _ => rfl)) pa_nil))) pe_str) ⟨by rfl, by rfl, by rfl, by rfl⟩))
      (pss_one (ps_ret (pe_op op_add_str (pe_join pe_str (pe_op op_cat (pe_lst (pa_cons (pv 2) pa_nil)) (pv 1))) pe_str))))))))), ?_⟩
      cases hx with
      | leaf hk =>
        rw [It.dat] at hd
        rw [It.word] at k
        cases hk with
        | num m hm =>
          refine ⟨v, _, _, rfl, hd, ?_⟩
          rw [decide_eq_true rfl]
          obtain ⟨a1, xs1, u1, rfl, hT1, hi1, hu1⟩ := hd.item (i := 1) rfl
          cases hu1
          refine iteT ⟨_, rfl, a1, xs1, _, _, rfl, rfl, hT1, hi1, .inl ⟨_, rfl, ?_, ?_⟩⟩
          · exact Nat.lt_of_le_of_lt (Nat.log2_le_self _) (by omega)
          · have e := num_text ⟨m, hm⟩
            have e' : Str.ofString (toString (m : Int)) = sO (numC m) := e
            show Q (.str (Str.ofString (toString (m : Int)))) H
            rw [e']
            exact k H (Same.refl H)
        | lost =>
          refine ⟨v, _, _, rfl, hd, ?_⟩
          rw [show decide (("lost" : Str) = "number") = false from by decide +kernel]
          refine iteF ⟨v, _, _, rfl, hd, ?_⟩
          rw [decide_eq_true rfl]
          refine iteT ?_
          have e : ("?" : Str) = sO [63] := by decide +kernel
          show Q (.str "?") H
          rw [e]
          exact k H (Same.refl H)
        | use w hw =>
          refine ⟨v, _, _, rfl, hd, ?_⟩
          rw [show decide (("use" : Str) = "number") = false from by decide +kernel]
          refine iteF ⟨v, _, _, rfl, hd, ?_⟩
          rw [show decide (("use" : Str) = "lost") = false from by decide +kernel]
          refine iteF ⟨v, _, _, rfl, hd, ?_⟩
          rw [decide_eq_true rfl]
          obtain ⟨a1, xs1, u1, rfl, hT1, hi1, hu1⟩ := hd.item (i := 1) rfl
          cases hu1
          exact iteT ⟨_, rfl, a1, xs1, _, _, rfl, rfl, hT1, hi1, k H (Same.refl H)⟩
      | @node _ h o b l hk hl hc =>
        rw [It.dat] at hd
        rw [word_node] at k
        obtain ⟨kn, kr, eh, f1, f2, f3, hl2⟩ := hk.kind
        have hdl := hd
        rw [eh] at hd
        refine ⟨v, _, _, rfl, hd, ?_⟩
        rw [f1]
        refine iteF ⟨v, _, _, rfl, hd, ?_⟩
        rw [f2]
        refine iteF ⟨v, _, _, rfl, hd, ?_⟩
        rw [f3]
        have hBn : wB n ≤ 251 := wB_le (by omega)
        have hBl : ∀ x ∈ l, x.word.length ≤ 251 := fun x hx => Nat.le_trans (hc x hx).len hBn
        have hg := gapped_len hBl
        have hg' : l.length * (251 + 1) ≤ 3 * 252 := Nat.mul_le_mul_right _ hl
        obtain ⟨a, xs, u, rfl, hT, hi, hu⟩ := hdl.last (by omega)
        obtain ⟨ti, xs2, rfl, hT2, hD2⟩ : ∃ ti xs2, u = .ref ti ∧ SqT K H ti xs2 ∧ DQs K H xs2 (datL l) := by
          cases hu with
          | tup h1 h2 => exact ⟨_, _, rfl, h1, h2⟩
        have lx2 : xs2.length = l.length := by rw [hD2.len, datL_map, List.length_map]
        refine iteF ⟨_, rfl, _, rfl, a, xs, _, _, rfl, rfl, hT, hi, ti, rfl, ⟨_, hT2⟩, fun L nL => ?_⟩
        refine lc_funT2 (K := K) (a := ti) (xs := xs2) (j := 3) (fun i => V.str (sO ((l.getD i (.leaf [] [])).word))) nL hT2 (by omega) (fun _ => rfl) ?_ ?_
        · intro i y H' Q' hy s' q'
          have hlt := (List.getElem?_eq_some_iff.mp hy).1
          have el : l[i]? = some l[i] := List.getElem?_eq_getElem (by omega)
          obtain ⟨y', ey, dy⟩ := hD2.get (i := i) (d := l[i].dat) (by rw [datL_map, List.getElem?_map, el]; rfl)
          rw [hy] at ey
          cases ey
          refine ⟨_, rfl, y, l[i], rfl, hc _ (List.getElem_mem _), dy.to s', fun H'' s'' => ?_⟩
          have := q' H'' s''
          rw [List.getD_eq_getElem?_getD, el] at this
          exact this
        · intro H1 s1 hL
          rw [lx2, range_words] at hL
          have hd1 := hd.to s1
          have hdl1 := hdl.to s1
          refine ⟨_, _, _, rfl, hd1, ?_⟩
          have hsum := sum_words hBl
          have hlw : (l.map fun x => sO x.word).length = l.length := List.length_map _
          have sum3 : l.length * 251 ≤ 3 * 251 := Nat.mul_le_mul_right _ hl
          cases hk with
          | block =>
            cases eh
            rw [decide_eq_true rfl]
            refine iteT ⟨⟨_, rfl⟩, _, rfl, _, L, l.map (fun x => sO x.word), rfl, rfl, .inl (SqL.of hL), ?_, _, _, rfl, rfl, ?_, _, _, rfl, rfl, ?_, ?_⟩
            · rw [hlw, blank, sO_len]
              show _ + l.length * 1 ≤ _
              omega
            · rw [blank, join_words, lit_open, sO_len, sO_len, sizeLine_eq]
              unfold textM
              rw [List.length_drop]
              show 1 + _ ≤ _
              omega
            · rw [blank, join_words, lit_open, sO_app, lit_close, sO_len, sO_len, sizeLine_eq]
              unfold textM
              rw [List.length_append, List.length_drop]
              show 1 + _ + 1 ≤ _
              omega
            · rw [blank, join_words, lit_open, sO_app, lit_close, sO_app]
              exact k H1 s1
          | sum =>
            cases eh
            rw [show decide (("sum" : Str) = "block") = false from by decide +kernel]
            refine iteF (fun pd nd => ⟨upd_same, [((.inr "sum" : Key), V.str "(+"), (.inr "product", .str "(*")], rfl, by decide, pd, rfl, .inl ⟨_, .inl upd_same⟩, ?_⟩)
            have s3 : Same H1 (upd (upd H1 pd (.dK [])) pd (.dK (mergeK [] [((.inr "sum" : Key), V.str "(+"), (.inr "product", .str "(*")]))) := fun b u e => by
              rw [upd_ne (ne_of_none e nd), upd_ne (ne_of_none e nd)]
              exact e
            have gd : (upd (upd H1 pd (.dK [])) pd (.dK (mergeK [] [((.inr "sum" : Key), V.str "(+"), (.inr "product", .str "(*")]))) pd = some (.dK (mergeK [] [((.inr "sum" : Key), V.str "(+"), (.inr "product", .str "(*")])) := upd_same
            generalize upd (upd H1 pd (.dK [])) pd (.dK (mergeK [] [((.inr "sum" : Key), V.str "(+"), (.inr "product", .str "(*")])) = H3 at s3 gd ⊢
            obtain ⟨a3, xs3, u3, ea3, hT3, hi3, hu3⟩ := (hdl1.to s3).item (i := 0) rfl
            cases ea3
            cases hu3
            obtain ⟨a4, xs4, u4, ea4, hT4, hi4, hu4⟩ := (hdl1.to s3).item (i := 1) rfl
            cases ea4
            have hnice := items_nice hl fun x hx => (hc x hx).nice
            have hsh : Shows K H3 u4 (.tuple (datL l)) := shows_of hu4 hnice (by omega) (Nat.le_trans (dB_le (by omega)) (by decide)) fun z => absurd z (by
              have hp : Pure (.tuple (datL l)) := by
                rw [datL_map]
                refine Pure.tuple fun d hd => ?_
                obtain ⟨y, hy, rfl⟩ := List.mem_map.mp hd
                exact (hc y hy).pure
              rw [hp.1]
              exact Bool.false_ne_true)
            have hshl := shown_small hnice (dB_le (by omega))
            refine ⟨_, rfl, a, xs3, _, _, rfl, rfl, hT3, hi3, _, rfl, a, xs4, _, _, rfl, rfl, hT4, hi4, .inr (.inr ⟨u4, _, rfl, hsh, _, _, rfl, rfl, ?_, _, _, rfl, rfl, ?_, ?_⟩)⟩
            · rw [lit_open, sO_len, sizeLine_eq]
              show 1 + _ ≤ _
              omega
            · have e : ("(" ++ PyData.shown (.tuple (datL l)) : Str).length = 1 + (PyData.shown (.tuple (datL l))).length := by
                show (("(" : Str).cps ++ (PyData.shown (.tuple (datL l))).cps).size = _
                rw [Array.size_append]
                rfl
              rw [e, sizeLine_eq]
              show _ + 2 ≤ _
              omega
            have ev : valV (mergeK [] [((.inr "sum" : Key), V.str "(+"), (.inr "product", .str "(*")]) (.inr ("sum" : Str)) = some (.str "(+") := by decide +kernel
            refine ⟨_, .inl ⟨_, .inr ("sum" : Str), .inl gd, rfl, rfl⟩, ?_⟩
            rw [ev]
            rw [Option.getD_some, lit_sum]
            refine ⟨⟨_, rfl⟩, _, rfl, sizeL (m := 1) (Nat.le_refl _), fun q nq => ⟨_, rfl, q, L, _, _, rfl, rfl, upd_same, (upd_ne (ne_of_none (s3 _ _ hL) nq)).trans (s3 _ _ hL), ?_, fun s' ns => ⟨_, s', sO [40, 43] :: l.map (fun x => sO x.word), rfl, rfl, .inl (SqL.of upd_same), ?_, _, _, rfl, rfl, ?_, ?_⟩⟩⟩
            · rw [List.length_map, hlw, sizeLine_eq]
              show 1 + _ ≤ _
              omega
            · rw [List.map_cons, List.sum_cons, List.length_cons, hlw, blank, sO_len, sO_len]
              show 2 + _ + (l.length + 1) * 1 ≤ _
              omega
            · rw [blank, join_cons, lit_close, sO_len, sO_len, sizeLine_eq, List.length_append]
              show 2 + _ + 1 ≤ _
              omega
            · rw [blank, join_cons, lit_close, sO_app, List.append_assoc]
              exact k _ (((s1.trans s3).trans (K0.same_upd nq)).trans (K0.same_upd ns))
          | product =>
            cases eh
            rw [show decide (("product" : Str) = "block") = false from by decide +kernel]
            refine iteF (fun pd nd => ⟨upd_same, [((.inr "sum" : Key), V.str "(+"), (.inr "product", .str "(*")], rfl, by decide, pd, rfl, .inl ⟨_, .inl upd_same⟩, ?_⟩)
            have s3 : Same H1 (upd (upd H1 pd (.dK [])) pd (.dK (mergeK [] [((.inr "sum" : Key), V.str "(+"), (.inr "product", .str "(*")]))) := fun b u e => by
              rw [upd_ne (ne_of_none e nd), upd_ne (ne_of_none e nd)]
              exact e
            have gd : (upd (upd H1 pd (.dK [])) pd (.dK (mergeK [] [((.inr "sum" : Key), V.str "(+"), (.inr "product", .str "(*")]))) pd = some (.dK (mergeK [] [((.inr "sum" : Key), V.str "(+"), (.inr "product", .str "(*")])) := upd_same
            generalize upd (upd H1 pd (.dK [])) pd (.dK (mergeK [] [((.inr "sum" : Key), V.str "(+"), (.inr "product", .str "(*")])) = H3 at s3 gd ⊢
            obtain ⟨a3, xs3, u3, ea3, hT3, hi3, hu3⟩ := (hdl1.to s3).item (i := 0) rfl
            cases ea3
            cases hu3
            obtain ⟨a4, xs4, u4, ea4, hT4, hi4, hu4⟩ := (hdl1.to s3).item (i := 1) rfl
            cases ea4
            have hnice := items_nice hl fun x hx => (hc x hx).nice
            have hsh : Shows K H3 u4 (.tuple (datL l)) := shows_of hu4 hnice (by omega) (Nat.le_trans (dB_le (by omega)) (by decide)) fun z => absurd z (by
              have hp : Pure (.tuple (datL l)) := by
                rw [datL_map]
                refine Pure.tuple fun d hd => ?_
                obtain ⟨y, hy, rfl⟩ := List.mem_map.mp hd
                exact (hc y hy).pure
              rw [hp.1]
              exact Bool.false_ne_true)
            have hshl := shown_small hnice (dB_le (by omega))
            refine ⟨_, rfl, a, xs3, _, _, rfl, rfl, hT3, hi3, _, rfl, a, xs4, _, _, rfl, rfl, hT4, hi4, .inr (.inr ⟨u4, _, rfl, hsh, _, _, rfl, rfl, ?_, _, _, rfl, rfl, ?_, ?_⟩)⟩
            · rw [lit_open, sO_len, sizeLine_eq]
              show 1 + _ ≤ _
              omega
            · have e : ("(" ++ PyData.shown (.tuple (datL l)) : Str).length = 1 + (PyData.shown (.tuple (datL l))).length := by
                show (("(" : Str).cps ++ (PyData.shown (.tuple (datL l))).cps).size = _
                rw [Array.size_append]
                rfl
              rw [e, sizeLine_eq]
              show _ + 2 ≤ _
              omega
            have ev : valV (mergeK [] [((.inr "sum" : Key), V.str "(+"), (.inr "product", .str "(*")]) (.inr ("product" : Str)) = some (.str "(*") := by decide +kernel
            refine ⟨_, .inl ⟨_, .inr ("product" : Str), .inl gd, rfl, rfl⟩, ?_⟩
            rw [ev]
            rw [Option.getD_some, lit_product]
            refine ⟨⟨_, rfl⟩, _, rfl, sizeL (m := 1) (Nat.le_refl _), fun q nq => ⟨_, rfl, q, L, _, _, rfl, rfl, upd_same, (upd_ne (ne_of_none (s3 _ _ hL) nq)).trans (s3 _ _ hL), ?_, fun s' ns => ⟨_, s', sO [40, 42] :: l.map (fun x => sO x.word), rfl, rfl, .inl (SqL.of upd_same), ?_, _, _, rfl, rfl, ?_, ?_⟩⟩⟩
            · rw [List.length_map, hlw, sizeLine_eq]
              show 1 + _ ≤ _
              omega
            · rw [List.map_cons, List.sum_cons, List.length_cons, hlw, blank, sO_len, sO_len]
              show 2 + _ + (l.length + 1) * 1 ≤ _
              omega
            · rw [blank, join_cons, lit_close, sO_len, sO_len, sizeLine_eq, List.length_append]
              show 2 + _ + 1 ≤ _
              omega
            · rw [blank, join_cons, lit_close, sO_app, List.append_assoc]
              exact k _ (((s1.trans s3).trans (K0.same_upd nq)).trans (K0.same_upd ns))
          | let_ w hw =>
            cases eh
            rw [show decide (("let" : Str) = "block") = false from by decide +kernel]
            refine iteF (fun pd nd => ⟨upd_same, [((.inr "sum" : Key), V.str "(+"), (.inr "product", .str "(*")], rfl, by decide, pd, rfl, .inl ⟨_, .inl upd_same⟩, ?_⟩)
            have s3 : Same H1 (upd (upd H1 pd (.dK [])) pd (.dK (mergeK [] [((.inr "sum" : Key), V.str "(+"), (.inr "product", .str "(*")]))) := fun b u e => by
              rw [upd_ne (ne_of_none e nd), upd_ne (ne_of_none e nd)]
              exact e
            have gd : (upd (upd H1 pd (.dK [])) pd (.dK (mergeK [] [((.inr "sum" : Key), V.str "(+"), (.inr "product", .str "(*")]))) pd = some (.dK (mergeK [] [((.inr "sum" : Key), V.str "(+"), (.inr "product", .str "(*")])) := upd_same
            generalize upd (upd H1 pd (.dK [])) pd (.dK (mergeK [] [((.inr "sum" : Key), V.str "(+"), (.inr "product", .str "(*")])) = H3 at s3 gd ⊢
            obtain ⟨a3, xs3, u3, ea3, hT3, hi3, hu3⟩ := (hdl1.to s3).item (i := 0) rfl
            cases ea3
            cases hu3
            obtain ⟨a4, xs4, u4, ea4, hT4, hi4, hu4⟩ := (hdl1.to s3).item (i := 1) rfl
            cases ea4
            cases hu4
            obtain ⟨w1, w2, w3⟩ := name_len hw
            refine ⟨_, rfl, a, xs3, _, _, rfl, rfl, hT3, hi3, _, rfl, a, xs4, _, _, rfl, rfl, hT4, hi4, .inr (.inl ⟨_, rfl, _, _, rfl, rfl, ?_, _, _, rfl, rfl, ?_, ?_⟩)⟩
            · rw [lit_open, sO_len, sO_len, sizeLine_eq]
              show 1 + _ ≤ _
              omega
            · rw [lit_open, sO_app, sO_len, lit_eq, sO_len, sizeLine_eq]
              simp only [List.length_append, List.length_cons, List.length_nil]
              omega
            have ev : valV (mergeK [] [((.inr "sum" : Key), V.str "(+"), (.inr "product", .str "(*")]) (.inr ("let" : Str)) = none := by decide +kernel
            refine ⟨_, .inl ⟨_, .inr ("let" : Str), .inl gd, rfl, rfl⟩, ?_⟩
            rw [ev]
            rw [Option.getD_none, lit_open, sO_app, lit_eq, sO_app]
            have ol : ([40] ++ w ++ [32, 61]).length = w.length + 3 := by simp
            refine ⟨⟨_, rfl⟩, _, rfl, sizeL (m := 1) (Nat.le_refl _), fun q nq => ⟨_, rfl, q, L, _, _, rfl, rfl, upd_same, (upd_ne (ne_of_none (s3 _ _ hL) nq)).trans (s3 _ _ hL), ?_, fun s' ns => ⟨_, s', sO ([40] ++ w ++ [32, 61]) :: l.map (fun x => sO x.word), rfl, rfl, .inl (SqL.of upd_same), ?_, _, _, rfl, rfl, ?_, ?_⟩⟩⟩
            · rw [List.length_map, hlw, sizeLine_eq]
              show 1 + _ ≤ _
              omega
            · rw [List.map_cons, List.sum_cons, List.length_cons, hlw, blank, sO_len, sO_len]
              rw [ol]
              show w.length + 3 + _ + (l.length + 1) * 1 ≤ _
              omega
            · rw [blank, join_cons, lit_close, sO_len, sO_len, sizeLine_eq, List.length_append]
              rw [ol]
              show w.length + 3 + _ + 1 ≤ _
              omega
            · rw [blank, join_cons, lit_close, sO_app, List.append_assoc]
              exact k _ (((s1.trans s3).trans (K0.same_upd nq)).trans (K0.same_upd ns))
end
end K1
set_option maxHeartbeats 4000000
/-! _law_text, _law_spans -/
namespace K1
open PySem L2
def spText (K : PySem.W.Frag) : Sp := fun vs H Q _ => ∃ v its, vs = [v] ∧ its.length ≤ 4 ∧ (∀ x ∈ its, Dr 3 x) ∧ DQ K H v (.tuple (datL its)) ∧ ∀ H', Same H H' → Q (.str (sO (textM its))) H'
theorem gapped_app : ∀ (l m : List It), gapped (l ++ m) = gapped l ++ gapped m
  | [], m => by rw [gapped]; rfl
  | x :: r, m => by
    rw [List.cons_append, gapped, gapped, gapped_app r m]
    simp
theorem rowsL_snoc (x : It) : ∀ (l : List It) (p : List Int) (k a : Nat), rowsL p k a (l ++ [x]) = rowsL p k a l ++ x.rows (p ++ [((k + l.length : Nat) : Int)]) (a + (gapped l).length)
  | [], p, k, a => by
    rw [List.nil_append, rowsL, rowsL, rowsL, gapped]
    simp
  | y :: r, p, k, a => by
    rw [List.cons_append, rowsL, rowsL, rowsL_snoc x r, List.append_assoc, gapped]
    have e1 : k + 1 + r.length = k + (y :: r).length := by rw [List.length_cons]; omega
    have e2 : a + y.word.length + 1 + (gapped r).length = a + (32 :: (y.word ++ gapped r)).length := by
      rw [List.length_cons, List.length_append]; omega
    rw [e1, e2]
section
variable {P : Program} {w : World} {K : PySem.W.Frag} {mg : Str → Option Value} {base : Heap}
theorem sc_text : FnScope ["_law_program_here", "_law_item_here"] ["_law_program_here"] (defScope (top 31)) := ⟨rfl, rfl, rfl, by decide +kernel, rfl, by decide +kernel, by decide +kernel⟩
theorem cl_text (T : All K mg) : ClG P w K mg base 5 "_law_text" ["_law_program_here"] (spText K) := by
  obtain ⟨g, fd, D⟩ := T.dn 31 _ _ rfl
  have IH : ClG P w K mg base 4 "_law_word" ["_law_item_here"] (spWord K 3) := cl_word T 3 (Nat.le_refl _)
  refine ⟨g, fd, okG D.fn sc_text (fun vs H Q E h => ?_) (fun cdv A outer s H vs Q E hgd hr h => ?_), D.mg, D.fn.kp, D.bn⟩
  · obtain ⟨v, its, rfl, _⟩ := h
    rfl
  · obtain ⟨v, its, rfl, hl, hc, hd, k⟩ := h
    refine ⟨_, (pss_one (ps_ret (pe_join pe_str (pe_lc (own := [("_law_item_here", 1)]) (g := gName 1) (tt := tYes) (te := (tCall (spWord K 3) [] E0 (tCons (tVar 1) tNil))) rfl sc_text.nd (pi_tup (pv 0)) (blkOk_by (own := [("_law_item_here", 1)]) (N := ["_law_program_here", "_law_item_here"]) (sc := defScope (top 31)) (by decide +kernel)) (fun _ _ _ _ _ => (pg_name (i := 1) sc_text.nd rfl (Or.inl rfl))) (fun _ _ _ _ _ => pts_nil) (fun _ _ _ _ _ => (pe_clG IH hgd hr (by decide) (pa_cons (pv 1) pa_nil))))))), ?_⟩
    obtain ⟨ti, xs2, rfl, hT2, hD2⟩ : ∃ ti xs2, v = .ref ti ∧ SqT K H ti xs2 ∧ DQs K H xs2 (datL its) := by
      cases hd with
      | tup h1 h2 => exact ⟨_, _, rfl, h1, h2⟩
    have lx2 : xs2.length = its.length := by rw [hD2.len, datL_map, List.length_map]
    refine ⟨⟨_, rfl⟩, _, rfl, ti, rfl, ⟨_, hT2⟩, fun L nL => ?_⟩
    refine lc_funT2 (K := K) (a := ti) (xs := xs2) (j := 1) (fun i => V.str (sO ((its.getD i (.leaf [] [])).word))) nL hT2 (by omega) (fun _ => rfl) ?_ ?_
    · intro i y H' Q' hy s' q'
      have hlt := (List.getElem?_eq_some_iff.mp hy).1
      have el : its[i]? = some its[i] := List.getElem?_eq_getElem (by omega)
      obtain ⟨y', ey, dy⟩ := hD2.get (i := i) (d := its[i].dat) (by rw [datL_map, List.getElem?_map, el]; rfl)
      rw [hy] at ey
      cases ey
      refine ⟨_, rfl, y, its[i], rfl, hc _ (List.getElem_mem _), dy.to s', fun H'' s'' => ?_⟩
      have := q' H'' s''
      rw [List.getD_eq_getElem?_getD, el] at this
      exact this
    · intro H1 s1 hL
      rw [lx2, range_words] at hL
      have hBl : ∀ x ∈ its, x.word.length ≤ 251 := fun x hx => Nat.le_trans (hc x hx).len (by decide)
      have hsum := sum_words hBl
      have sum3 : its.length * 251 ≤ 4 * 251 := Nat.mul_le_mul_right _ hl
      refine ⟨_, L, its.map (fun x => sO x.word), rfl, rfl, .inl (SqL.of hL), ?_, ?_⟩
      · rw [List.length_map, blank, sO_len]
        show _ + its.length * 1 ≤ _
        omega
      · rw [blank, join_words]
        exact k H1 s1
end
end K1
set_option maxHeartbeats 4000000
/-! nested, as data: what is gathered at each path when the rows are walked from the last one to the first -/
namespace K1
open PySem
mutual
def It.ph (p : List Int) : It → List (List Int × List PyData)
  | .leaf h _ => [(p, h)]
  | .node h _ _ l => (p, h) :: phL p 0 l
def phL (p : List Int) (k : Nat) : List It → List (List Int × List PyData)
  | [] => []
  | x :: r => x.ph (p ++ [(k : Int)]) ++ phL p (k + 1) r
end
/-- leaves hold nothing, nodes do -/
inductive HI : It → Prop
  | leaf {h : List PyData} {w : List Nat} (e : holdH h = false) : HI (.leaf h w)
  | node {h : List PyData} {o : List Nat} {b : Bool} {l : List It} (e : holdH h = true) (hl : ∀ x ∈ l, HI x) : HI (.node h o b l)
abbrev FnP := List Int → List PyData
def itemF (f : FnP) (r : List Int × List PyData) : PyData := if holdH r.2 = true then .tuple (r.2 ++ [.tuple (f r.1).reverse]) else .tuple r.2
def stepF (f : FnP) (r : List Int × List PyData) : FnP := fun q => if q = r.1.dropLast then f q ++ [itemF f r] else f q
def runF (rs : List (List Int × List PyData)) (f : FnP) : FnP := rs.foldr (fun r f => stepF f r) f
theorem runF_app (a b : List (List Int × List PyData)) (f : FnP) : runF (a ++ b) f = runF a (runF b f) := List.foldr_append
def Under (p : List Int) (k : Nat) (q : List Int) : Prop := ∃ (i : Nat) (r : List Int), q = p ++ ((i : Int) :: r) ∧ k ≤ i
theorem under_len {p q : List Int} {k : Nat} (h : Under p k q) : p.length < q.length := by
  obtain ⟨i, r, rfl, _⟩ := h
  rw [List.length_append, List.length_cons]
  omega
def NestI (x : It) : Prop := ∀ (p : List Int) (f : FnP), p ≠ [] → (∀ r, f (p ++ r) = []) → runF (x.ph p) f p.dropLast = f p.dropLast ++ [x.dat] ∧ ∀ q, q ≠ p.dropLast → (∀ r, q ≠ p ++ r) → runF (x.ph p) f q = f q
theorem nest_list : ∀ {l : List It}, (∀ x ∈ l, NestI x) → ∀ (p : List Int) (k : Nat) (f : FnP), (∀ q, Under p k q → f q = []) →
    runF (phL p k l) f p = f p ++ (datL l).reverse ∧ ∀ q, q ≠ p → ¬ Under p k q → runF (phL p k l) f q = f q
  | [], _, p, k, f, _ => by
    rw [phL, datL]
    exact ⟨by simp [runF], fun q _ _ => rfl⟩
  | x :: l, h, p, k, f, fr => by
    rw [phL, datL, runF_app]
    obtain ⟨a1, a2⟩ := nest_list (fun y hy => h y (List.mem_cons_of_mem _ hy)) p (k + 1) f (fun q ⟨i, r, e, hi⟩ => fr q ⟨i, r, e, by omega⟩)
    have dl : (p ++ [(k : Int)]).dropLast = p := List.dropLast_concat
    have notup : ∀ r, ¬ Under p (k + 1) ((p ++ [(k : Int)]) ++ r) := fun r ⟨i, r', e, hi⟩ => by
      rw [List.append_assoc] at e
      have e2 := List.append_cancel_left e
      rw [List.singleton_append] at e2
      have e3 := (List.cons.inj e2).1
      omega
    have ne : ∀ r, (p ++ [(k : Int)]) ++ r ≠ p := fun r e => by
      have := congrArg List.length e
      rw [List.length_append, List.length_append, List.length_singleton] at this
      omega
    obtain ⟨b1, b2⟩ := h x List.mem_cons_self (p ++ [(k : Int)]) (runF (phL p (k + 1) l) f) (by simp) (fun r => by
      rw [a2 _ (ne r) (notup r)]
      exact fr _ ⟨k, r, by rw [List.append_assoc]; rfl, Nat.le_refl _⟩)
    rw [dl] at b1 b2
    refine ⟨by rw [b1, a1, List.reverse_cons, List.append_assoc], fun q n1 n2 => ?_⟩
    rw [b2 q n1 (fun r e => n2 ⟨k, r, by rw [e, List.append_assoc]; rfl, Nat.le_refl _⟩)]
    exact a2 q n1 fun ⟨i, r, e, hi⟩ => n2 ⟨i, r, e, by omega⟩
theorem nest_item {x : It} (ok : HI x) : NestI x := by
  induction ok with
  | @leaf h w e =>
    intro p f hp fr
    rw [It.ph, It.dat]
    have ei : itemF f (p, h) = .tuple h := by
      unfold itemF
      rw [e]
      rfl
    refine ⟨?_, fun q n1 _ => ?_⟩
    · show (if _ then _ else _) = _
      rw [if_pos rfl]
      show _ ++ [itemF f (p, h)] = _
      rw [ei]
      rfl
    · show (if _ then _ else _) = _
      rw [if_neg n1]
      rfl
  | @node h o b l e hl ih =>
    intro p f hp fr
    rw [It.ph, It.dat]
    obtain ⟨a1, a2⟩ := nest_list ih p 0 f (fun q ⟨i, r, e, _⟩ => by rw [e]; exact fr _)
    have f0 : f p = [] := by
      have := fr []
      rw [List.append_nil] at this
      exact this
    rw [f0, List.nil_append] at a1
    have ei : itemF (runF (phL p 0 l) f) (p, h) = .tuple (h ++ [.tuple (datL l)]) := by
      unfold itemF
      rw [e]
      show PyData.tuple (h ++ [.tuple (runF (phL p 0 l) f p).reverse]) = _
      rw [a1, List.reverse_reverse]
    have hlen : p.dropLast.length < p.length := by
      rw [List.length_dropLast]
      have : 0 < p.length := List.length_pos_iff.mpr hp
      omega
    refine ⟨?_, fun q n1 n2 => ?_⟩
    · show (if _ then _ else _) = _
      rw [if_pos rfl]
      show _ ++ [itemF (runF (phL p 0 l) f) (p, h)] = _
      rw [ei]
      have := a2 p.dropLast (fun z => by rw [z] at hlen; omega) (fun u => by have := under_len u; omega)
      show runF (phL p 0 l) f p.dropLast ++ _ = _
      rw [this]
    · show (if _ then _ else _) = _
      rw [if_neg n1]
      show runF (phL p 0 l) f q = f q
      refine a2 q (fun z => n2 [] (by rw [z, List.append_nil])) fun ⟨i, r, e, _⟩ => n2 _ e
def fNil : FnP := fun _ => []
/-- what stands at the root at the end -/
theorem nest_all {l : List It} (ok : ∀ x ∈ l, HI x) : (runF (phL [] 0 l) fNil []).reverse = datL l := by
  have := (nest_list (fun x hx => nest_item (ok x hx)) [] 0 fNil (fun q _ => rfl)).1
  rw [this]
  show ([] ++ (datL l).reverse).reverse = _
  rw [List.nil_append, List.reverse_reverse]
mutual
theorem ph_paths : ∀ (x : It) (p : List Int) (a : Nat), (x.ph p).map (·.1) = (x.rows p a).map (·.1)
  | .leaf _ _, p, a => by rw [It.ph, It.rows]; rfl
  | .node _ _ _ l, p, a => by
    rw [It.ph, It.rows, List.map_cons, List.map_cons, phL_paths l]
theorem phL_paths : ∀ (l : List It) (p : List Int) (k a : Nat), (phL p k l).map (·.1) = (rowsL p k a l).map (·.1)
  | [], p, k, a => by rw [phL, rowsL]; rfl
  | x :: l, p, k, a => by
    rw [phL, rowsL, List.map_append, List.map_append, ph_paths x _ a, phL_paths l]
end
mutual
theorem ph_heads : ∀ (x : It) (p : List Int), (x.ph p).map (·.2) = x.hds
  | .leaf _ _, p => by rw [It.ph, It.hds]; rfl
  | .node _ _ _ l, p => by rw [It.ph, It.hds, List.map_cons, phL_heads l]
theorem phL_heads : ∀ (l : List It) (p : List Int) (k : Nat), (phL p k l).map (·.2) = hdsL l
  | [], p, k => by rw [phL, hdsL]; rfl
  | x :: l, p, k => by rw [phL, hdsL, List.map_append, ph_heads x, phL_heads l]
end
end K1
set_option maxHeartbeats 4000000
/-! the dict of nested, in the heap -/
namespace K1
open PySem L2
/-- an entry: its key, the key's address, the address of its list -/
abbrev Ek := List Int × Addr × Addr
def enX (es : List Ek) : List DX.En := es.map fun e => (e.1, e.2.1, V.ref e.2.2)
def valK (es : List Ek) (k : List Int) : Option Addr := (es.find? fun e => decide (e.1 = k)).map (·.2.2)
theorem val_enX : ∀ (es : List Ek) (k : List Int), DX.valX (enX es) k = (valK es k).map V.ref
  | [], k => rfl
  | e :: es, k => by
    have ih := val_enX es k
    unfold DX.valX valK enX at *
    rw [List.map_cons, List.find?_cons, List.find?_cons]
    cases h : decide (e.1 = k) with
    | true => rfl
    | false => exact ih
theorem valK_mem {es : List Ek} {k : List Int} {c : Addr} (h : valK es k = some c) : ∃ e ∈ es, e.1 = k ∧ e.2.2 = c := by
  unfold valK at h
  obtain ⟨e, he, rfl⟩ := Option.map_eq_some_iff.mp h
  have hd := List.find?_some he
  rw [decide_eq_true_eq] at hd
  exact ⟨e, List.mem_of_find?_eq_some he, hd, rfl⟩
theorem valK_none {es : List Ek} {k : List Int} (h : valK es k = none) : ∀ e ∈ es, e.1 ≠ k := fun e he z => by
  unfold valK at h
  rw [Option.map_eq_none_iff, List.find?_eq_none] at h
  exact h e he (decide_eq_true z)
theorem valK_snoc {es : List Ek} {e : Ek} (h : valK es e.1 = none) : valK (es ++ [e]) e.1 = some e.2.2 := by
  unfold valK at *
  rw [Option.map_eq_none_iff] at h
  rw [List.find?_append, h, Option.none_or, List.find?_cons, decide_eq_true rfl]
  rfl
theorem valK_other {es : List Ek} {e : Ek} {k : List Int} (h : valK (es ++ [e]) k = none) : valK es k = none ∧ e.1 ≠ k := by
  have a := valK_none h
  refine ⟨?_, a e (by simp)⟩
  unfold valK
  rw [Option.map_eq_none_iff, List.find?_eq_none]
  exact fun x hx => by
    rw [decide_eq_true_eq]
    exact a x (by simp [hx])
def celL (a : Addr) (es : List Ek) : List Addr := a :: es.map (·.2.2)
/-- the dict stands at a, its lists hold what f tells -/
structure NAt (P : Program) (w : World) (K : PySem.W.Frag) (H0 H : Hp) (a : Addr) (es : List Ek) (f : FnP) (n : Nat) : Prop where
  at_ : H a = some (DX.dxO P w a (enX es))
  new : H0 a = none
  cel : ∀ e ∈ es, H0 e.2.2 = none ∧ e.2.2 ≠ a ∧ ∃ us, H e.2.2 = some (.lst us) ∧ us.length ≤ n ∧ DQs K (hidS (celL a es) H) us (f e.1)
  key : ∀ e ∈ es, SqT K (hidS (celL a es) H) e.2.1 (e.1.map V.int)
  nd : (es.map (·.2.2)).Nodup
  ndk : (es.map (·.1)).Nodup
  abs : ∀ k, valK es k = none → f k = []
  same : Same H0 H
variable {P : Program} {w : World} {K : PySem.W.Frag} {H0 H H' : Hp} {a : Addr} {es : List Ek} {f : FnP} {n : Nat}
theorem NAt.dxk (A : NAt P w K H0 H a es f n) : DX.DxK K H (enX es) := fun x hx => by
  obtain ⟨e, he, rfl⟩ := List.mem_map.mp hx
  exact K0.seqT_same (hidS_in _ _) (A.key e he)
theorem NAt.grow (A : NAt P w K H0 H a es f n) (s : Same H H') : NAt P w K H0 H' a es f n :=
  ⟨s _ _ A.at_, A.new, fun e he => by
    obtain ⟨h1, h2, us, h3, h4, h5⟩ := A.cel e he
    exact ⟨h1, h2, us, s _ _ h3, h4, h5.to (hidS_more s)⟩, fun e he => K0.seqT_same (hidS_more s) (A.key e he), A.nd, A.ndk, A.abs, A.same.trans s⟩
/-- what was there before stands beside it -/
theorem NAt.old (A : NAt P w K H0 H a es f n) : Same H0 (hidS (celL a es) H) := fun b u e => by
  refine hidS_of (fun z => ?_) (A.same _ _ e)
  rcases List.mem_cons.mp z with rfl | z
  · rw [A.new] at e
    cases e
  · obtain ⟨x, hx, rfl⟩ := List.mem_map.mp z
    rw [(A.cel x hx).1] at e
    cases e
theorem NAt.fresh (A : NAt P w K H0 H a es f n) {t : Addr} (nt : H t = none) : t ∉ celL a es := fun z => by
  rcases List.mem_cons.mp z with rfl | z
  · rw [A.at_] at nt
    cases nt
  · obtain ⟨x, hx, rfl⟩ := List.mem_map.mp z
    obtain ⟨_, _, us, h3, _⟩ := A.cel x hx
    rw [h3] at nt
    cases nt
theorem NAt.get (A : NAt P w K H0 H a es f n) {k : List Int} {c : Addr} (h : valK es k = some c) : ∃ us, H c = some (.lst us) ∧ us.length ≤ n ∧ DQs K (hidS (celL a es) H) us (f k) := by
  obtain ⟨e, he, rfl, rfl⟩ := valK_mem h
  obtain ⟨_, _, us, h3, h4, h5⟩ := A.cel e he
  exact ⟨us, h3, h4, h5⟩
theorem nodup_inj {α β : Type} {g : α → β} : ∀ {l : List α}, (l.map g).Nodup → ∀ {x y : α}, x ∈ l → y ∈ l → g x = g y → x = y
  | [], _, _, _, hx, _, _ => by cases hx
  | z :: l, h, x, y, hx, hy, e => by
    rw [List.map_cons, List.nodup_cons] at h
    rcases List.mem_cons.mp hx with rfl | hx2
    · rcases List.mem_cons.mp hy with rfl | hy2
      · rfl
      · exact absurd (e ▸ List.mem_map_of_mem hy2) h.1
    · rcases List.mem_cons.mp hy with rfl | hy2
      · exact absurd (e ▸ List.mem_map_of_mem hx2) h.1
      · exact nodup_inj h.2 hx2 hy2 e
/-- an item more in one of its lists -/
theorem NAt.more (A : NAt P w K H0 H a es f n) {k : List Int} {c : Addr} {us : List V} {v : V} {d : PyData} (h : valK es k = some c) (hc : H c = some (.lst us)) (hv : DQ K (hidS (celL a es) H) v d) :
    NAt P w K H0 (upd H c (.lst (us ++ [v]))) a es (fun q => if q = k then f q ++ [d] else f q) (n + 1) := by
  obtain ⟨e0, he0, rfl, rfl⟩ := valK_mem h
  have hin : e0.2.2 ∈ celL a es := List.mem_cons_of_mem _ (List.mem_map_of_mem he0)
  obtain ⟨g1, g2, us', g3, g4, g5⟩ := A.cel e0 he0
  rw [hc] at g3
  cases g3
  refine ⟨(upd_ne (Ne.symm g2)).trans A.at_, A.new, fun e he => ?_, fun e he => by rw [hidS_upd hin]; exact A.key e he, A.nd, A.ndk, fun q hq => ?_, fun b u hb => ?_⟩
  · obtain ⟨h1, h2, vs, h3, h4, h5⟩ := A.cel e he
    refine ⟨h1, h2, ?_⟩
    by_cases q : e = e0
    · subst q
      refine ⟨us ++ [v], upd_same, by rw [List.length_append, List.length_singleton]; omega, ?_⟩
      rw [hidS_upd hin, if_pos rfl]
      exact g5.app (.cons hv .nil)
    · refine ⟨vs, (upd_ne (fun z => q (nodup_inj A.nd he he0 z))).trans h3, by omega, ?_⟩
      rw [hidS_upd hin, if_neg (fun z => q (nodup_inj A.ndk he he0 z))]
      exact h5
  · show (if _ then _ else _) = _
    rw [if_neg (fun z => by rw [z, h] at hq; cases hq)]
    exact A.abs q hq
  · rw [upd_ne (fun z => by rw [z, g1] at hb; cases hb)]
    exact A.same _ _ hb
/-- a new entry with a list of nothing -/
theorem NAt.entry (A : NAt P w K H0 H a es f n) {k : List Int} {kb t : Addr} (h : valK es k = none) (hk : SqT K (hidS (celL a es) H) kb (k.map V.int)) (nt : H t = none) :
    NAt P w K H0 (upd (upd H t (.lst [])) a (DX.dxO P w a (enX es ++ [(k, kb, .ref t)]))) a (es ++ [(k, kb, t)]) f n := by
  have ta : t ≠ a := fun z => by rw [z, A.at_] at nt; cases nt
  have n0 : H0 t = none := by
    cases e : H0 t with
    | none => rfl
    | some u =>
      rw [A.same _ _ e] at nt
      cases nt
  have cells : celL a (es ++ [(k, kb, t)]) = celL a es ++ [t] := by
    unfold celL
    rw [List.map_append]
    rfl
  have s : Same (hidS (celL a es) H) (hidS (celL a (es ++ [(k, kb, t)])) (upd (upd H t (.lst [])) a (DX.dxO P w a (enX es ++ [(k, kb, .ref t)])))) := fun b u e => by
    obtain ⟨h1, h2⟩ := hidS_at e
    have bt : b ≠ t := fun z => by rw [z, nt] at h2; cases h2
    have ba : b ≠ a := fun z => h1 (by rw [z]; exact List.mem_cons_self)
    refine hidS_of (fun z => ?_) (by rw [upd_ne ba, upd_ne bt]; exact h2)
    rw [cells] at z
    rcases List.mem_append.mp z with z | z
    · exact h1 z
    · exact bt (List.mem_singleton.mp z)
  refine ⟨by rw [upd_same]; unfold enX; rw [List.map_append]; rfl, A.new, fun e he => ?_, fun e he => ?_, ?_, ?_, fun q hq => A.abs q (valK_other hq).1, fun b u hb => ?_⟩
  · rcases List.mem_append.mp he with he | he
    · obtain ⟨h1, h2, us, h3, h4, h5⟩ := A.cel e he
      have et : e.2.2 ≠ t := fun z => by rw [z, nt] at h3; cases h3
      exact ⟨h1, h2, us, by rw [upd_ne h2, upd_ne et]; exact h3, h4, h5.to s⟩
    · rw [List.mem_singleton.mp he]
      refine ⟨n0, ta, [], by rw [upd_ne ta, upd_same], Nat.zero_le _, ?_⟩
      show DQs K _ [] (f k)
      rw [A.abs k h]
      exact .nil
  · rcases List.mem_append.mp he with he | he
    · exact K0.seqT_same s (A.key e he)
    · rw [List.mem_singleton.mp he]
      exact K0.seqT_same s hk
  · rw [List.map_append, List.nodup_append]
    refine ⟨A.nd, by simp, fun x hx y hy => ?_⟩
    rw [List.map_singleton, List.mem_singleton] at hy
    rw [hy]
    rintro rfl
    exact A.fresh nt (List.mem_cons_of_mem _ hx)
  · rw [List.map_append, List.nodup_append]
    refine ⟨A.ndk, by simp, fun x hx y hy => ?_⟩
    rw [List.map_singleton, List.mem_singleton] at hy
    obtain ⟨e, he, rfl⟩ := List.mem_map.mp hx
    rw [hy]
    exact valK_none h e he
  · rw [upd_ne (fun z => by rw [z, A.new] at hb; cases hb), upd_ne (ne_of_none (A.same _ _ hb) nt)]
    exact A.same _ _ hb
end K1
set_option maxHeartbeats 4000000
/-! _in_order, nested -/
namespace K1
open PySem L2
theorem NAt.rebase {P : Program} {w : World} {K : PySem.W.Frag} {H0 H : Hp} {a : Addr} {es : List Ek} {f : FnP} {n : Nat} (A : NAt P w K H0 H a es f n) : NAt P w K (hidS (celL a es) H) H a es f n := by
  have no : ∀ b ∈ celL a es, hidS (celL a es) H b = none := fun b hb => by
    unfold hidS
    rw [if_pos hb]
  refine ⟨A.at_, no a List.mem_cons_self, fun e he => ?_, A.key, A.nd, A.ndk, A.abs, hidS_in _ _⟩
  obtain ⟨_, h2, r⟩ := A.cel e he
  exact ⟨no _ (List.mem_cons_of_mem _ (List.mem_map_of_mem he)), h2, r⟩
theorem DQs.rev {K : PySem.W.Frag} {H : Hp} : ∀ {vs : List V} {ds : List PyData}, DQs K H vs ds → DQs K H vs.reverse ds.reverse
  | _, _, .nil => .nil
  | _, _, .cons h t => by
    rw [List.reverse_cons, List.reverse_cons]
    exact t.rev.app (.cons h .nil)
theorem dqs_ints {K : PySem.W.Frag} {H : Hp} : ∀ {vs : List V} {p : List Int}, DQs K H vs (p.map PyData.int) → vs = p.map V.int
  | [], [], _ => rfl
  | _ :: _, [], h => by cases h
  | [], _ :: _, h => by cases h
  | v :: vs, i :: p, h => by
    cases h with
    | cons h1 h2 =>
      cases h1
      rw [List.map_cons, ← dqs_ints h2]
theorem cut_last {p : List Int} (h : p ≠ []) : cutV (p.map V.int) none (some (-1)) = p.dropLast.map V.int ∧ ¬ (HT.sIx (p.map V.int).length 0 none = 0 ∧ HT.sIx (p.map V.int).length (p.map V.int).length (some (-1)) = (p.map V.int).length) := by
  have hl : 0 < p.length := List.length_pos_iff.mpr h
  have e : HT.sIx (p.map V.int).length (p.map V.int).length (some (-1)) = p.length - 1 := by
    rw [List.length_map]
    show (if (-1 : Int) < 0 then ((-1 : Int) + (p.length : Int)).toNat else min (-1 : Int).toNat p.length) = _
    rw [if_pos (by decide)]
    omega
  refine ⟨?_, fun z => ?_⟩
  · unfold cutV
    rw [e]
    show List.take (p.length - 1 - 0) (List.drop 0 (p.map V.int)) = _
    rw [List.drop_zero, Nat.sub_zero, ← List.map_take, List.dropLast_eq_take]
  · rw [e, List.length_map] at z
    omega
def spOrd : Sp := fun vs H Q _ => ∃ c us, vs = [.ref c] ∧ H c = some (.lst us) ∧ ∀ H' t, Same H H' → H t = none → H' t = some (.tup us.reverse) → Q (.ref t) H'
/-- what nested gathers -/
def nestD (ps : List (List Int)) (hs : List (List PyData)) : PyData := .tuple (runF (ps.zip hs) fNil []).reverse
def spNested (K : PySem.W.Frag) : Sp := fun vs H Q _ => ∃ (p1 p2 : Addr) (vp vh : List V) (ps : List (List Int)) (hs : List (List PyData)), vs = [.ref p1, .ref p2] ∧ SqL K H p1 vp ∧ SqL K H p2 vh ∧ DQs K H vp (ps.map pathD) ∧ DQs K H vh (hs.map .tuple) ∧ ps.length = hs.length ∧ hs.length ≤ 1500 ∧
  (∀ p ∈ ps, p ≠ [] ∧ p.length ≤ 1000) ∧ (∀ h ∈ hs, ∃ x t, h = .str x :: t ∧ holdH h = holdsD (.str x) ∧ t.length ≤ 10) ∧ ∀ H' u, Same H H' → DQ K H' u (nestD ps hs) → Q u H'
/-- {(): []} -/
def tRoot (P : Program) (w : World) (K : PySem.W.Frag) : TE := fun _ H Q => ∀ J a tb c0, NAt P w K H J a [([], tb, c0)] fNil 0 → Q (.ref a) J
/-- what one row is read as -/
def tItem (P : Program) (w : World) (K : PySem.W.Frag) : TE := fun σ H Q => ∃ (H0 : Hp) (a pa ta : Addr) (es : List Ek) (f : FnP) (n : Nat) (p : List Int) (x : Str) (t : List PyData), σ[2]? = some (some (.ref a)) ∧ σ[3]? = some (some (.ref pa)) ∧ σ[4]? = some (some (.ref ta)) ∧ NAt P w K H0 H a es f n ∧ n ≤ 1500 ∧
  SqT K H pa (p.map V.int) ∧ DQ K (hidS (celL a es) H) (.ref ta) (.tuple (.str x :: t)) ∧ t.length ≤ 10 ∧ holdH (.str x :: t) = holdsD (.str x) ∧ ∀ H' u, Same H H' → DQ K (hidS (celL a es) H') u (itemF f (p, .str x :: t)) → Q u H'
section
variable {P : Program} {w : World} {K : PySem.W.Frag} {mg : Str → Option Value} {base : Heap}
theorem sc_ord : FnScope ["parts"] ["parts"] (defScope (top 18)) := ⟨rfl, rfl, rfl, by decide +kernel, rfl, by decide +kernel, by decide +kernel⟩
theorem cl_ord (T : All K mg) : Cl P w K mg base 1 "_in_order" ["parts"] spOrd := by
  obtain ⟨g, fd, D⟩ := T.dn 18 _ _ rfl
  refine D.cl (D.fn.ok sc_ord (fun vs H Q E h => ?_) (fun cdv A outer s H vs Q E hr h => ?_))
  · obtain ⟨c, us, rfl, _⟩ := h
    rfl
  · obtain ⟨c, us, rfl, hc, k⟩ := h
    refine ⟨_, (pss_one (ps_ret (pe_callTy call_tuple_of (by rfl) T.bi.tuple (by decide +kernel) (pa_cons (pe_revL (pv 0)) pa_nil)))), ?_⟩
    refine ⟨_, rfl, c, us, rfl, SqL.of hc, fun p np => ⟨p, us.reverse, rfl, .inl ⟨SqL.of upd_same, fun q nq => ?_⟩⟩⟩
    have s1 := K0.same_upd (o := .lst us.reverse) np
    refine k _ q (s1.trans (K0.same_upd nq)) ?_ upd_same
    cases e : H q with
    | none => rfl
    | some o =>
      rw [s1 _ _ e] at nq
      cases nq
theorem sc_nested : FnScope ["paths", "heads", "parts", "path", "head", "item"] ["paths", "heads"] (defScope (top 17)) := ⟨rfl, rfl, rfl, by decide +kernel, rfl, by decide +kernel, by decide +kernel⟩
theorem cl_nested (T : All K mg) (hzip : mg "zip" = none) : Cl P w K mg base 2 "nested" ["paths", "heads"] (spNested K) := by
  obtain ⟨g, fd, D⟩ := T.dn 17 _ _ rfl
  refine D.cl (D.fn.ok sc_nested (fun vs H Q E h => ?_) (fun cdv A outer s H vs Q E hr h => ?_))
  · obtain ⟨p1, p2, vp, vh, ps, hs, rfl, _⟩ := h
    rfl
  · obtain ⟨p1, p2, vp, vh, ps, hs, rfl, h1, h2, d1, d2, el, ll, hp, hh, k⟩ := h
    refine ⟨_, (pss_cons (ps_set (i := 2) sc_nested.nd rfl (Or.inl rfl) (K0.pe_imp (t' := tRoot P w K) (DX.pe_xdisp (hu_of hr) (pe_tup pa_nil) (pe_lst pa_nil)) (fun σ H Q hh => ?_)))
      (pss_cons (ps_for PassesOwn.never rfl (RZ.pi_zipA rfl hzip (pa_cons (pe_revL (pv 0)) (pa_cons (pe_revL (pv 1)) pa_nil))) (pg_tup (t := (gCons (gName 3) (gCons (gName 4) gNil))) rfl (pgs_cons (pg_name (i := 3) sc_nested.nd rfl (Or.inl rfl)) (pgs_cons (pg_name (i := 4) sc_nested.nd rfl (Or.inl rfl)) pgs_nil))) (pss_cons (ps_set (i := 5) sc_nested.nd rfl (Or.inl rfl) (K0.pe_imp (t' := tItem P w K) (pe_ifExp (pt_val (pe_cl (cl_holds T) hr (by decide) (pa_cons (pe_ix ix_tup (pv 4) pe_int (fun _ _ => rfl)) pa_nil))) (pe_tup (StX.pa_star (pv 4) (pa_cons (pe_cl (cl_ord T) hr (by decide) (pa_cons (DX.pe_xget2 (hu_of hr) (pv 2) (pv 3) (pe_lst pa_nil) ⟨by rfl, by rfl, by rfl, by rfl⟩) pa_nil)) pa_nil))) (pv 4)) (fun σ H Q hh => ?_)))
      (pss_one (ps_expr (pe_bm PySem.F.plainAttrs_list PySem.F.slot_list_append PySem.F.type_list_append mt_append (DX.pe_xsetd (hu_of hr) (pv 2) (pe_slice sl_tup (pv 3) po_none (po_some (pe_un un_neg pe_int))) (pe_lst pa_nil) ⟨by rfl, by rfl, by rfl, by rfl⟩) (pa_cons (pv 5) pa_nil))))))
      (pss_one (ps_ret (pe_cl (cl_ord T) hr (by decide) (pa_cons (DX.pe_xget (hu_of hr) (pv 2) (pe_tup pa_nil) (fun _ _ => rfl)) pa_nil)))))), ?_⟩
    · refine fun a na => ⟨Nat.zero_le _, fun tb ntb => ⟨Nat.zero_le _, fun c0 nc0 => ?_⟩⟩
      have ab : a ≠ tb := fun z => by rw [← z, upd_same] at ntb; cases ntb
      have A0 : NAt P w K H (upd H a (DX.dxO P w a [])) a [] fNil 0 := ⟨upd_same, na, fun e he => (by cases he), fun e he => (by cases he), List.nodup_nil, List.nodup_nil, fun _ _ => rfl, K0.same_upd na⟩
      have s1 := K0.same_upd (o := .tup []) ntb
      have A1 : NAt P w K H _ a [] fNil 0 := A0.grow s1
      have A2 := A1.entry (k := []) (kb := tb) (t := c0) rfl (.inl (.inl (hidS_of (by simp [celL, Ne.symm ab]) upd_same))) nc0
      exact ⟨_, _, tb, [], rfl, rfl, (K0.same_upd nc0) _ _ (s1 _ _ A0.at_), .inl (.inl ((K0.same_upd nc0) _ _ upd_same)), hh _ a tb c0 A2⟩
    · obtain ⟨H0, a, pa, ta, es, f, n, p, x, t, g2, g3, g4, A, hn, hpa, hd, ht, hx, kk⟩ := hh
      have hdk := hd
      obtain ⟨txs, hT0, hD0⟩ : ∃ txs, SqT K (hidS (celL a es) H) ta txs ∧ DQs K (hidS (celL a es) H) txs (.str x :: t) := by
        cases hd with
        | tup g5 g6 => exact ⟨_, g5, g6⟩
      have hT := K0.seqT_same (hidS_in _ _) hT0
      obtain ⟨u1, hu1, du1⟩ := hD0.get (i := 0) rfl
      cases du1
      have hi1 := atI_nat hu1
      have ltx := hD0.len
      rw [List.length_cons] at ltx
      refine ⟨_, g4, ta, txs, _, _, rfl, rfl, hT, hi1, x, rfl, _, rfl, ?_⟩
      unfold itemF at kk
      rw [hx] at kk
      dsimp only at kk
      cases e : holdsD (.str x) with
      | true =>
        rw [e] at kk
        refine iteT ⟨_, g4, ta, txs, rfl, .inl hT, ?_⟩
        refine ⟨_, g2, a, enX es, rfl, .inl A.at_, A.dxk, _, g3, Nat.zero_le _, fun t0 nt0 => ?_⟩
        have s1 := K0.same_upd (o := .lst []) nt0
        have A1 := A.grow s1
        obtain ⟨c, us, ec, hc, dus, lus⟩ : ∃ c us, (DX.valX (enX es) p).getD (.ref t0) = .ref c ∧ (upd H t0 (.lst [])) c = some (.lst us) ∧ DQs K (hidS (celL a es) (upd H t0 (.lst []))) us (f p) ∧ us.length ≤ 1500 := by
          rw [val_enX]
          cases e : valK es p with
          | none =>
            refine ⟨t0, [], rfl, upd_same, ?_, Nat.zero_le _⟩
            rw [A.abs p e]
            exact .nil
          | some c =>
            obtain ⟨us, g5, g6, g7⟩ := A1.get e
            exact ⟨c, us, rfl, g5, g7, by omega⟩
        generalize upd H t0 (.lst []) = H1 at *
        refine ⟨pa, enX es, p, rfl, .inl A1.at_, A1.dxk, K0.seqT_same s1 hpa, ?_⟩
        rw [ec]
        refine ⟨c, us, rfl, hc, fun H2 tt s2 ntt htt => ?_⟩
        refine ⟨by rw [sizeLine_eq, List.length_append, List.length_singleton]; omega, fun q nq => ?_⟩
        have s3 := K0.same_upd (o := .tup (txs ++ [.ref tt])) nq
        have A2 := A1.grow s2
        refine kk _ _ ((s1.trans s2).trans s3) (.tup (.inl (.inl (hidS_of (A2.fresh nq) upd_same))) ?_)
        refine ((hD0.to (hidS_more ((s1.trans s2).trans s3)))).app (.cons (.tup (.inl (.inl (hidS_of (A1.fresh ntt) (s3 _ _ htt)))) ?_) .nil)
        exact (dus.to (hidS_more (s2.trans s3))).rev
      | false =>
        rw [e] at kk
        exact iteF ⟨_, g4, kk H _ (Same.refl H) hdk⟩
    obtain ⟨rows, rfl, rfl⟩ : ∃ rows : List (List Int × List PyData), ps = rows.map (·.1) ∧ hs = rows.map (·.2) := ⟨ps.zip hs, (List.map_fst_zip (by omega)).symm, (List.map_snd_zip (by omega)).symm⟩
    have ez : (rows.map (·.1)).zip (rows.map (·.2)) = rows := by
      clear h1 h2 d1 d2 el ll hp hh k
      induction rows with
      | nil => rfl
      | cons r rs ih => rw [List.map_cons, List.map_cons, List.zip_cons_cons, ih]
    unfold nestD at k
    rw [ez] at k
    rw [List.length_map] at ll
    refine fun J0 a tb c0 A2 => ?_
    have sJ0 := A2.same
    refine ⟨_, rfl, p1, vp, rfl, sJ0.seq h1, fun q1 nq1 => ?_⟩
    have s2 := K0.same_upd (o := .lst vp.reverse) nq1
    refine ⟨_, rfl, p2, vh, rfl, s2.seq (sJ0.seq h2), fun q2 nq2 => ?_⟩
    have s3 := K0.same_upd (o := .lst vh.reverse) nq2
    have f1 := s3 _ _ (@upd_same J0 q1 (.lst vp.reverse))
    have A3 := A2.grow s2
    have A4 := A3.grow s3
    have n1 := A2.fresh nq1
    have n2 := A3.fresh nq2
    have B := A4.rebase
    have SO := A4.old
    have f2 := @upd_same (upd J0 q1 (.lst vp.reverse)) q2 (.lst vh.reverse)
    generalize upd (upd J0 q1 (.lst vp.reverse)) q2 (.lst vh.reverse) = J1 at f1 f2 A4 B SO ⊢
    have g1 := hidS_of n1 f1
    have g2 := hidS_of n2 f2
    have e1 := (d1.to SO).rev
    have e2 := (d2.to SO).rev
    generalize hidS (celL a [([], tb, c0)]) J1 = HB at *
    have lv : vp.length = rows.length := by rw [d1.len, List.length_map, List.length_map]
    have lh : vh.length = rows.length := by rw [d2.len, List.length_map, List.length_map]
    refine ⟨q1, q2, vp.reverse, vh.reverse, rfl, .inl ⟨SqL.of f1, SqL.of f2, ?_⟩⟩
    refine RZ.for_zipL (K := K) (by rw [List.length_reverse, List.length_reverse, lv, lh]) (fun i σ J => ∃ es z3 z4 z5, σ = [some (.ref p1), some (.ref p2), some (.ref a), z3, z4, z5] ∧ NAt P w K HB J a es ((rows.reverse.take i).foldl stepF fNil) i ∧ valK es [] ≠ none ∧ es.length ≤ i + 1) ⟨[([], tb, c0)], _, _, _, rfl, B, by simp [valK], Nat.le_refl _⟩ (fun i σ J ⟨es, z3, z4, z5, _, A, _, _⟩ => ⟨SqL.of (A.same _ _ g1), SqL.of (A.same _ _ g2)⟩) ?_ ?_
    · rintro i x y TT σ J hx hy ⟨es, z3, z4, z5, rfl, A, hroot, few⟩ nT
      have hlt : i < rows.reverse.length := by
        have := (List.getElem?_eq_some_iff.mp hx).1
        rw [List.length_reverse] at this ⊢
        omega
      have er : rows.reverse[i]? = some rows.reverse[i] := List.getElem?_eq_getElem hlt
      have hmem : rows.reverse[i] ∈ rows := List.mem_reverse.mp (List.getElem_mem hlt)
      rw [List.length_reverse] at hlt
      generalize rows.reverse[i] = r at er hmem
      have tk : rows.reverse.take (i + 1) = rows.reverse.take i ++ [r] := by rw [List.take_succ, er]; rfl
      obtain ⟨x', ex, dx⟩ := e1.get (i := i) (d := pathD r.1) (by rw [← List.map_reverse, ← List.map_reverse, List.getElem?_map, List.getElem?_map, er]; rfl)
      rw [hx] at ex
      cases ex
      obtain ⟨y', ey, dy⟩ := e2.get (i := i) (d := .tuple r.2) (by rw [← List.map_reverse, ← List.map_reverse, List.getElem?_map, List.getElem?_map, er]; rfl)
      rw [hy] at ey
      cases ey
      obtain ⟨pn, pl⟩ := hp r.1 (List.mem_map_of_mem hmem)
      obtain ⟨xx, tt, eh, hx2, lt2⟩ := hh r.2 (List.mem_map_of_mem hmem)
      obtain ⟨pa, rfl, hpa⟩ : ∃ pa, x = .ref pa ∧ SqT K HB pa (r.1.map V.int) := by
        cases dx with
        | tup h3 h4 =>
          have := dqs_ints h4
          rw [this] at h3
          exact ⟨_, rfl, h3⟩
      obtain ⟨ta, rfl⟩ : ∃ ta, y = .ref ta := by
        cases dy with
        | tup _ _ => exact ⟨_, rfl⟩
      have sT := K0.same_upd (o := .tup [V.ref pa, .ref ta]) nT
      have A1 := A.grow sT
      refine ⟨TT, _, rfl, .inl (.inl upd_same), rfl, _, _, rfl, _, _, rfl, rfl, ?_⟩
      generalize upd J TT (.tup [V.ref pa, .ref ta]) = J2 at A1 ⊢
      rw [eh] at dy hx2
      refine ⟨HB, a, pa, ta, es, _, i, r.1, xx, tt, rfl, rfl, rfl, A1, by omega, K0.seqT_same A1.same hpa, dy.to A1.old, lt2, hx2, fun J3 item s3 dit => ?_⟩
      rw [← eh] at dit
      have A2' := A1.grow s3
      refine ⟨_, rfl, a, enX es, rfl, .inl A2'.at_, A2'.dxk, _, rfl, 1, rfl, ?_⟩
      obtain ⟨c1, c2⟩ := cut_last pn
      refine ⟨-1, rfl, pa, r.1.map V.int, rfl, K0.seqT_same A2'.same hpa, c2, fun kb nkb => ⟨Nat.zero_le _, fun t1 nt1 => ?_⟩⟩
      have s4 := K0.same_upd (o := .tup (cutV (r.1.map V.int) none (some (-1)))) nkb
      have s5 := K0.same_upd (o := .lst []) nt1
      have A3 := A2'.grow s4
      have A4 := A3.grow s5
      have lx : (enX es).length = es.length := by unfold enX; rw [List.length_map]
      have hkb := @upd_same J3 kb (.tup (cutV (r.1.map V.int) none (some (-1))))
      rw [c1] at hkb
      have hkS : SqT K (hidS (celL a es) (upd J3 kb (.tup (cutV (r.1.map V.int) none (some (-1)))))) kb (r.1.dropLast.map V.int) := by
        refine .inl (.inl (hidS_of (A2'.fresh nkb) ?_))
        rw [c1]
        exact upd_same
      refine ⟨kb, enX es, r.1.dropLast, rfl, A4.at_, A4.dxk, .inl (.inl (s5 _ _ (by rw [c1]; exact upd_same))), by rw [lx, sizeLine_eq]; omega, fun v hv => ?_, fun hn => ?_⟩
      · rw [val_enX] at hv
        obtain ⟨c, hc, rfl⟩ := Option.map_eq_some_iff.mp hv
        obtain ⟨us, g5, g6, g7⟩ := A4.get hc
        refine ⟨.inl ⟨rfl, _, SqL.of g5⟩, _, rfl, c, us, _, rfl, rfl, g5, by rw [sizeLine_eq]; omega, ?_⟩
        have A5 := A4.more hc g5 (dit.to (hidS_more (s4.trans s5)))
        refine ⟨es, _, _, _, rfl, ?_, hroot, by omega⟩
        rw [tk, List.foldl_append]
        exact A5
      · have hv : valK es r.1.dropLast = none := by
          rw [val_enX] at hn
          exact Option.map_eq_none_iff.mp hn
        have A5 := A3.entry hv hkS nt1
        have hc := valK_snoc (e := (r.1.dropLast, kb, t1)) hv
        have t1a : t1 ≠ a := fun z => by
          have := A3.at_
          rw [← z, nt1] at this
          cases this
        have g5 : (upd (upd (upd J3 kb (.tup (cutV (r.1.map V.int) none (some (-1))))) t1 (.lst [])) a (DX.dxO P w a (enX es ++ [(r.1.dropLast, kb, .ref t1)]))) t1 = some (.lst []) := by
          rw [upd_ne t1a, upd_same]
        refine ⟨.inl ⟨rfl, _, SqL.of g5⟩, _, rfl, t1, [], _, rfl, rfl, g5, by rw [sizeLine_eq]; exact Nat.succ_pos _, ?_⟩
        have cells : celL a (es ++ [(r.1.dropLast, kb, t1)]) = celL a es ++ [t1] := by
          unfold celL
          rw [List.map_append]
          rfl
        have A6 := A5.more hc g5 (dit.to fun b u hb => by
          obtain ⟨h5, h6⟩ := hidS_at hb
          have h7 := s4 _ _ h6
          have ba : b ≠ a := fun z => h5 (by rw [z]; exact List.mem_cons_self)
          have bt : b ≠ t1 := ne_of_none h7 nt1
          refine hidS_of (fun z => ?_) (by rw [upd_ne ba, upd_ne bt]; exact h7)
          rw [cells] at z
          rcases List.mem_append.mp z with z | z
          · exact h5 z
          · exact bt (List.mem_singleton.mp z))
        refine ⟨es ++ [(r.1.dropLast, kb, t1)], _, _, _, rfl, ?_, fun z => hroot (valK_other z).1, by rw [List.length_append, List.length_singleton]; omega⟩
        rw [tk, List.foldl_append]
        exact A6
    · rintro σ J ⟨es, z3, z4, z5, rfl, A, hroot, few⟩
      rw [List.length_reverse, lv, ← List.length_reverse (as := rows), List.take_length, List.foldl_reverse] at A
      obtain ⟨c, hc⟩ : ∃ c, valK es [] = some c := by
        cases e : valK es [] with
        | none => exact absurd e hroot
        | some c => exact ⟨c, rfl⟩
      refine ⟨_, rfl, Nat.zero_le _, fun t nt => ?_⟩
      have s4 := K0.same_upd (o := .tup []) nt
      have A1 := A.grow s4
      obtain ⟨us, g5, g6, g7⟩ := A1.get hc
      refine ⟨a, t, enX es, .ref c, [], rfl, rfl, .inl A1.at_, A1.dxk, .inl (.inl upd_same), by rw [val_enX, hc]; rfl, c, us, rfl, g5, fun H5 tt s5 ntt htt => ?_⟩
      exact k H5 _ (((SO.trans A.same).trans s4).trans s5) (.tup (.inl (.inl htt)) ((g7.to ((hidS_in _ _).trans s5)).rev))
end
end K1
set_option maxHeartbeats 4000000
/-! plain_of, is_text -/
namespace K1
open PySem L2
theorem same_made {H : Hp} {x dx : Addr} {o1 o2 : HO} (nx : H x = none) (nd : H dx = none) : Same H (hidS [x] (upd (upd H dx o1) x o2)) := fun b u e => by
  have hx : b ≠ x := ne_of_none e nx
  refine hidS_of (by simp [hx]) ?_
  rw [upd_ne hx, upd_ne (ne_of_none e nd)]
  exact e
def errPost (B : Addr) (H : Hp) (E : XK) (told : V) : Prop := ∀ H' d, Same H H' → H' d = some (.xd [("told", told)]) → E (.ref B) (some d) H'
/-- what a scan has to be, that nested may gather it -/
structure PlainOk (S : Sc) : Prop where
  len : S.paths.length = S.heads.length
  few : S.heads.length ≤ 1500
  pth : ∀ p ∈ S.paths, p ≠ [] ∧ p.length ≤ 1000
  hd : ∀ h ∈ S.heads, ∃ x t, h = .str x :: t ∧ holdH h = holdsD (.str x) ∧ t.length ≤ 10
def plainPost (K : PySem.W.Frag) (B : Addr) (H : Hp) (Q : VK) (E : XK) : Nat ⊕ Sc → Prop
  | .inl e => errPost B H E (natV e)
  | .inr S' => PlainOk S' ∧ ∀ H' u, Same H H' → DQ K H' u (nestD S'.paths S'.heads) → Q u H'
def spPlain (K : PySem.W.Frag) (B : Addr) : Sp := fun vs H Q E => ∃ v, vs = [v] ∧ srcPost K H v (errPost B H E (natV 0)) (fun _ r => plainPost K B H Q E r)
def isPost (H : Hp) (Q : VK) : Nat ⊕ Sc → Prop
  | .inl _ => ∀ H', Same H H' → Q (.bl false) H'
  | .inr _ => ∀ H', Same H H' → Q (.bl true) H'
def spIsText (K : PySem.W.Frag) : Sp := fun vs H Q _ => ∃ v, vs = [v] ∧ srcPost K H v (∀ H', Same H H' → Q (.bl false) H') (fun _ r => isPost H Q r)
section
variable {P : Program} {w : World} {K : PySem.W.Frag} {mg : Str → Option Value} {base : Heap}
theorem DQ.made {H : Hp} {v : V} {d : PyData} {x dx : Addr} {o1 o2 : HO} (h : DQ K H v d) (nx : H x = none) (nd : H dx = none) : DQ K (upd (upd H dx o1) x o2) v d := h.to fun b u e => by
  rw [upd_ne (ne_of_none e nx), upd_ne (ne_of_none e nd)]
  exact e
theorem sc_plain : FnScope ["text", "scan"] ["text"] (defScope (top 22)) := ⟨rfl, rfl, rfl, by decide +kernel, rfl, by decide +kernel, by decide +kernel⟩
theorem cl_plain {C B fI : Addr} (T : All K mg) (W : ScC K mg C) (R : Er K mg "BadText" B fI) (hzip : mg "zip" = none) : ClX P w K mg base 10 "plain_of" ["text"] (spPlain K B) := by
  obtain ⟨g, fd, D⟩ := T.dn 22 _ _ rfl
  obtain ⟨f0, fd0, F0, b0, M0⟩ := W.ini
  have G0 : FnOk P w K mg base (L2.CX P w) 8 f0 fd0 ["self", "text"] (spIniS K C B) := ok_inis F0 T W R
  refine D.clX (D.fn.okX sc_plain (fun vs H Q E h => ?_) (fun cdv A outer s H vs Q E hr h => ?_))
  · obtain ⟨v, rfl, _⟩ := h
    rfl
  · obtain ⟨v, rfl, hv⟩ := h
    refine ⟨_, (pss_cons (ps_set (i := 1) sc_plain.nd rfl (Or.inl rfl) (pe_makeS M0 G0 hr rfl W.mg b0 .nil (fun σ => passAt (takes_of rfl rfl rfl rfl) σ) (pa_cons (pv 0) pa_nil)))
      (pss_one (ps_ret (pe_cl (cl_nested T hzip) hr (by decide) (pa_cons (pe_fld (pv 1) rfl) (pa_cons (pe_fld (pv 1) rfl) pa_nil)))))), ?_⟩
    refine ⟨_, rfl, fun x dx nx ndx ne => ⟨x, dx, v, rfl, upd_same, ?_⟩⟩
    have sm : Same H (hidS [x] (upd (upd H dx (.own x)) x (.ins C dx []))) := same_made nx ndx
    rcases hv with ⟨⟨d, hd, hk⟩, k⟩ | ⟨z, r, rfl, hz, hR, k⟩
    · exact .inl ⟨⟨d, hd.made nx ndx, hk⟩, fun H' d s1 hd => k H' d (sm.trans s1) hd⟩
    · refine .inr ⟨z, r, rfl, hz, hR, ?_⟩
      cases r with
      | inl e => exact fun H' d s1 hd => k H' d (sm.trans s1) hd
      | inr S' =>
        obtain ⟨ok, k⟩ := k
        intro H' a ea At s1
        refine ⟨rfl, ?_⟩
        subst ea
        obtain ⟨dx1, hob⟩ := At.ob
        obtain ⟨vs, g1, d1⟩ := At.l1
        obtain ⟨us, g2, d2⟩ := At.l2
        refine ⟨_, rfl, a.p, C, dx1, _, _, rfl, hob, W.cl, W.n1, look1 _ _ _, _, rfl, a.p, C, dx1, _, _, rfl, hob, W.cl, W.n2, look2 _ _ _, a.a1, a.a2, vs, us, _, _, rfl, SqL.of g1, SqL.of g2, d1.to (hidS_in _ _), d2.to (hidS_in _ _), ok.len, ok.few, ok.pth, ok.hd, fun H2 u s2 du => ?_⟩
        exact k H2 u ((sm.trans s1).trans s2) du
theorem sc_istext : FnScope ["value"] ["value"] (defScope (top 23)) := ⟨rfl, rfl, rfl, by decide +kernel, rfl, by decide +kernel, by decide +kernel⟩
theorem cl_istext {C B fI : Addr} (T : All K mg) (W : ScC K mg C) (R : Er K mg "BadText" B fI) : ClG P w K mg base 10 "is_text" ["value"] (spIsText K) := by
  obtain ⟨g, fd, D⟩ := T.dn 23 _ _ rfl
  obtain ⟨f0, fd0, F0, b0, M0⟩ := W.ini
  have G0 : FnOk P w K mg base (L2.CX P w) 8 f0 fd0 ["self", "text"] (spIniS K C B) := ok_inis F0 T W R
  refine ⟨g, fd, okG D.fn sc_istext (fun vs H Q E h => ?_) (fun cdv A outer s H vs Q E hgd hr h => ?_), D.mg, D.fn.kp, D.bn⟩
  · obtain ⟨v, rfl, _⟩ := h
    rfl
  · obtain ⟨v, rfl, hv⟩ := h
    refine ⟨_, (pss_cons (ps_try_only (X := (cxOf CX0 P w K mg base ["value"] "is_text" (defScope (top 23)) g cdv A outer s H E).nox) rfl rfl ⟨(by rfl), (by decide), .inl R.mg⟩ takes_none5 (fun W' pn xe tk _ => pss_one (ps_expr (pe_makeS M0 G0 hr rfl W.mg b0 .nil (fun σ => passAt tk σ) (pa_cons (pv 0) pa_nil)))) (fun a oe cls d pn hz hf => pss_one (ps_ret pe_bl)))
      (pss_one (ps_ret pe_bl))), ?_⟩
    refine ⟨_, rfl, fun x dx nx ndx ne => ⟨x, dx, v, rfl, upd_same, ?_⟩⟩
    have sm : Same H (hidS [x] (upd (upd H dx (.own x)) x (.ins C dx []))) := same_made nx ndx
    rcases hv with ⟨⟨d, hd, hk⟩, k⟩ | ⟨z, r, rfl, hz, hR, k⟩
    · exact .inl ⟨⟨d, hd.made nx ndx, hk⟩, fun H' d s1 hd => ⟨true, R.te, fun _ a na => k H' (sm.trans s1), fun z => Bool.noConfusion z⟩⟩
    · refine .inr ⟨z, r, rfl, hz, hR, ?_⟩
      cases r with
      | inl e => exact fun H' d s1 hd => ⟨true, R.te, fun _ a na => k H' (sm.trans s1), fun z => Bool.noConfusion z⟩
      | inr S' =>
        intro H' a ea At s1
        exact ⟨rfl, k H' (sm.trans s1)⟩
end
end K1
set_option maxHeartbeats 4000000
/-! the law's own reader of a text, sign by sign -/
namespace K1
open PySem
def isWd (c : Nat) : Bool := isFig c || isLet c || c == 63
inductive AS
  | start | item | opn | gap | sgn | after | word
deriving DecidableEq
structure Au where
  o : Nat
  st : AS
  w : List Nat
  nm : Bool
def goes (w : List Nat) (c : Nat) : Bool := match w with
  | [] => false
  | d :: _ => if isFig d || d == 63 then w.length == 1 && isFst d && isFig c
    else if (w.filter isLet).length == w.length then (decide ((w.filter isLet).length < 4) && isLet c) || isFst c else w.length == (w.filter isLet).length + 1 && isFig c
def begs : AS → Bool
  | .start => true
  | .item => true
  | .opn => true
  | .gap => true
  | _ => false
def stA (a : Au) : AS := if a.st = .word then .after else a.st
def actA (a : Au) (s : AS) (c : Nat) : Option Au :=
  if begs s = true ∧ isWd c = true then some ⟨a.o, .word, [c], decide (s = .opn) && isLet c⟩
  else if begs s = true ∧ c = 40 then some ⟨a.o + 1, .opn, a.w, false⟩
  else if (s = .opn ∧ (c = 43 ∨ c = 42)) ∨ (s = .gap ∧ c = 61) then some ⟨a.o, .sgn, a.w, a.nm⟩
  else if c = 41 ∧ 0 < a.o ∧ (s = .opn ∨ s = .after ∨ s = .sgn) then some ⟨a.o - 1, .after, a.w, false⟩
  else if c = 32 ∧ (s = .after ∨ s = .sgn) then some ⟨a.o, if a.nm = true ∧ s = .after then .gap else .item, a.w, false⟩
  else none
def stepA (a : Au) (c : Nat) : Option Au := if a.st = .word ∧ goes a.w c = true then some ⟨a.o, .word, a.w ++ [c], a.nm⟩ else actA a (stA a) c
def endA (a : Au) (n : Nat) : Option Nat := if 0 < a.o ∨ a.st = .item ∨ a.st = .gap then some n else none
/-- where it goes wrong, if it does -/
def runA : Au → Nat → List Nat → Option Nat
  | a, n, [] => endA a n
  | a, n, c :: r => match stepA a c with
    | none => some n
    | some a' => runA a' (n + 1) r
/-- behind a word: no sign goes on with it -/
theorem run_word {a : Au} {n : Nat} {S : List Nat} (hw : a.st = .word) (h : S = [] ∨ goes a.w (S.getD 0 0) = false) : runA a n S = runA ⟨a.o, .after, a.w, a.nm⟩ n S := by
  cases S with
  | nil =>
    unfold runA endA
    rw [hw]
    simp
  | cons c r =>
    have hg : goes a.w c = false := by
      rcases h with h | h
      · cases h
      · exact h
    have e : stepA a c = stepA ⟨a.o, .after, a.w, a.nm⟩ c := by
      unfold stepA
      rw [if_neg (fun z => by rw [hg] at z; exact Bool.noConfusion z.2), if_neg (fun z => AS.noConfusion z.1)]
      unfold stA
      rw [if_pos hw, if_neg (fun z => AS.noConfusion z)]
      rfl
    rw [runA, runA, e]
/-- the signs of a word, one after the other -/
theorem run_more {o : Nat} {nm : Bool} : ∀ (u w : List Nat) (n : Nat) (S : List Nat), (∀ i, i < u.length → goes (w ++ u.take i) (u.getD i 0) = true) → runA ⟨o, .word, w, nm⟩ n (u ++ S) = runA ⟨o, .word, w ++ u, nm⟩ (n + u.length) S
  | [], w, n, S, _ => by simp
  | c :: u, w, n, S, h => by
    have h0 := h 0 (by simp)
    rw [List.take_zero, List.append_nil] at h0
    have h0' : goes w c = true := h0
    have e : stepA ⟨o, .word, w, nm⟩ c = some ⟨o, .word, w ++ [c], nm⟩ := by
      unfold stepA
      rw [if_pos ⟨rfl, h0'⟩]
    rw [List.cons_append, runA, e]
    show runA ⟨o, .word, w ++ [c], nm⟩ (n + 1) (u ++ S) = _
    rw [run_more u (w ++ [c]) (n + 1) S (fun i hi => by
      have := h (i + 1) (by rw [List.length_cons]; omega)
      rw [List.take_succ_cons] at this
      rw [List.append_assoc]
      exact this)]
    rw [List.append_assoc, List.length_cons]
    congr 1
    omega
/-- how far a word reaches -/
def Reach (S : List Nat) (n : Nat) : Prop := 1 ≤ n ∧ n ≤ S.length ∧ (∀ i, 1 ≤ i → i < n → goes (S.take i) (S.getD i 0) = true) ∧ (n < S.length → goes (S.take n) (S.getD n 0) = false)
theorem run_reach {a : Au} {c : Nat} {r : List Nat} {n p : Nat} (hb : begs a.st = true) (hc : isWd c = true) (h : Reach (c :: r) n) : runA a p (c :: r) = runA ⟨a.o, .after, (c :: r).take n, decide (a.st = .opn) && isLet c⟩ (p + n) ((c :: r).drop n) := by
  obtain ⟨h1, h2, h3, h4⟩ := h
  have hw : a.st ≠ .word := fun z => by rw [z] at hb; exact Bool.noConfusion hb
  have e : stepA a c = some ⟨a.o, .word, [c], decide (a.st = .opn) && isLet c⟩ := by
    unfold stepA
    rw [if_neg (fun z => hw z.1)]
    unfold actA stA
    rw [if_neg hw, if_pos ⟨hb, hc⟩]
  rw [runA, e]
  show runA ⟨a.o, .word, [c], _⟩ (p + 1) r = _
  obtain ⟨m, rfl⟩ : ∃ m, n = m + 1 := ⟨n - 1, by omega⟩
  have hm : m ≤ r.length := by rw [List.length_cons] at h2; omega
  have lt : (r.take m).length = m := by rw [List.length_take]; omega
  have key := run_more (o := a.o) (nm := decide (a.st = .opn) && isLet c) (r.take m) [c] (p + 1) (r.drop m) (fun i hi => by
    rw [lt] at hi
    have := h3 (i + 1) (by omega) (by omega)
    rw [List.take_succ_cons] at this
    rw [List.take_take, Nat.min_eq_left (by omega), List.getD_eq_getElem?_getD, List.getElem?_take_of_lt hi, ← List.getD_eq_getElem?_getD]
    exact this)
  rw [List.take_append_drop, lt] at key
  rw [key, List.take_succ_cons, List.drop_succ_cons]
  have e1 : p + 1 + m = p + (m + 1) := by omega
  rw [e1]
  refine run_word rfl ?_
  by_cases q : m + 1 < (c :: r).length
  · right
    have := h4 q
    rw [List.take_succ_cons] at this
    have e2 : (r.drop m).getD 0 0 = (c :: r).getD (m + 1) 0 := by
      rw [List.getD_eq_getElem?_getD, List.getElem?_drop, List.getD_eq_getElem?_getD, List.getElem?_cons_succ]
      rfl
    show goes ([c] ++ r.take m) _ = false
    rw [e2]
    exact this
  · left
    rw [List.length_cons] at q
    exact List.drop_eq_nil_of_le (by omega)
end K1
set_option maxHeartbeats 4000000
/-! words: how far the scan reads them, how far the law does -/
namespace K1
open PySem
theorem getD_lt {S : List Nat} {n d : Nat} (h : n < S.length) : S.getD n d = S[n] := by
  rw [List.getD_eq_getElem?_getD, List.getElem?_eq_getElem h]
  rfl
theorem lE_facts : ∀ (n : Nat) (S : List Nat), lE n S ≤ n ∧ lE n S ≤ S.length ∧ (∀ i, i < lE n S → isLet (S.getD i 0) = true) ∧ (lE n S < n → lE n S < S.length → isLet (S.getD (lE n S) 0) = false)
  | 0, S => by
    have e : lE 0 S = 0 := by cases S <;> rfl
    rw [e]
    exact ⟨Nat.le_refl _, Nat.zero_le _, fun i hi => by omega, fun h => by omega⟩
  | n + 1, [] => ⟨Nat.zero_le _, Nat.le_refl _, fun i hi => (by exact absurd hi (Nat.not_lt_zero _)), fun _ h => (by exact absurd h (Nat.not_lt_zero _))⟩
  | n + 1, c :: r => by
    obtain ⟨h1, h2, h3, h4⟩ := lE_facts n r
    unfold lE
    by_cases q : isLet c = true
    · rw [if_pos q]
      refine ⟨by omega, by rw [List.length_cons]; omega, fun i hi => ?_, fun a b => ?_⟩
      · cases i with
        | zero => exact q
        | succ i => exact h3 i (by omega)
      · rw [List.length_cons] at b
        exact h4 (by omega) (by omega)
    · rw [if_neg q]
      exact ⟨by omega, Nat.zero_le _, fun i hi => by omega, fun _ _ => by simpa using q⟩
theorem fig_let {c : Nat} (h : isFig c = true) : isLet c = false := by
  unfold isFig at h
  unfold isLet
  simp only [Bool.and_eq_true, decide_eq_true_eq] at h
  simp only [Bool.and_eq_false_iff, decide_eq_false_iff_not]
  omega
theorem fst_fig' {c : Nat} (h : isFst c = true) : isFig c = true := by
  unfold isFst at h
  unfold isFig
  simp only [Bool.and_eq_true, decide_eq_true_eq] at h ⊢
  omega
theorem let_fig {c : Nat} (h : isLet c = true) : isFig c = false := by
  cases q : isFig c with
  | false => rfl
  | true => rw [fig_let q] at h; cases h
theorem let_q {c : Nat} (h : isLet c = true) : (c == 63) = false := by
  unfold isLet at h
  simp only [Bool.and_eq_true, decide_eq_true_eq] at h
  simp only [beq_eq_false_iff_ne]
  omega
/-- letters, and perhaps a figure behind them -/
theorem goes_let {w : List Nat} (hne : w ≠ []) (h : ∀ c ∈ w, isLet c = true) (c : Nat) : goes w c = ((decide (w.length < 4) && isLet c) || isFst c) := by
  cases w with
  | nil => exact absurd rfl hne
  | cons d r =>
    have hd := h d List.mem_cons_self
    have ef : (d :: r).filter isLet = d :: r := List.filter_eq_self.mpr h
    unfold goes
    dsimp only
    rw [let_fig hd, let_q hd, ef]
    simp
theorem goes_fig {w : List Nat} {f : Nat} (hne : w ≠ []) (h : ∀ c ∈ w, isLet c = true) (hf : isFig f = true) (c : Nat) : goes (w ++ [f]) c = isFig c := by
  cases w with
  | nil => exact absurd rfl hne
  | cons d r =>
    have hd := h d List.mem_cons_self
    have ef : (d :: r).filter isLet = d :: r := List.filter_eq_self.mpr h
    have ef2 : (d :: r ++ [f]).filter isLet = d :: r := by
      rw [List.filter_append, ef, List.filter_cons_of_neg (by rw [fig_let hf]; exact Bool.false_ne_true)]
      simp
    unfold goes
    rw [List.cons_append]
    dsimp only
    rw [let_fig hd, let_q hd, ← List.cons_append, ef2]
    simp
theorem goes_fig2 {w : List Nat} {f g : Nat} (hne : w ≠ []) (h : ∀ c ∈ w, isLet c = true) (hf : isFig f = true) (hg : isFig g = true) (c : Nat) : goes (w ++ [f, g]) c = false := by
  cases w with
  | nil => exact absurd rfl hne
  | cons d r =>
    have hd := h d List.mem_cons_self
    have ef : (d :: r).filter isLet = d :: r := List.filter_eq_self.mpr h
    have ef2 : (d :: r ++ [f, g]).filter isLet = d :: r := by
      rw [List.filter_append, ef, List.filter_cons_of_neg (by rw [fig_let hf]; exact Bool.false_ne_true), List.filter_cons_of_neg (by rw [fig_let hg]; exact Bool.false_ne_true)]
      simp
    unfold goes
    rw [List.cons_append]
    dsimp only
    rw [let_fig hd, let_q hd, ← List.cons_append, ef2]
    simp
/-- a written name -/
structure NameW (w : List Nat) : Prop where
  pos : 1 ≤ w.length
  len : w.length ≤ 6
  sm : ∀ c ∈ w, 48 ≤ c ∧ c < 200
inductive LfG : List PyData → List Nat → Prop
  | num (m : Nat) (h : m < 100) : LfG [.str "number", .int (m : Int)] (numC m)
  | lost : LfG [.str "lost"] [63]
  | use (w : List Nat) (h : NameW w) : LfG [.str "use", .str (sO w)] w
theorem take_get {S : List Nat} {n i : Nat} (h : i < n) : (S.take n).getD i 0 = S.getD i 0 := by
  rw [List.getD_eq_getElem?_getD, List.getElem?_take_of_lt h, ← List.getD_eq_getElem?_getD]
theorem mem_take_let {S : List Nat} {l : Nat} (h : ∀ i, i < l → isLet (S.getD i 0) = true) {j : Nat} (hj : j ≤ l) : ∀ c ∈ S.take j, isLet c = true := by
  intro c hc
  obtain ⟨i, hi, rfl⟩ := List.mem_iff_getElem.mp hc
  have hi2 : i < j := by rw [List.length_take] at hi; omega
  have := h i (by omega)
  rw [List.getElem_take]
  rw [getD_lt (by rw [List.length_take] at hi; omega)] at this
  exact this
theorem let_small {c : Nat} (h : isLet c = true) : 48 ≤ c ∧ c < 200 := by
  unfold isLet at h
  simp only [Bool.and_eq_true, decide_eq_true_eq] at h
  omega
theorem fig_small {c : Nat} (h : isFig c = true) : 48 ≤ c ∧ c < 200 := by
  unfold isFig at h
  simp only [Bool.and_eq_true, decide_eq_true_eq] at h
  omega
theorem take_more {S : List Nat} {n : Nat} (h : n < S.length) : S.take (n + 1) = S.take n ++ [S.getD n 0] := by
  rw [List.take_succ, List.getElem?_eq_getElem h, getD_lt h]
  rfl
/-- a name, as far as the scan reads it -/
theorem reach_name {S : List Nat} (h : 0 < wE S) : Reach S (wE S) ∧ NameW (S.take (wE S)) := by
  obtain ⟨h1, h2, h3, h4⟩ := lE_facts 4 S
  have hw : wE S = if lE 4 S = 0 then 0 else lE 4 S + pE (S.drop (lE 4 S)) := rfl
  by_cases z : lE 4 S = 0
  · rw [hw, if_pos z] at h
    exact absurd h (Nat.lt_irrefl _)
  rw [if_neg z] at hw
  generalize hl : lE 4 S = l at *
  have lets : ∀ {j}, j ≤ l → ∀ c ∈ S.take j, isLet c = true := fun hj => mem_take_let h3 hj
  have ne : ∀ {j}, 1 ≤ j → S.take j ≠ [] := fun hj e => by
    have := congrArg List.length e
    rw [List.length_take, List.length_nil] at this
    omega
  have len : ∀ {j}, j ≤ l → (S.take j).length = j := fun hj => by rw [List.length_take]; omega
  have up : ∀ i, 1 ≤ i → i < l → goes (S.take i) (S.getD i 0) = true := fun i i1 il => by
    rw [goes_let (ne i1) (lets (by omega)), len (by omega), h3 i il, decide_eq_true (by omega : i < 4)]
    rfl
  have gd : ∀ i, (S.drop l).getD i 0 = S.getD (l + i) 0 := fun i => by
    rw [List.getD_eq_getElem?_getD, List.getElem?_drop, ← List.getD_eq_getElem?_getD]
  have stop : isFst (S.getD l 0) = false → l < S.length → goes (S.take l) (S.getD l 0) = false := fun hf hlt => by
    rw [goes_let (ne (by omega)) (lets (Nat.le_refl _)), len (Nat.le_refl _), hf, Bool.or_false]
    by_cases q : l < 4
    · rw [h4 q hlt, Bool.and_false]
    · rw [decide_eq_false q]
      rfl
  -- what stands behind the letters
  by_cases hlt : l < S.length
  · have sg : sgM isFst (S.drop l) = isFst (S.getD l 0) := by
      rw [List.drop_eq_getElem_cons hlt, getD_lt hlt]
      rfl
    cases f1 : isFst (S.getD l 0) with
    | false =>
      have e0 : pE (S.drop l) = 0 := by unfold pE; rw [sg, f1]; rfl
      rw [e0, Nat.add_zero] at hw
      rw [hw]
      exact ⟨⟨by omega, by omega, up, fun _ => stop f1 hlt⟩, ⟨by rw [len (Nat.le_refl _)]; omega, by rw [len (Nat.le_refl _)]; omega, fun c hc => let_small (lets (Nat.le_refl _) c hc)⟩⟩
    | true =>
      have g1 : goes (S.take l) (S.getD l 0) = true := by
        rw [goes_let (ne (by omega)) (lets (Nat.le_refl _)), f1, Bool.or_true]
      have ff := fst_fig' f1
      have t1 := take_more hlt
      by_cases hlt2 : l + 1 < S.length
      · have sg2 : sgM isFig ((S.drop l).drop 1) = isFig (S.getD (l + 1) 0) := by
          rw [List.drop_drop, List.drop_eq_getElem_cons hlt2, getD_lt hlt2]
          rfl
        cases f2 : isFig (S.getD (l + 1) 0) with
        | false =>
          have e0 : pE (S.drop l) = 1 := by unfold pE; rw [sg, f1, sg2, f2]; rfl
          rw [e0] at hw
          rw [hw]
          refine ⟨⟨by omega, by omega, fun i i1 il => ?_, fun _ => ?_⟩, ⟨by rw [List.length_take]; omega, by rw [List.length_take]; omega, fun c hc => ?_⟩⟩
          · by_cases q : i = l
            · rw [q]; exact g1
            · exact up i i1 (by omega)
          · rw [t1, goes_fig (ne (by omega)) (lets (Nat.le_refl _)) ff]
            exact f2
          · rw [t1] at hc
            rcases List.mem_append.mp hc with hc | hc
            · exact let_small (lets (Nat.le_refl _) c hc)
            · rw [List.mem_singleton.mp hc]
              exact fig_small ff
        | true =>
          have e0 : pE (S.drop l) = 2 := by unfold pE; rw [sg, f1, sg2, f2]; rfl
          rw [e0] at hw
          rw [hw]
          have t2 : S.take (l + 2) = S.take l ++ [S.getD l 0, S.getD (l + 1) 0] := by
            rw [take_more hlt2, t1, List.append_assoc]
            rfl
          refine ⟨⟨by omega, by omega, fun i i1 il => ?_, fun _ => ?_⟩, ⟨by rw [List.length_take]; omega, by rw [List.length_take]; omega, fun c hc => ?_⟩⟩
          · by_cases q : i = l
            · rw [q]; exact g1
            · by_cases q2 : i = l + 1
              · rw [q2, t1, goes_fig (ne (by omega)) (lets (Nat.le_refl _)) ff]
                exact f2
              · exact up i i1 (by omega)
          · rw [t2, goes_fig2 (ne (by omega)) (lets (Nat.le_refl _)) ff f2]
          · rw [t2] at hc
            rcases List.mem_append.mp hc with hc | hc
            · exact let_small (lets (Nat.le_refl _) c hc)
            · simp only [List.mem_cons, List.not_mem_nil, or_false] at hc
              rcases hc with rfl | rfl
              · exact fig_small ff
              · exact fig_small f2
      · have sg2 : sgM isFig ((S.drop l).drop 1) = false := by
          rw [List.drop_drop, List.drop_eq_nil_of_le (by omega)]
          rfl
        have e0 : pE (S.drop l) = 1 := by unfold pE; rw [sg, f1, sg2]; rfl
        rw [e0] at hw
        rw [hw]
        refine ⟨⟨by omega, by omega, fun i i1 il => ?_, fun z => by omega⟩, ⟨by rw [List.length_take]; omega, by rw [List.length_take]; omega, fun c hc => ?_⟩⟩
        · by_cases q : i = l
          · rw [q]; exact g1
          · exact up i i1 (by omega)
        · rw [t1] at hc
          rcases List.mem_append.mp hc with hc | hc
          · exact let_small (lets (Nat.le_refl _) c hc)
          · rw [List.mem_singleton.mp hc]
            exact fig_small ff
  · have e0 : pE (S.drop l) = 0 := by
      rw [List.drop_eq_nil_of_le (by omega)]
      rfl
    rw [e0, Nat.add_zero] at hw
    rw [hw]
    exact ⟨⟨by omega, by omega, up, fun z => by omega⟩, ⟨by rw [len (Nat.le_refl _)]; omega, by rw [len (Nat.le_refl _)]; omega, fun c hc => let_small (lets (Nat.le_refl _) c hc)⟩⟩
end K1
set_option maxHeartbeats 4000000
/-! an item begins: what the scan reads, what the law does -/
namespace K1
open PySem
inductive NdG : List PyData → List Nat → Bool → Prop
  | block : NdG [.str "block"] [40] true
  | sum : NdG [.str "sum"] [40, 43] false
  | product : NdG [.str "product"] [40, 42] false
  | let_ (w : List Nat) (h : NameW w) : NdG [.str "let", .str (sO w)] (40 :: (w ++ [32, 61])) false
theorem NdG.hold {h : List PyData} {o : List Nat} {b : Bool} (k : NdG h o b) : holdH h = true ∧ blkH h = b := by
  cases k with
  | block => exact ⟨by decide +kernel, by decide +kernel⟩
  | sum => exact ⟨by decide +kernel, by decide +kernel⟩
  | product => exact ⟨by decide +kernel, by decide +kernel⟩
  | let_ w h => exact ⟨(by show ((("let" : Str) == "block") || (("let" : Str) == "let") || (("let" : Str) == "sum") || (("let" : Str) == "product")) = true; decide +kernel), rfl⟩
theorem LfG.hold {h : List PyData} {w : List Nat} (k : LfG h w) : holdH h = false := by
  cases k with
  | num m _ => exact hold_num _
  | lost => decide +kernel
  | use w _ => show ((("use" : Str) == "block") || (("use" : Str) == "let") || (("use" : Str) == "sum") || (("use" : Str) == "product")) = false; decide +kernel
theorem sg_cons (p : Nat → Bool) (c : Nat) (r : List Nat) : sgM p (c :: r) = p c := rfl
/-- a word begins -/
theorem head_word {c : Nat} {r : List Nat} (hc : isWd c = true) : ∃ h n, hdM (c :: r) = some (h, n) ∧ LfG h ((c :: r).take n) ∧ Reach (c :: r) n ∧ (isLet c = true → n = wE (c :: r) ∧ 0 < n) := by
  unfold hdM
  unfold isWd at hc
  simp only [Bool.or_eq_true, beq_iff_eq] at hc
  have n40 : (c == 40) = false := by
    rw [beq_eq_false_iff_ne]
    rintro rfl
    rcases hc with (hc | hc) | hc
    · exact absurd hc (by decide)
    · exact absurd hc (by decide)
    · exact absurd hc (by decide)
  rw [sg_cons, sg_cons, n40, if_neg Bool.false_ne_true]
  by_cases q : c = 63
  · subst q
    refine ⟨_, _, rfl, .lost, ⟨Nat.le_refl _, by simp, fun i h1 h2 => by omega, fun _ => ?_⟩, fun z => absurd z (by decide)⟩
    show goes [63] _ = false
    unfold goes
    dsimp only
    rw [if_pos (by decide), show isFst 63 = false from by decide]
    simp
  · rw [if_neg (by simpa using q)]
    by_cases l : isLet c = true
    · have hw : 0 < wE (c :: r) := by
        have e : 0 < lE 4 (c :: r) := by unfold lE; rw [if_pos l]; omega
        unfold wE
        rw [if_neg (by omega)]
        omega
      rw [if_pos hw]
      obtain ⟨h1, h2⟩ := reach_name hw
      exact ⟨_, _, rfl, .use _ h2, h1, fun _ => ⟨rfl, hw⟩⟩
    · have f : isFig c = true := by
        rcases hc with (hc | hc) | hc
        · exact hc
        · exact absurd hc l
        · exact absurd hc q
      have l0 : isLet c = false := by simpa using l
      have hw : wE (c :: r) = 0 := by
        have e : lE 4 (c :: r) = 0 := by unfold lE; rw [if_neg l]
        unfold wE
        rw [e]
        rfl
      rw [if_neg (by omega)]
      have fq : (isFig c || c == 63) = true := by rw [f]; rfl
      by_cases z : c = 48
      · subst z
        have e : nE (48 :: r) = 1 := rfl
        rw [e, if_pos (by decide)]
        refine ⟨_, _, rfl, LfG.num 0 (by decide), ⟨Nat.le_refl _, by simp, fun i h1 h2 => by omega, fun _ => ?_⟩, fun z => absurd z l⟩
        show goes [48] _ = false
        unfold goes
        dsimp only
        rw [if_pos (by decide), show isFst 48 = false from by decide]
        simp
      · have en : nE (c :: r) = pE (c :: r) := by
          unfold nE
          rw [sg_cons, if_neg (by simpa using z)]
        have fc : isFst c = true := by
          unfold isFig at f
          unfold isFst
          simp only [Bool.and_eq_true, decide_eq_true_eq] at f ⊢
          omega
        have g1 : ∀ d, goes [c] d = isFig d := fun d => by
          unfold goes
          dsimp only
          rw [if_pos fq, fc]
          simp
        have hcb : 49 ≤ c ∧ c ≤ 57 := by
          unfold isFst at fc
          simpa using fc
        cases r with
        | nil =>
          have ep : pE [c] = 1 := by
            unfold pE
            rw [sg_cons, fc]
            rfl
          rw [en, ep, if_pos (by decide)]
          refine ⟨_, _, rfl, ?_, ⟨Nat.le_refl _, by simp, fun i h1 h2 => by omega, fun h => absurd h (by simp)⟩, fun z => absurd z l⟩
          have := LfG.num (c - 48) (by omega)
          have e1 : numL [c] = ((c - 48 : Nat) : Int) := by
            show (10 * (0 : Int) + ((c : Int) - 48)) = _
            omega
          have e2 : numC (c - 48) = [c] := by
            unfold numC
            rw [if_pos (by omega)]
            congr 1
            omega
          rw [← e1, e2] at this
          exact this
        | cons d t =>
          have ep : pE (c :: d :: t) = if isFig d = true then 2 else 1 := by
            unfold pE
            rw [sg_cons, fc, if_pos rfl]
            rfl
          rw [en, ep]
          cases fd : isFig d with
          | false =>
            rw [if_neg Bool.false_ne_true, if_pos (by decide)]
            refine ⟨_, _, rfl, ?_, ⟨Nat.le_refl _, by simp, fun i h1 h2 => by omega, fun _ => ?_⟩, fun z => absurd z l⟩
            · have := LfG.num (c - 48) (by omega)
              have e1 : numL [c] = ((c - 48 : Nat) : Int) := by
                show (10 * (0 : Int) + ((c : Int) - 48)) = _
                omega
              have e2 : numC (c - 48) = [c] := by
                unfold numC
                rw [if_pos (by omega)]
                congr 1
                omega
              rw [← e1, e2] at this
              exact this
            · show goes [c] d = false
              rw [g1, fd]
          | true =>
            rw [if_pos rfl, if_pos (by decide)]
            have hd : 48 ≤ d ∧ d ≤ 57 := by
              unfold isFig at fd
              simpa using fd
            refine ⟨_, _, rfl, ?_, ⟨by decide, by simp, fun i h1 h2 => ?_, fun h => ?_⟩, fun z => absurd z l⟩
            · have := LfG.num (10 * (c - 48) + (d - 48)) (by omega)
              have e1 : numL [c, d] = ((10 * (c - 48) + (d - 48) : Nat) : Int) := by
                show (10 * (10 * (0 : Int) + ((c : Int) - 48)) + ((d : Int) - 48)) = _
                omega
              have e2 : numC (10 * (c - 48) + (d - 48)) = [c, d] := by
                unfold numC
                rw [if_neg (by omega)]
                congr 1
                · omega
                · congr 1
                  omega
              rw [← e1, e2] at this
              exact this
            · have : i = 1 := by omega
              subst this
              show goes [c] d = true
              rw [g1, fd]
            · show goes [c, d] _ = false
              unfold goes
              dsimp only
              rw [if_pos fq]
              rfl
/-- nothing begins -/
theorem head_none {S : List Nat} (h : ∀ c r, S = c :: r → isWd c = false ∧ c ≠ 40) : hdM S = none := by
  unfold hdM
  cases S with
  | nil => rfl
  | cons c r =>
    obtain ⟨h1, h2⟩ := h c r rfl
    unfold isWd at h1
    simp only [Bool.or_eq_false_iff, beq_eq_false_iff_ne] at h1
    obtain ⟨⟨f, l⟩, q⟩ := h1
    have e : lE 4 (c :: r) = 0 := by unfold lE; rw [if_neg (by rw [l]; exact Bool.false_ne_true)]
    have hw : wE (c :: r) = 0 := by unfold wE; rw [e]; rfl
    have fc : isFst c = false := by
      cases z : isFst c with
      | false => rfl
      | true => rw [fst_fig' z] at f; cases f
    have n48 : (c == 48) = false := by
      rw [beq_eq_false_iff_ne]
      rintro rfl
      exact absurd f (by decide)
    have hn : nE (c :: r) = 0 := by
      unfold nE pE
      rw [sg_cons, sg_cons, n48, fc]
      rfl
    rw [sg_cons, sg_cons, hw, hn, if_neg (by simpa using h2), if_neg (by simpa using q)]
    rfl
theorem head_open (r : List Nat) : hdM (40 :: r) = some (brM r) := rfl
theorem brM_block {S : List Nat} (h : brM S = ([.str "block"], 1)) : sgM (fun c => c == 43) S = false ∧ sgM (fun c => c == 42) S = false ∧ ¬ (0 < wE S ∧ (S.drop (wE S)).take 2 = [32, 61]) := by
  unfold brM at h
  by_cases c1 : sgM (fun c => c == 43) S = true
  · rw [if_pos c1] at h
    exact absurd (congrArg Prod.snd h) (by decide)
  · rw [if_neg c1] at h
    by_cases c2 : sgM (fun c => c == 42) S = true
    · rw [if_pos c2] at h
      exact absurd (congrArg Prod.snd h) (by decide)
    · rw [if_neg c2] at h
      refine ⟨by simpa using c1, by simpa using c2, fun c3 => ?_⟩
      rw [if_pos c3] at h
      have : wE S + 3 = 1 := congrArg Prod.snd h
      omega
end K1
set_option maxHeartbeats 4000000
/-! a scan under way is a tree under way -/
namespace K1
open PySem
theorem gapped_app' : ∀ (l m : List It), gapped (l ++ m) = gapped l ++ gapped m
  | [], m => by rw [gapped]; rfl
  | x :: r, m => by
    rw [List.cons_append, gapped, gapped, gapped_app' r m]
    simp
theorem hdsL_app : ∀ (l m : List It), hdsL (l ++ m) = hdsL l ++ hdsL m
  | [], m => by rw [hdsL]; rfl
  | x :: r, m => by rw [List.cons_append, hdsL, hdsL, hdsL_app r m, List.append_assoc]
theorem phL_snoc (x : It) : ∀ (l : List It) (p : List Int) (k : Nat), phL p k (l ++ [x]) = phL p k l ++ x.ph (p ++ [((k + l.length : Nat) : Int)])
  | [], p, k => by
    rw [List.nil_append, phL, phL, phL]
    simp
  | y :: r, p, k => by
    rw [List.cons_append, phL, phL, phL_snoc x r, List.append_assoc]
    have e1 : k + 1 + r.length = k + (y :: r).length := by rw [List.length_cons]; omega
    rw [e1]
structure Fr where
  pre : List It
  h : List PyData
  o : List Nat
  b : Bool
def bF : List Fr → Bool
  | [] => true
  | f :: _ => f.b
def nbF (fs : List Fr) (cur : List It) : Bool := cur.isEmpty && (match fs with
  | [] => false
  | f :: _ => f.b)
def seg (b : Bool) (l : List It) : List Nat := if b = true then (gapped l).drop 1 else gapped l
def sep (b : Bool) (l : List It) : List Nat := if b = true ∧ l = [] then [] else [32]
def hdT : List Fr → List Nat
  | [] => []
  | f :: fs => hdT fs ++ seg (bF fs) f.pre ++ sep (bF fs) f.pre ++ f.o
def txt (fs : List Fr) (cur : List It) : List Nat := hdT fs ++ seg (bF fs) cur
theorem seg_snoc (b : Bool) (l : List It) (x : It) : seg b (l ++ [x]) = seg b l ++ sep b l ++ x.word := by
  have e : gapped [x] = 32 :: x.word := by
    rw [gapped, gapped, List.append_nil]
  unfold seg sep
  rw [gapped_app', e]
  cases b with
  | false => simp
  | true =>
    cases l with
    | nil => rw [gapped]; simp
    | cons y r => rw [gapped]; simp
theorem node_word (h : List PyData) (o : List Nat) (b : Bool) (l : List It) : (It.node h o b l).word = o ++ (seg b l ++ [41]) := by
  rw [word_node]
  rfl
inductive GI : It → Prop
  | leaf {h : List PyData} {w : List Nat} (k : LfG h w) : GI (.leaf h w)
  | node {h : List PyData} {o : List Nat} {b : Bool} {l : List It} (k : NdG h o b) (hl : ∀ x ∈ l, GI x) : GI (.node h o b l)
/-- a level of a scan: what stands in the holder that is open -/
def Lv (B : Sc) (path : List Int) (cur : List It) (S : Sc) : Prop := ∃ rs : List (List Int × Int × Int), rs.map (·.1) = (phL path 0 cur).map (·.1) ∧ S = B.more rs (hdsL cur) S.pos cur.length
structure Base (B : Sc) (path : List Int) : Prop where
  wf : Wf B
  c0 : B.count = 0
  hp : B.holder = path
theorem base0 : Base sc0 [] := ⟨sc0_wf, rfl, rfl⟩
theorem base_open {S : Sc} {h : List PyData} {n : Nat} (W : Wf S) (hh : holdH h = true) : Base (S.add h n) (S.holder ++ [(S.count : Int)]) := by
  obtain ⟨h1, h2, h3, _, _⟩ := add_open (n := n) W hh
  exact ⟨h1, h3, h2⟩
theorem Lv.len {B S : Sc} {path : List Int} {cur : List It} (v : Lv B path cur S) : ∃ rs : List (List Int × Int × Int), rs.map (·.1) = (phL path 0 cur).map (·.1) ∧ S = B.more rs (hdsL cur) S.pos cur.length ∧ rs.length = (hdsL cur).length := by
  obtain ⟨rs, h1, h2⟩ := v
  refine ⟨rs, h1, h2, ?_⟩
  have e1 := congrArg List.length h1
  rw [List.length_map, List.length_map] at e1
  rw [e1, ← phL_heads cur path 0, List.length_map]
theorem Lv.facts {B S : Sc} {path : List Int} {cur : List It} (v : Lv B path cur S) (b : Base B path) : Wf S ∧ S.count = cur.length ∧ S.holder = path ∧ S.around = B.around ∧ S.newB = (cur.isEmpty && B.newB) := by
  obtain ⟨rs, h1, h2, h3⟩ := v.len
  rw [h2]
  refine ⟨more_wf b.wf h3, by rw [more_count, b.c0, Nat.zero_add], by rw [more_holder b.wf]; exact b.hp, rfl, ?_⟩
  cases cur with
  | nil =>
    have hr : rs = [] := by
      rw [phL] at h1
      exact List.map_eq_nil_iff.mp h1
    subst hr
    rw [hdsL]
    unfold Sc.newB
    rw [more_count]
    show ((B.count + 0 == 0) && (match B.around.getLast? with | some i => blkH ((B.heads ++ []).getD i []) | none => false)) = _
    rw [List.append_nil]
    rfl
  | cons x r => exact more_newB b.wf (.inr (Nat.succ_pos _))
theorem Lv.item {B S : Sc} {path : List Int} {cur : List It} (v : Lv B path cur S) (b : Base B path) {x : It} {rs' : List (List Int × Int × Int)} {p : Nat} (h : rs'.map (·.1) = (x.ph (S.holder ++ [(S.count : Int)])).map (·.1)) :
    Lv B path (cur ++ [x]) (S.more rs' x.hds p 1) := by
  obtain ⟨_, hc, hh, _, _⟩ := v.facts b
  rw [hc, hh] at h
  obtain ⟨rs, h1, h2⟩ := v
  refine ⟨rs ++ rs', ?_, ?_⟩
  · rw [List.map_append, phL_snoc, List.map_append, h1, h, Nat.zero_add]
  · have e := more_more (S := B) rs rs' (hdsL cur) x.hds S.pos p cur.length 1
    rw [← h2] at e
    rw [e, hdsL_app, hdsL, hdsL, List.append_nil, List.length_append]
    rfl
inductive Zs : List Fr → List It → Sc → Prop
  | top {cur : List It} {S : Sc} (v : Lv sc0 [] cur S) : Zs [] cur S
  | inn {f : Fr} {fs : List Fr} {cur : List It} {S0 S : Sc} {n : Nat} (z : Zs fs f.pre S0) (nd : NdG f.h f.o f.b) (v : Lv (S0.add f.h n) (S0.holder ++ [(S0.count : Int)]) cur S) : Zs (f :: fs) cur S
theorem Zs.facts {fs : List Fr} {cur : List It} {S : Sc} (z : Zs fs cur S) : Wf S ∧ S.count = cur.length ∧ S.around.length = fs.length ∧ S.newB = nbF fs cur := by
  induction z with
  | @top cur S v =>
    obtain ⟨h1, h2, h3, h4, h5⟩ := v.facts base0
    refine ⟨h1, h2, by rw [h4]; rfl, ?_⟩
    rw [h5]
    unfold nbF
    rfl
  | @inn f fs cur S0 S n z nd v ih =>
    obtain ⟨w0, c0, a0, _⟩ := ih
    obtain ⟨hh, hb⟩ := nd.hold
    obtain ⟨h1, h2, h3, h4, h5⟩ := v.facts (base_open w0 hh)
    obtain ⟨_, _, _, g4, _⟩ := add_open (n := n) w0 hh
    refine ⟨h1, h2, by rw [h4, g4, List.length_append, a0]; rfl, ?_⟩
    rw [h5, open_newB w0 hh, hb]
    rfl
theorem Zs.item {fs : List Fr} {cur : List It} {S : Sc} (z : Zs fs cur S) {x : It} {rs' : List (List Int × Int × Int)} {p : Nat} (h : rs'.map (·.1) = (x.ph (S.holder ++ [(S.count : Int)])).map (·.1)) : Zs fs (cur ++ [x]) (S.more rs' x.hds p 1) := by
  cases z with
  | top v => exact .top (v.item base0 h)
  | inn z nd v => exact .inn z nd (v.item (base_open z.facts.1 nd.hold.1) h)
theorem Zs.at_ {fs : List Fr} {cur : List It} {S : Sc} (z : Zs fs cur S) (p : Nat) : Zs fs cur { S with pos := p } := by
  cases z with
  | top v =>
    obtain ⟨rs, h1, h2⟩ := v
    exact .top ⟨rs, h1, by rw [h2]; rfl⟩
  | inn z nd v =>
    obtain ⟨rs, h1, h2⟩ := v
    exact .inn z nd ⟨rs, h1, by rw [h2]; rfl⟩
theorem Zs.leaf {fs : List Fr} {cur : List It} {S : Sc} (z : Zs fs cur S) {h : List PyData} {w : List Nat} (k : LfG h w) (n : Nat) : Zs fs (cur ++ [.leaf h w]) (S.add h n) := by
  rw [add_leaf k.hold]
  have := z.item (x := .leaf h w) (rs' := [(S.holder ++ [(S.count : Int)], (S.pos : Int), ((S.pos + n : Nat) : Int))]) (p := S.pos + n) (by rw [It.ph]; rfl)
  rw [It.hds] at this
  exact this
theorem Zs.open_ {fs : List Fr} {cur : List It} {S : Sc} (z : Zs fs cur S) {h : List PyData} {o : List Nat} {b : Bool} (k : NdG h o b) (n : Nat) : Zs (⟨cur, h, o, b⟩ :: fs) [] (S.add h n) := by
  refine .inn (f := ⟨cur, h, o, b⟩) z k (n := n) ⟨[], by rw [phL]; rfl, ?_⟩
  have W := (base_open (n := n) z.facts.1 k.hold.1)
  rw [hdsL]
  exact (more_nil W.wf).symm
theorem Zs.close_ {f : Fr} {fs : List Fr} {cur : List It} {S : Sc} (z : Zs (f :: fs) cur S) : Zs fs (f.pre ++ [.node f.h f.o f.b cur]) S.close := by
  cases z with
  | @inn _ _ _ S0 _ n z0 nd v =>
    obtain ⟨rs, h1, h2⟩ := v
    have e := close_of (n := n) (p := S.pos) (k := cur.length) (rs := rs) (hs := hdsL cur) z0.facts.1 nd.hold.1
    rw [← h2] at e
    rw [e]
    have := z0.item (x := .node f.h f.o f.b cur) (rs' := (S0.holder ++ [(S0.count : Int)], (S0.pos : Int), ((S.pos + 1 : Nat) : Int)) :: rs) (p := S.pos + 1) (by rw [It.ph, List.map_cons, List.map_cons, h1])
    rw [It.hds] at this
    exact this
theorem Zs.nd {f : Fr} {fs : List Fr} {cur : List It} {S : Sc} (z : Zs (f :: fs) cur S) : NdG f.h f.o f.b := by
  cases z with
  | inn z0 nd v => exact nd
end K1
set_option maxHeartbeats 4000000
/-! the scan and the law's reader go together -/
namespace K1
open PySem
theorem not_word {s : AS} (h : begs s = true) : s ≠ .word := fun e => by rw [e] at h; exact Bool.noConfusion h
theorem stA_of {a : Au} (h : a.st ≠ .word) : stA a = a.st := by
  unfold stA
  rw [if_neg h]
theorem stepA_of {a : Au} {c : Nat} (h : a.st ≠ .word) : stepA a c = actA a a.st c := by
  unfold stepA
  rw [if_neg (fun z => h z.1), stA_of h]
theorem step_open {a : Au} (hb : begs a.st = true) : stepA a 40 = some ⟨a.o + 1, .opn, a.w, false⟩ := by
  rw [stepA_of (not_word hb)]
  unfold actA
  rw [if_neg (fun z => absurd z.2 (by decide)), if_pos ⟨hb, rfl⟩]
theorem step_sgn {a : Au} {c : Nat} (h : (a.st = .opn ∧ (c = 43 ∨ c = 42)) ∨ (a.st = .gap ∧ c = 61)) : stepA a c = some ⟨a.o, .sgn, a.w, a.nm⟩ := by
  have hw : a.st ≠ .word := fun e => by
    rcases h with ⟨h, _⟩ | ⟨h, _⟩ <;> rw [e] at h <;> cases h
  have hc : isWd c = false ∧ c ≠ 40 := by
    rcases h with ⟨_, rfl | rfl⟩ | ⟨_, rfl⟩ <;> exact ⟨by decide, by decide⟩
  rw [stepA_of hw]
  unfold actA
  rw [if_neg (fun z => by rw [hc.1] at z; exact Bool.noConfusion z.2), if_neg (fun z => hc.2 z.2), if_pos h]
theorem step_blank {a : Au} (h : a.st = .after ∨ a.st = .sgn) : stepA a 32 = some ⟨a.o, if a.nm = true ∧ a.st = .after then .gap else .item, a.w, false⟩ := by
  have hw : a.st ≠ .word := fun e => by
    rcases h with h | h <;> rw [e] at h <;> cases h
  rw [stepA_of hw]
  unfold actA
  rw [if_neg (fun z => absurd z.2 (by decide)), if_neg (fun z => absurd z.2 (by decide)), if_neg (fun z => by
    rcases z with ⟨_, z | z⟩ | ⟨_, z⟩ <;> exact absurd z (by decide)), if_neg (fun z => absurd z.1 (by decide)), if_pos ⟨rfl, h⟩]
theorem step_close {a : Au} (h : a.st = .opn ∨ a.st = .after ∨ a.st = .sgn) (ho : 0 < a.o) : stepA a 41 = some ⟨a.o - 1, .after, a.w, false⟩ := by
  have hw : a.st ≠ .word := fun e => by
    rcases h with h | h | h <;> rw [e] at h <;> cases h
  rw [stepA_of hw]
  unfold actA
  rw [if_neg (fun z => absurd z.2 (by decide)), if_neg (fun z => absurd z.2 (by decide)), if_neg (fun z => by
    rcases z with ⟨_, z | z⟩ | ⟨_, z⟩ <;> exact absurd z (by decide)), if_pos ⟨rfl, ho, h⟩]
theorem wE_letter {S : List Nat} (h : 0 < wE S) : ∃ c r, S = c :: r ∧ isLet c = true := by
  cases S with
  | nil => exact absurd h (by decide)
  | cons c r =>
    refine ⟨c, r, rfl, ?_⟩
    cases q : isLet c with
    | true => rfl
    | false =>
      have e : lE 4 (c :: r) = 0 := by unfold lE; rw [if_neg (by rw [q]; exact Bool.false_ne_true)]
      unfold wE at h
      rw [e, if_pos rfl] at h
      exact absurd h (Nat.lt_irrefl _)
theorem let_wd {c : Nat} (h : isLet c = true) : isWd c = true := by
  unfold isWd
  rw [h]
  simp
theorem run_cons {a a' : Au} {n c : Nat} {r : List Nat} (h : stepA a c = some a') : runA a n (c :: r) = runA a' (n + 1) r := by rw [runA, h]
theorem run_stop {a : Au} {n c : Nat} {r : List Nat} (h : stepA a c = none) : runA a n (c :: r) = some n := by rw [runA, h]
theorem sg_head {k : Nat} {S : List Nat} (h : sgM (fun c => c == k) S = true) : ∃ t, S = k :: t := by
  cases S with
  | nil => cases h
  | cons c t =>
    rw [sg_cons, beq_iff_eq] at h
    exact ⟨t, by rw [h]⟩
/-- an opening -/
theorem run_open {a : Au} {r : List Nat} {p : Nat} (hb : begs a.st = true) : ∃ h n o b, brM r = (h, n) ∧ NdG h o b ∧ (40 :: r).take n = o ∧ n ≤ (40 :: r).length ∧ 0 < n ∧ ∃ a', runA a p (40 :: r) = runA a' (p + n) ((40 :: r).drop n) ∧ a'.o = a.o + 1 ∧
    (b = true → a'.st = .opn ∧ brM ((40 :: r).drop n) = ([.str "block"], 1)) ∧ (b = false → a'.st = .sgn) := by
  have e0 := run_cons (n := p) (r := r) (step_open hb)
  by_cases c1 : sgM (fun c => c == 43) r = true
  · obtain ⟨t, rfl⟩ := sg_head c1
    refine ⟨_, 2, [40, 43], false, rfl, .sum, rfl, by simp, by decide, ⟨a.o + 1, .sgn, a.w, false⟩, ?_, rfl, fun z => Bool.noConfusion z, fun _ => rfl⟩
    rw [e0, run_cons (step_sgn (.inl ⟨rfl, .inl rfl⟩))]
    rfl
  · by_cases c2 : sgM (fun c => c == 42) r = true
    · obtain ⟨t, rfl⟩ := sg_head c2
      refine ⟨_, 2, [40, 42], false, rfl, .product, rfl, by simp, by decide, ⟨a.o + 1, .sgn, a.w, false⟩, ?_, rfl, fun z => Bool.noConfusion z, fun _ => rfl⟩
      rw [e0, run_cons (step_sgn (.inl ⟨rfl, .inr rfl⟩))]
      rfl
    · have hbr : brM r = if 0 < wE r ∧ (r.drop (wE r)).take 2 = [32, 61] then ([.str "let", .str (sO (r.take (wE r)))], wE r + 3) else ([.str "block"], 1) := by
        unfold brM
        rw [if_neg c1, if_neg c2]
      by_cases c3 : 0 < wE r ∧ (r.drop (wE r)).take 2 = [32, 61]
      · rw [if_pos c3] at hbr
        obtain ⟨hR, hN⟩ := reach_name c3.1
        obtain ⟨c, t, ec, lc⟩ := wE_letter c3.1
        generalize hw : wE r = m at *
        obtain ⟨rest, er⟩ : ∃ rest, r.drop m = 32 :: 61 :: rest := by
          have := c3.2
          match hd : r.drop m, this with
          | [], z => cases z
          | [x], z => cases z
          | x :: y :: rest, z =>
            have z1 := (List.cons.inj z).1
            have z2 := (List.cons.inj (List.cons.inj z).2).1
            exact ⟨rest, by rw [z1, z2]⟩
        have lt : (r.take m).length = m := by
          rw [List.length_take]
          have := hR.2.1
          omega
        have ern : r = r.take m ++ 32 :: 61 :: rest := by rw [← er, List.take_append_drop]
        have et : (40 :: r).take (m + 3) = 40 :: (r.take m ++ [32, 61]) := by
          have : r.take (m + 2) = r.take m ++ [32, 61] := by
            conv => lhs; rw [ern]
            rw [List.take_append, lt, List.take_of_length_le (by omega)]
            have : m + 2 - m = 2 := by omega
            rw [this]
            rfl
          rw [show m + 3 = (m + 2) + 1 from rfl, List.take_succ_cons, this]
        have ed : (40 :: r).drop (m + 3) = rest := by
          rw [show m + 3 = (m + 2) + 1 from rfl, List.drop_succ_cons]
          have : r.drop (m + 2) = (r.drop m).drop 2 := by rw [List.drop_drop]
          rw [this, er]
          rfl
        refine ⟨_, _, _, false, hbr, .let_ _ hN, et, ?_, by omega, ⟨a.o + 1, .sgn, r.take m, false⟩, ?_, rfl, fun z => Bool.noConfusion z, fun _ => rfl⟩
        · have : r.length = m + (rest.length + 2) := by
            rw [ern, List.length_append, lt]
            rfl
          rw [List.length_cons]
          omega
        · have k1 := run_reach (a := ⟨a.o + 1, .opn, a.w, false⟩) (p := p + 1) (c := c) (r := t) (n := m) rfl (let_wd lc) (by rw [← ec]; exact hR)
          rw [← ec, lc, er] at k1
          rw [e0, k1, ed]
          rw [run_cons (step_blank (.inl rfl))]
          show runA ⟨a.o + 1, .gap, r.take m, false⟩ (p + 1 + m + 1) (61 :: rest) = _
          rw [run_cons (step_sgn (.inr ⟨rfl, rfl⟩))]
          have e5 : p + 1 + m + 1 + 1 = p + (m + 3) := by omega
          rw [e5]
      · rw [if_neg c3] at hbr
        refine ⟨_, 1, [40], true, hbr, .block, rfl, by simp, by decide, ⟨a.o + 1, .opn, a.w, false⟩, ?_, rfl, fun _ => ⟨rfl, hbr⟩, fun z => Bool.noConfusion z⟩
        rw [e0]
        rfl
end K1
set_option maxHeartbeats 4000000
/-! the scan and the law's reader go together: whole texts -/
namespace K1
open PySem
structure InvT (T : List Nat) (fs : List Fr) (cur : List It) (S : Sc) : Prop where
  z : Zs fs cur S
  tx : T.take S.pos = txt fs cur
  le : S.pos ≤ T.length
  gc : ∀ x ∈ cur, GI x
  gf : ∀ f ∈ fs, ∀ x ∈ f.pre, GI x
  ne : fs = [] → cur ≠ []
structure RA (T : List Nat) (fs : List Fr) (cur : List It) (p : Nat) (a : Au) : Prop where
  o : a.o = fs.length
  nb1 : nbF fs cur = true → a.st = .opn ∧ brM (T.drop p) = ([.str "block"], 1)
  nb0 : nbF fs cur = false → (a.st = .after ∨ a.st = .sgn) ∧ (a.nm = true → a.st = .after → (T.drop p).take 2 ≠ [32, 61])
theorem take_take_drop {T : List Nat} {p n : Nat} : T.take (p + n) = T.take p ++ (T.drop p).take n := by
  rw [List.take_add]
/-- an item begins, or does not -/
theorem begin_both {T : List Nat} {fs : List Fr} {cur : List It} {S : Sc} {a : Au} (z : Zs fs cur S) (tx : T.take S.pos = txt fs cur ++ sep (bF fs) cur) (le : S.pos ≤ T.length) (gc : ∀ x ∈ cur, GI x) (gf : ∀ f ∈ fs, ∀ x ∈ f.pre, GI x)
    (ho : a.o = fs.length) (hb : begs a.st = true) (g1 : a.st = .gap → (T.drop S.pos).getD 0 0 ≠ 61) (g2 : a.st = .opn → brM (T.drop S.pos) = ([.str "block"], 1) ∧ (T.drop S.pos).getD 0 0 ≠ 41) (g3 : T.drop S.pos = [] → a.st = .item ∨ a.st = .gap ∨ 0 < a.o) :
    match beginS T S with
    | .inl e => runA a S.pos (T.drop S.pos) = some e
    | .inr S' => ∃ fs' cur' a', InvT T fs' cur' S' ∧ RA T fs' cur' S'.pos a' ∧ runA a S.pos (T.drop S.pos) = runA a' S'.pos (T.drop S'.pos) := by
  obtain ⟨zw, zc, za, zn⟩ := z.facts
  unfold beginS
  cases hS : T.drop S.pos with
  | nil =>
    rw [hS] at g3
    show runA a S.pos [] = some S.pos
    rw [runA]
    unfold endA
    rw [if_pos (by rcases g3 rfl with h | h | h <;> simp [h])]
  | cons c r =>
    rw [hS] at g1 g2
    have dl : (T.drop S.pos).length = T.length - S.pos := List.length_drop
    have dd : ∀ n, (c :: r).drop n = T.drop (S.pos + n) := fun n => by rw [← hS, List.drop_drop]
    have lr : (c :: r).length = T.length - S.pos := by rw [← hS]; exact dl
    by_cases hc : isWd c = true
    · obtain ⟨h, n, e1, k, R, hn⟩ := head_word (r := r) hc
      rw [e1]
      have hR := R
      obtain ⟨n1, n2, _, _⟩ := R
      refine ⟨fs, cur ++ [.leaf h ((c :: r).take n)], ⟨a.o, .after, (c :: r).take n, decide (a.st = .opn) && isLet c⟩, ⟨z.leaf k n, ?_, ?_, ?_, gf, fun _ => by simp⟩, ?_, by rw [run_reach hb hc hR, dd]; rfl⟩
      · show T.take (S.pos + n) = _
        rw [take_take_drop, tx, hS]
        unfold txt
        rw [seg_snoc, It.word, List.append_assoc, List.append_assoc, List.append_assoc]
      · show S.pos + n ≤ T.length
        omega
      · intro x hx
        rcases List.mem_append.mp hx with hx | hx
        · exact gc x hx
        · rw [List.mem_singleton.mp hx]
          exact .leaf k
      · have nb : nbF fs (cur ++ [.leaf h ((c :: r).take n)]) = false := by
          unfold nbF
          simp
        refine ⟨ho, fun z => (by rw [nb] at z; cases z), fun _ => ⟨.inl rfl, fun hnm _ => ?_⟩⟩
        have hnm' : (decide (a.st = .opn) && isLet c) = true := hnm
        rw [Bool.and_eq_true, decide_eq_true_eq] at hnm'
        obtain ⟨st, lc⟩ := hnm'
        obtain ⟨hw, h0⟩ := hn lc
        have hbk := (brM_block (g2 st).1).2.2
        show (T.drop (S.pos + n)).take 2 ≠ [32, 61]
        rw [← dd, hw]
        exact fun e => hbk ⟨by rw [← hw]; exact h0, e⟩
    · have hc0 : isWd c = false := by simpa using hc
      by_cases c40 : c = 40
      · subst c40
        obtain ⟨h, n, o, b, e1, k, e2, n2, n1, a', e3, ea, h1, h0⟩ := run_open (r := r) (p := S.pos) hb
        rw [head_open, e1]
        refine ⟨⟨cur, h, o, b⟩ :: fs, [], a', ⟨z.open_ k n, ?_, ?_, fun x hx => (by cases hx), ?_, fun e => (by cases e)⟩, ?_, ?_⟩
        · show T.take (S.pos + n) = _
          rw [take_take_drop, tx, hS, e2]
          have e5 : seg (bF (⟨cur, h, o, b⟩ :: fs)) [] = [] := by
            unfold seg
            rw [gapped]
            simp
          have e6 : txt (⟨cur, h, o, b⟩ :: fs) [] = hdT (⟨cur, h, o, b⟩ :: fs) := by
            unfold txt
            rw [e5, List.append_nil]
          rw [e6, hdT]
          rfl
        · show S.pos + n ≤ T.length
          omega
        · intro f hf x hx
          rcases List.mem_cons.mp hf with rfl | hf
          · exact gc x hx
          · exact gf f hf x hx
        · have nb : nbF (⟨cur, h, o, b⟩ :: fs) [] = b := by unfold nbF; simp
          refine ⟨by rw [ea, ho]; rfl, fun q => ?_, fun q => ?_⟩
          · rw [nb] at q
            obtain ⟨q1, q2⟩ := h1 q
            refine ⟨q1, ?_⟩
            show brM (T.drop (S.pos + n)) = _
            rw [← dd]
            exact q2
          · rw [nb] at q
            have q1 := h0 q
            exact ⟨.inr q1, fun _ z => by rw [q1] at z; cases z⟩
        · rw [e3, dd]
          rfl
      · rw [head_none (S := c :: r) fun c' r' e => by
          cases e
          exact ⟨hc0, c40⟩]
        show runA a S.pos (c :: r) = some S.pos
        refine run_stop ?_
        rw [stepA_of (not_word hb)]
        unfold actA
        have m3 : ¬ ((a.st = .opn ∧ (c = 43 ∨ c = 42)) ∨ (a.st = .gap ∧ c = 61)) := fun q => by
          rcases q with ⟨q1, q2⟩ | ⟨q1, q2⟩
          · obtain ⟨b1, b2, _⟩ := brM_block (g2 q1).1
            rw [sg_cons] at b1 b2
            rcases q2 with q2 | q2
            · rw [q2] at b1
              cases b1
            · rw [q2] at b2
              cases b2
          · exact g1 q1 q2
        have m4 : ¬ (c = 41 ∧ 0 < a.o ∧ (a.st = .opn ∨ a.st = .after ∨ a.st = .sgn)) := fun q => by
          obtain ⟨q1, q2, q3⟩ := q
          rcases q3 with q3 | q3 | q3
          · exact (g2 q3).2 q1
          · rw [q3] at hb
            cases hb
          · rw [q3] at hb
            cases hb
        have m5 : ¬ (c = 32 ∧ (a.st = .after ∨ a.st = .sgn)) := fun q => by
          obtain ⟨q1, q3⟩ := q
          rcases q3 with q3 | q3
          · rw [q3] at hb
            cases hb
          · rw [q3] at hb
            cases hb
        rw [if_neg (fun q => hc q.2), if_neg (fun q => c40 q.2), if_neg m3, if_neg m4, if_neg m5]
end K1
set_option maxHeartbeats 4000000
/-! whole texts: what the law's reader finds wrong is what the scan raises; a text that is right is the text of a tree -/
namespace K1
open PySem L2
theorem drop_cons {T : List Nat} {p : Nat} (h : p < T.length) : T.drop p = T.getD p 0 :: T.drop (p + 1) := by
  rw [List.drop_eq_getElem_cons h, getD_lt h]
theorem nb_cases {fs : List Fr} {cur : List It} (h : nbF fs cur = true) : cur = [] ∧ ∃ f gs, fs = f :: gs ∧ f.b = true := by
  unfold nbF at h
  rw [Bool.and_eq_true, List.isEmpty_iff] at h
  refine ⟨h.1, ?_⟩
  cases fs with
  | nil => cases h.2
  | cons f gs => exact ⟨f, gs, rfl, h.2⟩
theorem step_both {T : List Nat} {fs : List Fr} {cur : List It} {S : Sc} {a : Au} (I : InvT T fs cur S) (R : RA T fs cur S.pos a) (hlt : S.pos < T.length) :
    match stepS T S with
    | .inl e => runA a S.pos (T.drop S.pos) = some e
    | .inr S' => ∃ fs' cur' a', InvT T fs' cur' S' ∧ RA T fs' cur' S'.pos a' ∧ runA a S.pos (T.drop S.pos) = runA a' S'.pos (T.drop S'.pos) := by
  obtain ⟨zw, zc, za, zn⟩ := I.z.facts
  have hd := drop_cons hlt
  have t1 : T.take (S.pos + 1) = txt fs cur ++ [T.getD S.pos 0] := by
    rw [take_more hlt, I.tx]
  unfold stepS
  by_cases c1 : T.getD S.pos 0 = 41 ∧ S.around ≠ []
  · rw [if_pos c1]
    cases fs with
    | nil =>
      exfalso
      exact c1.2 (List.length_eq_zero_iff.mp za)
    | cons f gs =>
      have hst : a.st = .opn ∨ a.st = .after ∨ a.st = .sgn := by
        cases q : nbF (f :: gs) cur with
        | true => exact .inl (R.nb1 q).1
        | false => exact .inr (R.nb0 q).1
      have ho : 0 < a.o := by rw [R.o]; exact Nat.succ_pos _
      refine ⟨gs, f.pre ++ [.node f.h f.o f.b cur], ⟨a.o - 1, .after, a.w, false⟩, ⟨I.z.close_, ?_, hlt, ?_, fun g hg => I.gf g (List.mem_cons_of_mem _ hg), fun _ => by simp⟩, ⟨by show a.o - 1 = _; rw [R.o]; rfl, fun q => ?_, fun _ => ⟨.inl rfl, fun q => (by cases q)⟩⟩, ?_⟩
      · show T.take (S.pos + 1) = _
        rw [t1, c1.1]
        unfold txt
        rw [seg_snoc, node_word, hdT]
        simp only [List.append_assoc]
        rfl
      · intro x hx
        rcases List.mem_append.mp hx with hx | hx
        · exact I.gf f List.mem_cons_self x hx
        · rw [List.mem_singleton.mp hx]
          exact .node I.z.nd I.gc
      · unfold nbF at q
        simp at q
      · rw [hd, c1.1, run_cons (step_close hst ho)]
        rfl
  · rw [if_neg c1]
    by_cases c2 : S.newB = true
    · rw [if_pos c2]
      rw [zn] at c2
      obtain ⟨e1, f, gs, e2, e3⟩ := nb_cases c2
      obtain ⟨r1, r2⟩ := R.nb1 c2
      have es : sep (bF fs) cur = [] := by
        unfold sep
        refine if_pos ⟨?_, e1⟩
        rw [e2]
        exact e3
      refine begin_both I.z (by rw [es, List.append_nil]; exact I.tx) I.le I.gc I.gf R.o (by rw [r1]; rfl) (fun q => by rw [r1] at q; cases q) (fun _ => ⟨r2, fun q => c1 ⟨?_, fun z => ?_⟩⟩) (fun q => by rw [hd] at q; cases q)
      · rw [hd] at q
        exact q
      · rw [z, e2] at za
        cases za
    · rw [if_neg c2]
      have nb : nbF fs cur = false := by
        rw [← zn]
        simpa using c2
      obtain ⟨r1, r2⟩ := R.nb0 nb
      by_cases c3 : T.getD S.pos 0 = 32
      · rw [if_pos c3]
        have es : sep (bF fs) cur = [32] := by
          unfold sep
          refine if_neg fun q => ?_
          cases fs with
          | nil => exact I.ne rfl q.2
          | cons f gs =>
            have qb : f.b = true := q.1
            rw [q.2] at nb
            have nb2 : f.b = false := nb
            rw [qb] at nb2
            exact Bool.noConfusion nb2
        have rs := run_cons (n := S.pos) (r := T.drop (S.pos + 1)) (step_blank r1)
        rw [hd, c3, rs]
        refine begin_both (S := { S with pos := S.pos + 1 }) (I.z.at_ _) (by show T.take (S.pos + 1) = _; rw [t1, c3, es]) hlt I.gc I.gf R.o ?_ (fun q => ?_) (fun q => ?_) (fun _ => ?_)
        · show begs (if a.nm = true ∧ a.st = .after then .gap else .item) = true
          split <;> rfl
        · have q' : (if a.nm = true ∧ a.st = .after then AS.gap else AS.item) = AS.gap := q
          by_cases w : a.nm = true ∧ a.st = .after
          · have := r2 w.1 w.2
            show (T.drop (S.pos + 1)).getD 0 0 ≠ 61
            intro e
            refine this ?_
            rw [hd, c3]
            cases hh : T.drop (S.pos + 1) with
            | nil => rw [hh] at e; cases e
            | cons x y =>
              rw [hh] at e
              have e' : x = 61 := e
              rw [e']
              rfl
          · rw [if_neg w] at q'
            cases q'
        · have q' : (if a.nm = true ∧ a.st = .after then AS.gap else AS.item) = AS.opn := q
          split at q' <;> cases q'
        · show (if a.nm = true ∧ a.st = .after then AS.gap else AS.item) = AS.item ∨ (if a.nm = true ∧ a.st = .after then AS.gap else AS.item) = AS.gap ∨ _
          split
          · exact .inr (.inl rfl)
          · exact .inl rfl
      · rw [if_neg c3]
        show runA a S.pos (T.drop S.pos) = some S.pos
        rw [hd]
        refine run_stop ?_
        have hw : a.st ≠ .word := fun e => by
          rcases r1 with h | h <;> rw [e] at h <;> cases h
        have nb' : begs a.st = false := by
          rcases r1 with h | h <;> rw [h] <;> rfl
        rw [stepA_of hw]
        unfold actA
        have m3 : ¬ ((a.st = .opn ∧ (T.getD S.pos 0 = 43 ∨ T.getD S.pos 0 = 42)) ∨ (a.st = .gap ∧ T.getD S.pos 0 = 61)) := fun q => by
          rcases q with ⟨q, _⟩ | ⟨q, _⟩ <;> rw [q] at nb' <;> cases nb'
        have m4 : ¬ (T.getD S.pos 0 = 41 ∧ 0 < a.o ∧ (a.st = .opn ∨ a.st = .after ∨ a.st = .sgn)) := fun ⟨q1, q2, _⟩ => c1 ⟨q1, fun z => by
          rw [z] at za
          rw [R.o, ← za] at q2
          exact absurd q2 (by decide)⟩
        rw [if_neg (fun q => by rw [nb'] at q; exact Bool.noConfusion q.1), if_neg (fun q => by rw [nb'] at q; exact Bool.noConfusion q.1), if_neg m3, if_neg m4, if_neg (fun q => c3 q.1)]
def tellR : Nat ⊕ Sc → Option Nat
  | .inl e => some e
  | .inr _ => none
def TreeOf (T : List Nat) (S' : Sc) : Prop := ∃ its, Zs [] its S' ∧ textM its = T ∧ ∀ x ∈ its, GI x
theorem run_both {T : List Nat} {n : Nat} {S : Sc} {r : Nat ⊕ Sc} (h : Runs T n S r) : ∀ {fs : List Fr} {cur : List It} {a : Au}, InvT T fs cur S → RA T fs cur S.pos a → runA a S.pos (T.drop S.pos) = tellR r ∧ ∀ S', r = .inr S' → TreeOf T S' := by
  induction h with
  | @fin S h =>
    intro fs cur a I R
    obtain ⟨zw, zc, za, zn⟩ := I.z.facts
    have ep : S.pos = T.length := Nat.le_antisymm I.le h
    have hst : a.st ≠ .item ∧ a.st ≠ .gap := by
      cases q : nbF fs cur with
      | true =>
        rw [(R.nb1 q).1]
        exact ⟨fun e => (by cases e), fun e => (by cases e)⟩
      | false =>
        rcases (R.nb0 q).1 with e | e <;> rw [e] <;> exact ⟨fun e => (by cases e), fun e => (by cases e)⟩
    rw [List.drop_eq_nil_of_le h, runA]
    unfold endA
    by_cases q : S.around = []
    · have f0 : fs = [] := by
        rw [q] at za
        exact List.length_eq_zero_iff.mp za.symm
      rw [if_pos q, if_neg (by
        rintro (e | e | e)
        · rw [R.o, f0] at e
          exact absurd e (by decide)
        · exact hst.1 e
        · exact hst.2 e)]
      refine ⟨rfl, fun S' e => ?_⟩
      cases e
      subst f0
      refine ⟨cur, I.z, ?_, I.gc⟩
      have := I.tx
      rw [ep, List.take_length] at this
      rw [this]
      rfl
    · have f0 : 0 < a.o := by
        rw [R.o, ← za]
        exact List.length_pos_iff.mpr q
      rw [if_neg q, if_pos (.inl f0)]
      exact ⟨rfl, fun S' e => by cases e⟩
  | @bad S e h hs =>
    intro fs cur a I R
    have := step_both I R h
    rw [hs] at this
    exact ⟨this, fun S' e => by cases e⟩
  | @go S S1 n r h hs ht ih =>
    intro fs cur a I R
    have := step_both I R h
    rw [hs] at this
    obtain ⟨fs', cur', a', I', R', e⟩ := this
    rw [e]
    exact ih I' R'
def wrongT (T : List Nat) : Option Nat := runA ⟨0, .start, [], false⟩ 0 T
theorem start_both {T : List Nat} (hT : T ≠ []) : match beginS T sc0 with
    | .inl e => wrongT T = some e
    | .inr S' => ∃ fs' cur' a', InvT T fs' cur' S' ∧ RA T fs' cur' S'.pos a' ∧ wrongT T = runA a' S'.pos (T.drop S'.pos) := by
  have z0 : Zs [] [] sc0 := .top ⟨[], by rw [phL]; rfl, by rw [hdsL]; exact (more_nil sc0_wf).symm⟩
  have := begin_both (T := T) (a := ⟨0, .start, [], false⟩) z0 (by show T.take 0 = _; unfold txt seg sep hdT; simp [gapped, bF]) (Nat.zero_le _) (fun x hx => (by cases hx)) (fun x hx => (by cases hx)) rfl rfl (fun q => by cases q) (fun q => by cases q) (fun q => absurd q (by show T.drop 0 ≠ []; simpa using hT))
  exact this
/-- the scan of any text, and what the law finds wrong with it -/
theorem scan_law {T : List Nat} {r : Nat ⊕ Sc} (h : ScanR T r) : wrongT T = tellR r ∧ ∀ S', r = .inr S' → TreeOf T S' := by
  rcases h with ⟨rfl, rfl⟩ | ⟨hT, h⟩
  · refine ⟨rfl, fun S' e => ?_⟩
    cases e
    exact ⟨[], .top ⟨[], by rw [phL]; rfl, by rw [hdsL]; exact (more_nil sc0_wf).symm⟩, by unfold textM; rw [gapped]; rfl, fun x hx => by cases hx⟩
  · have st := start_both hT
    rcases h with ⟨e, h1, rfl⟩ | ⟨S1, n, h1, h2⟩
    · rw [h1] at st
      exact ⟨st, fun S' e => by cases e⟩
    · rw [h1] at st
      obtain ⟨fs', cur', a', I', R', e⟩ := st
      rw [e]
      exact run_both h2 I' R'
end K1
set_option maxHeartbeats 4000000
/-! how deep a text is, and what a scan of it gives -/
namespace K1
open PySem L2
def dl (c : Nat) : Int := if c = 40 then 1 else if c = 41 then -1 else 0
def sumB : List Nat → Int
  | [] => 0
  | c :: r => dl c + sumB r
/-- it never goes deeper than D, beginning at k -/
def okB (D : Int) : Int → List Nat → Prop
  | k, [] => k ≤ D
  | k, c :: r => k ≤ D ∧ okB D (k + dl c) r
theorem sumB_app : ∀ (a b : List Nat), sumB (a ++ b) = sumB a + sumB b
  | [], b => by show sumB b = 0 + sumB b; omega
  | c :: r, b => by
    show dl c + sumB (r ++ b) = dl c + sumB r + sumB b
    rw [sumB_app r b]
    omega
theorem okB_app {D : Int} : ∀ (a b : List Nat) (k : Int), okB D k (a ++ b) ↔ okB D k a ∧ okB D (k + sumB a) b
  | [], b, k => by
    show okB D k b ↔ k ≤ D ∧ okB D (k + 0) b
    rw [Int.add_zero]
    refine ⟨fun h => ⟨?_, h⟩, fun h => h.2⟩
    cases b with
    | nil => exact h
    | cons c r => exact h.1
  | c :: r, b, k => by
    show (k ≤ D ∧ okB D (k + dl c) (r ++ b)) ↔ (k ≤ D ∧ okB D (k + dl c) r) ∧ okB D (k + (dl c + sumB r)) b
    rw [okB_app r b, Int.add_assoc]
    exact ⟨fun h => ⟨⟨h.1, h.2.1⟩, h.2.2⟩, fun h => ⟨h.1.1, h.1.2, h.2⟩⟩
theorem okB_end {D k : Int} {l : List Nat} (h : okB D k l) : k ≤ D := by
  cases l with
  | nil => exact h
  | cons c r => exact h.1
theorem okB_more {D j : Int} : ∀ {l : List Nat} {k k' : Int}, okB D k l → k' ≤ k + j → okB (D + j) k' l
  | [], k, k', h, hk => by
    have : k ≤ D := h
    show k' ≤ D + j
    omega
  | c :: r, k, k', h, hk => by
    obtain ⟨h1, h2⟩ := h
    exact ⟨by omega, okB_more h2 (by omega)⟩
theorem dl_le (c : Nat) : dl c ≤ 1 ∧ -1 ≤ dl c := by
  unfold dl
  split
  · exact ⟨by omega, by omega⟩
  · split <;> exact ⟨by omega, by omega⟩
theorem flat_sum : ∀ {w : List Nat}, (∀ c ∈ w, c ≠ 40 ∧ c ≠ 41) → sumB w = 0
  | [], _ => rfl
  | c :: r, h => by
    obtain ⟨h1, h2⟩ := h c List.mem_cons_self
    show dl c + sumB r = 0
    rw [flat_sum fun d hd => h d (List.mem_cons_of_mem _ hd)]
    unfold dl
    rw [if_neg h1, if_neg h2]
    rfl
theorem flat_ok {D : Int} : ∀ {w : List Nat} {k : Int}, (∀ c ∈ w, c ≠ 40 ∧ c ≠ 41) → k ≤ D → okB D k w
  | [], k, _, hk => hk
  | c :: r, k, h, hk => by
    obtain ⟨h1, h2⟩ := h c List.mem_cons_self
    refine ⟨hk, ?_⟩
    have e : dl c = 0 := by
      unfold dl
      rw [if_neg h1, if_neg h2]
    rw [e, Int.add_zero]
    exact flat_ok (fun d hd => h d (List.mem_cons_of_mem _ hd)) hk
theorem LfG.flat {h : List PyData} {w : List Nat} (k : LfG h w) : ∀ c ∈ w, c ≠ 40 ∧ c ≠ 41 := by
  cases k with
  | num m hm =>
    intro c hc
    unfold numC at hc
    split at hc
    · rw [List.mem_singleton.mp hc]
      omega
    · simp only [List.mem_cons, List.not_mem_nil, or_false] at hc
      rcases hc with rfl | rfl <;> omega
  | lost => intro c hc; rw [List.mem_singleton.mp hc]; exact ⟨by decide, by decide⟩
  | use w hw => intro c hc; have := hw.sm c hc; omega
theorem NdG.open_ {h : List PyData} {o : List Nat} {b : Bool} (k : NdG h o b) : ∃ t, o = 40 :: t ∧ ∀ c ∈ t, c ≠ 40 ∧ c ≠ 41 := by
  cases k with
  | block => exact ⟨[], rfl, fun c hc => by cases hc⟩
  | sum => exact ⟨[43], rfl, fun c hc => by rw [List.mem_singleton.mp hc]; exact ⟨by decide, by decide⟩⟩
  | product => exact ⟨[42], rfl, fun c hc => by rw [List.mem_singleton.mp hc]; exact ⟨by decide, by decide⟩⟩
  | let_ w hw =>
    refine ⟨_, rfl, fun c hc => ?_⟩
    rcases List.mem_append.mp hc with hc | hc
    · have := hw.sm c hc
      omega
    · simp only [List.mem_cons, List.not_mem_nil, or_false] at hc
      rcases hc with rfl | rfl <;> exact ⟨by decide, by decide⟩
theorem dl40 : dl 40 = 1 := rfl
theorem dl41 : dl 41 = -1 := rfl
theorem gapped_sum {l : List It} (h : ∀ x ∈ l, sumB x.word = 0) : sumB (gapped l) = 0 := by
  induction l with
  | nil => rw [gapped]; rfl
  | cons x r ih =>
    rw [gapped]
    show dl 32 + sumB (x.word ++ gapped r) = 0
    rw [sumB_app, h x List.mem_cons_self, ih fun y hy => h y (List.mem_cons_of_mem _ hy)]
    rfl
theorem seg_sum {b : Bool} {l : List It} (h : sumB (gapped l) = 0) : sumB (seg b l) = 0 := by
  unfold seg
  cases b with
  | false => exact h
  | true =>
    cases l with
    | nil => rw [gapped]; rfl
    | cons x r =>
      rw [gapped] at h ⊢
      have : dl 32 + sumB (x.word ++ gapped r) = 0 := h
      show sumB (x.word ++ gapped r) = 0
      have e : dl 32 = 0 := rfl
      omega
theorem GI.sum {x : It} (g : GI x) : sumB x.word = 0 := by
  induction g with
  | @leaf h w k => rw [It.word]; exact flat_sum k.flat
  | @node h o b l k hl ih =>
    obtain ⟨t, e, ht⟩ := k.open_
    rw [node_word, e, sumB_app, sumB_app, seg_sum (gapped_sum ih)]
    show dl 40 + sumB t + (0 + (dl 41 + 0)) = 0
    rw [flat_sum ht]
    rfl
/-- a tree n deep at most -/
inductive Dg : Nat → It → Prop
  | leaf {n : Nat} {h : List PyData} {w : List Nat} (k : LfG h w) : Dg n (.leaf h w)
  | node {n : Nat} {h : List PyData} {o : List Nat} {b : Bool} {l : List It} (k : NdG h o b) (hc : ∀ x ∈ l, Dg n x) : Dg (n + 1) (.node h o b l)
theorem Dg.gi {n : Nat} {x : It} (d : Dg n x) : GI x := by
  induction d with
  | leaf k => exact .leaf k
  | node k _ ih => exact .node k ih
theorem okB_tail {D k : Int} {l : List Nat} (h : okB D k (32 :: l)) : okB D k l := by
  obtain ⟨_, h⟩ := h
  have e : dl 32 = 0 := rfl
  rw [e, Int.add_zero] at h
  exact h
theorem okB_seg {D k : Int} {b : Bool} {l : List It} : okB D k (gapped l) ↔ okB D k (seg b l) := by
  unfold seg
  cases b with
  | false => exact Iff.rfl
  | true =>
    cases l with
    | nil => rw [gapped]; exact Iff.rfl
    | cons x r =>
      rw [gapped]
      refine ⟨fun h => okB_tail h, fun h => ⟨okB_end h, ?_⟩⟩
      have e : dl 32 = 0 := rfl
      rw [e, Int.add_zero]
      exact h
theorem gapped_ok {D k : Int} {l : List It} (hs : ∀ x ∈ l, sumB x.word = 0) (hk : k ≤ D) : okB D k (gapped l) ↔ ∀ x ∈ l, okB D k x.word := by
  induction l with
  | nil =>
    rw [gapped]
    exact ⟨fun _ x hx => (by cases hx), fun _ => hk⟩
  | cons x r ih =>
    rw [gapped]
    have e : dl 32 = 0 := rfl
    have ih := ih fun y hy => hs y (List.mem_cons_of_mem _ hy)
    show (k ≤ D ∧ okB D (k + dl 32) (x.word ++ gapped r)) ↔ _
    rw [e, Int.add_zero, okB_app, hs x List.mem_cons_self, Int.add_zero, ih]
    refine ⟨fun h y hy => ?_, fun h => ⟨hk, h x List.mem_cons_self, fun y hy => h y (List.mem_cons_of_mem _ hy)⟩⟩
    rcases List.mem_cons.mp hy with rfl | hy
    · exact h.2.1
    · exact h.2.2 y hy
theorem Dg.ok {n : Nat} {x : It} (d : Dg n x) : ∀ {k D : Int}, k + n ≤ D → okB D k x.word := by
  induction d with
  | @leaf n h w g =>
    intro k D hk
    rw [It.word]
    exact flat_ok g.flat (by omega)
  | @node n h o b l g hc ih =>
    intro k D hk
    obtain ⟨t, e, ht⟩ := g.open_
    rw [node_word, e, okB_app, okB_app]
    have es : sumB (40 :: t) = 1 := by
      show dl 40 + sumB t = 1
      rw [flat_sum ht]
      rfl
    have e0 := gapped_sum fun y hy => (hc y hy).gi.sum
    rw [es, seg_sum e0]
    refine ⟨⟨by omega, by rw [dl40]; exact flat_ok ht (by omega)⟩, okB_seg.mp ((gapped_ok (fun y hy => (hc y hy).gi.sum) (by omega)).mpr fun y hy => ih y hy (by omega)), ?_⟩
    show k + 1 + 0 ≤ D ∧ k + 1 + 0 + dl 41 ≤ D
    rw [dl41]
    omega
theorem GI.dg {x : It} (g : GI x) : ∀ {n : Nat} {k D : Int}, okB D k x.word → D ≤ k + n → Dg n x := by
  induction g with
  | leaf k => intro n _ _ _ _; exact .leaf k
  | @node h o b l g hl ih =>
    intro n k D hk hn
    obtain ⟨t, e, ht⟩ := g.open_
    rw [node_word, e, okB_app, okB_app] at hk
    have es : sumB (40 :: t) = 1 := by
      show dl 40 + sumB t = 1
      rw [flat_sum ht]
      rfl
    rw [es] at hk
    obtain ⟨_, h2, _⟩ := hk
    have h3 := okB_end h2
    have h4 := (gapped_ok (fun y hy => (hl y hy).sum) h3).mp (okB_seg.mpr h2)
    cases n with
    | zero => omega
    | succ n => exact .node g fun y hy => ih y hy (h4 y hy) (by omega)
/-- a text of trees -/
theorem text_dg {D : Nat} {its : List It} (g : ∀ x ∈ its, GI x) : okB D 0 (textM its) ↔ ∀ x ∈ its, Dg D x := by
  have e : textM its = seg true its := rfl
  rw [e]
  refine ⟨fun h x hx => ?_, fun h => okB_seg.mp ((gapped_ok (fun y hy => (g y hy).sum) (by omega)).mpr fun y hy => (h y hy).ok (by omega))⟩
  have h4 := (gapped_ok (fun y hy => (g y hy).sum) (okB_end h)).mp (okB_seg.mpr h)
  exact (g x hx).dg (h4 x hx) (by omega)
/-- a sign more or less: two deeper at most -/
theorem okB_bent {D : Int} {T s : List Nat} {p d : Nat} (h : okB D 0 T) (hs : ∀ k, k ≤ D → okB (D + 1) k s) (hs2 : sumB s ≤ 1) (hd : d ≤ 1) : okB (D + 2) 0 (T.take p ++ s ++ T.drop (p + d)) := by
  have e := List.take_append_drop p T
  rw [← e, okB_app] at h
  obtain ⟨h1, h2⟩ := h
  have hk := okB_end h2
  rw [List.append_assoc, okB_app, okB_app]
  have hs3 := okB_more (j := 1) (k' := 0 + sumB (T.take p)) (hs _ hk) (by omega)
  rw [show D + 1 + 1 = D + 2 by omega] at hs3
  refine ⟨okB_more (j := 2) h1 (by omega), hs3, ?_⟩
  rw [← List.drop_drop]
  rcases Nat.le_one_iff_eq_zero_or_eq_one.mp hd with rfl | rfl
  · exact okB_more (j := 2) h2 (by omega)
  · cases hh : T.drop p with
    | nil =>
      show (0 + sumB (T.take p) + sumB s) ≤ D + 2
      omega
    | cons c r =>
      rw [hh] at h2
      obtain ⟨_, h3⟩ := h2
      have := dl_le c
      show okB (D + 2) _ r
      exact okB_more (j := 2) h3 (by omega)
end K1
set_option maxHeartbeats 4000000
/-! what plain_of and is_text make of any text -/
namespace K1
open PySem L2
theorem br_pos (S : List Nat) : 0 < (brM S).2 := by
  unfold brM
  split
  · decide
  · split
    · decide
    · split
      · exact Nat.succ_pos _
      · exact Nat.one_pos
theorem hd_pos {S : List Nat} {h : List PyData} {n : Nat} (e : hdM S = some (h, n)) : 0 < n := by
  unfold hdM at e
  split at e
  · have h1 := br_pos (S.drop 1)
    rw [Option.some.inj e] at h1
    exact h1
  · split at e
    · cases e
      decide
    · split at e
      · cases e
        assumption
      · split at e
        · cases e
          assumption
        · cases e
theorem begin_pos {T : List Nat} {S S' : Sc} (h : beginS T S = .inr S') : S.pos < S'.pos := by
  unfold beginS at h
  cases e : hdM (T.drop S.pos) with
  | none => rw [e] at h; cases h
  | some q =>
    obtain ⟨hh, n⟩ := q
    rw [e] at h
    cases h
    have := hd_pos e
    show S.pos < S.pos + n
    omega
theorem step_pos {T : List Nat} {S S' : Sc} (h : stepS T S = .inr S') : S.pos < S'.pos := by
  unfold stepS at h
  split at h
  · cases h
    exact Nat.lt_succ_self _
  · split at h
    · exact begin_pos h
    · split at h
      · have := begin_pos h
        exact Nat.lt_of_succ_lt this
      · cases h
theorem runs_exist {T : List Nat} : ∀ (m : Nat) (S : Sc), T.length - S.pos ≤ m → ∃ n r, Runs T n S r := by
  intro m
  induction m with
  | zero => intro S h; exact ⟨0, _, .fin (by omega)⟩
  | succ m ih =>
    intro S h
    by_cases q : T.length ≤ S.pos
    · exact ⟨0, _, .fin q⟩
    · cases e : stepS T S with
      | inl x => exact ⟨0, _, .bad (by omega) e⟩
      | inr S' =>
        have := step_pos e
        obtain ⟨n, r, hr⟩ := ih S' (by omega)
        exact ⟨n + 1, r, .go (by omega) e hr⟩
theorem scan_exist (T : List Nat) : ∃ r, ScanR T r := by
  by_cases h : T = []
  · exact ⟨_, .inl ⟨h, rfl⟩⟩
  · cases e : beginS T sc0 with
    | inl x => exact ⟨_, .inr ⟨h, .inl ⟨x, e, rfl⟩⟩⟩
    | inr S1 =>
      obtain ⟨n, r, hr⟩ := runs_exist _ S1 (Nat.le_refl _)
      exact ⟨r, .inr ⟨h, .inr ⟨S1, n, e, hr⟩⟩⟩
theorem GI.hi {x : It} (g : GI x) : HI x := by
  induction g with
  | leaf k => exact .leaf k.hold
  | node k _ ih => exact .node k.hold.1 ih
theorem seg_len (b : Bool) (l : List It) : (gapped l).length ≤ (seg b l).length + 1 := by
  unfold seg
  split
  · rw [List.length_drop]
    omega
  · omega
theorem LfG.pos {h : List PyData} {w : List Nat} (k : LfG h w) : 1 ≤ w.length := by
  cases k with
  | num m hm => unfold numC; split <;> simp
  | lost => decide
  | use w hw => exact hw.pos
theorem hds_few {l : List It} (h : ∀ x ∈ l, x.hds.length ≤ x.word.length) : (hdsL l).length ≤ (gapped l).length := by
  induction l with
  | nil => rw [hdsL, gapped]; exact Nat.le_refl _
  | cons x r ih =>
    rw [hdsL, gapped, List.length_append, List.length_cons, List.length_append]
    have h1 := h x List.mem_cons_self
    have h2 := ih fun y hy => h y (List.mem_cons_of_mem _ hy)
    omega
theorem GI.few {x : It} (g : GI x) : x.hds.length ≤ x.word.length := by
  induction g with
  | @leaf h w k =>
    rw [It.hds, It.word]
    exact k.pos
  | @node h o b l k hl ih =>
    rw [It.hds, node_word, List.length_cons, List.length_append, List.length_append, List.length_singleton]
    have h1 := hds_few ih
    have h2 := seg_len b l
    obtain ⟨t, e, _⟩ := k.open_
    rw [e, List.length_cons]
    omega
theorem phL_len {n : Nat} {l : List It} (h : ∀ x ∈ l, ∀ p, p ≠ [] → ∀ r ∈ x.ph p, r.1 ≠ [] ∧ r.1.length ≤ p.length + n) : ∀ (p : List Int) (k : Nat), ∀ r ∈ phL p k l, r.1 ≠ [] ∧ r.1.length ≤ p.length + 1 + n := by
  induction l with
  | nil => intro p k r hr; rw [phL] at hr; cases hr
  | cons x t ih =>
    intro p k r hr
    rw [phL] at hr
    rcases List.mem_append.mp hr with hr | hr
    · have := h x List.mem_cons_self (p ++ [(k : Int)]) (by simp) r hr
      rw [List.length_append] at this
      exact this
    · exact ih (fun y hy => h y (List.mem_cons_of_mem _ hy)) p (k + 1) r hr
theorem Dg.paths {n : Nat} {x : It} (d : Dg n x) : ∀ p, p ≠ [] → ∀ r ∈ x.ph p, r.1 ≠ [] ∧ r.1.length ≤ p.length + n := by
  induction d with
  | @leaf n h w k =>
    intro p hp r hr
    rw [It.ph] at hr
    rw [List.mem_singleton.mp hr]
    exact ⟨hp, Nat.le_add_right _ _⟩
  | @node n h o b l k hc ih =>
    intro p hp r hr
    rw [It.ph] at hr
    rcases List.mem_cons.mp hr with rfl | hr
    · exact ⟨hp, Nat.le_add_right _ _⟩
    · have := phL_len ih p 0 r hr
      exact ⟨this.1, by have := this.2; omega⟩
def HdG (h : List PyData) : Prop := ∃ x t, h = .str x :: t ∧ holdH h = holdsD (.str x) ∧ t.length ≤ 10
theorem LfG.hd {h : List PyData} {w : List Nat} (k : LfG h w) : HdG h := by
  have e := k.hold
  cases k with
  | num m hm => exact ⟨_, _, rfl, by rw [e]; decide +kernel, by simp⟩
  | lost => exact ⟨_, _, rfl, by rw [e]; decide +kernel, by decide⟩
  | use w hw => exact ⟨_, _, rfl, by rw [e]; decide +kernel, by simp⟩
theorem NdG.hd {h : List PyData} {o : List Nat} {b : Bool} (k : NdG h o b) : HdG h := by
  have e := k.hold.1
  cases k with
  | block => exact ⟨_, _, rfl, by rw [e]; decide +kernel, by decide⟩
  | sum => exact ⟨_, _, rfl, by rw [e]; decide +kernel, by decide⟩
  | product => exact ⟨_, _, rfl, by rw [e]; decide +kernel, by decide⟩
  | let_ w hw => exact ⟨_, _, rfl, by rw [e]; decide +kernel, by simp⟩
theorem hdsL_all {Q : List PyData → Prop} {l : List It} (h : ∀ x ∈ l, ∀ y ∈ x.hds, Q y) : ∀ y ∈ hdsL l, Q y := by
  induction l with
  | nil => intro y hy; rw [hdsL] at hy; cases hy
  | cons x t ih =>
    intro y hy
    rw [hdsL] at hy
    rcases List.mem_append.mp hy with hy | hy
    · exact h x List.mem_cons_self y hy
    · exact ih (fun z hz => h z (List.mem_cons_of_mem _ hz)) y hy
theorem GI.hds {x : It} (g : GI x) : ∀ y ∈ x.hds, HdG y := by
  induction g with
  | @leaf h w k =>
    intro y hy
    rw [It.hds] at hy
    rw [List.mem_singleton.mp hy]
    exact k.hd
  | @node h o b l k hl ih =>
    intro y hy
    rw [It.hds] at hy
    rcases List.mem_cons.mp hy with rfl | hy
    · exact k.hd
    · exact hdsL_all ih y hy
/-- a tree that is read: what plain_of makes of it -/
theorem zs_plain {its : List It} {S' : Sc} (z : Zs [] its S') (g : ∀ x ∈ its, GI x) (hT : (textM its).length ≤ 1400) (d : ∀ x ∈ its, Dg 20 x) : PlainOk S' ∧ nestD S'.paths S'.heads = .tuple (datL its) := by
  cases z with
  | top v =>
    obtain ⟨rs, h1, h2⟩ := v
    have ep : S'.paths = (phL [] 0 its).map (·.1) := by
      rw [h2]
      exact h1
    have eh : S'.heads = (phL [] 0 its).map (·.2) := by
      rw [h2, phL_heads]
      rfl
    have eh2 : S'.heads = hdsL its := by rw [eh, phL_heads]
    have few := hds_few fun x hx => (g x hx).few
    have tl : (gapped its).length ≤ (textM its).length + 1 := seg_len true its
    refine ⟨⟨by rw [ep, eh, List.length_map, List.length_map], by rw [eh2]; omega, fun p hp => ?_, fun h hh => ?_⟩, ?_⟩
    · rw [ep] at hp
      obtain ⟨r, hr, rfl⟩ := List.mem_map.mp hp
      have := phL_len (n := 20) (fun x hx => (d x hx).paths) [] 0 r hr
      exact ⟨this.1, by have := this.2; simp at this; omega⟩
    · rw [eh2] at hh
      exact hdsL_all (fun x hx => (g x hx).hds) h hh
    · unfold nestD
      have ez : S'.paths.zip S'.heads = phL [] 0 its := by
        rw [ep, eh]
        generalize phL [] 0 its = rows
        induction rows with
        | nil => rfl
        | cons r rs ih => rw [List.map_cons, List.map_cons, List.zip_cons_cons, ih]
      rw [ez, nest_all fun x hx => (g x hx).hi]
theorem tree_plain {T : List Nat} {S' : Sc} (t : TreeOf T S') (hT : T.length ≤ 1400) (hb : okB ((20 : Nat) : Int) 0 T) : ∃ its, textM its = T ∧ (∀ x ∈ its, GI x) ∧ (∀ x ∈ its, Dg 20 x) ∧ PlainOk S' ∧ nestD S'.paths S'.heads = .tuple (datL its) := by
  obtain ⟨its, z, tx, g⟩ := t
  have d : ∀ x ∈ its, Dg 20 x := (text_dg (D := 20) g).mp (by rw [tx]; exact hb)
  exact ⟨its, tx, g, d, zs_plain z g (by rw [tx]; exact hT) d⟩
end K1
set_option maxHeartbeats 4000000
/-! str of deeper tuples; how heavy items are -/
namespace K1
open PySem L2
structure ShowsT (K : PySem.W.Frag) (H : Hp) (v : V) (d : PyData) : Prop where
  dq : DQ K H v d
  nl : d.hasDict = true → noList d = true
  sh : d.showable = true
  dp : d.depth ≤ 60
  sz : d.shown.length ≤ sizeLine
def rStrT2 (K : PySem.W.Frag) : List V → Hp → VK → Prop := fun xs H Q => ∃ (v : V) (ds : List PyData), xs = [v] ∧ ShowsT K H v (.tuple ds) ∧ Q (.str (PyData.shown (.tuple ds))) H
theorem call_strT2 {X : Cx} (hg : X.A.guards = some []) (hu : X.A.units + 64 < cLine) : CallR X (.type "str") (rStrT2 X.K) := by
  intro pins s σ H xs us Q I r h
  obtain ⟨v, ds, rfl, S, q⟩ := h
  obtain ⟨u, rfl, ru⟩ := vals1 r
  obtain ⟨as, hr, hsm⟩ := DQ.reads I _ v u S.dq ru
  have hsm' : PyData.hasDict (.tuple ds) = true → sysModules ∉ as := fun z => hsm (S.nl z)
  have hdp := S.dp
  cases hr with
  | tuple a1 a2 a3 a4 => exact str_of_reads (PySem.Reads.tuple a1 a2 a3 a4) S.sh hsm' hg (by omega) (fun _ _ e => e) (fun h' u tk hk => ⟨.str _, H, I.kept hk, ⟨_, rfl⟩, q⟩) S.sz
def rStrAny2 (K : PySem.W.Frag) : List V → Hp → VK → Prop := fun xs H Q => (∃ i, xs = [.int i] ∧ i.natAbs.log2 < 1920 ∧ Q (.str (toString i)) H) ∨ (∃ a, xs = [.str a] ∧ Q (.str a) H) ∨ rStrT2 K xs H Q
theorem call_strAny2 {X : Cx} (hg : X.A.guards = some []) (hu : X.A.units + 64 < cLine) : CallR X (.type "str") (rStrAny2 X.K) := by
  intro pins s σ H xs us Q I r h
  rcases h with h | h | h
  · exact call_str_int pins s σ H xs us Q I r h
  · exact call_strS pins s σ H xs us Q I r h
  · exact call_strT2 hg hu pins s σ H xs us Q I r h
theorem NdG.kind {h : List PyData} {o : List Nat} {b : Bool} (k : NdG h o b) : ∃ kn r, h = .str kn :: r ∧ decide (kn = ("number" : Str)) = false ∧ decide (kn = ("lost" : Str)) = false ∧ decide (kn = ("use" : Str)) = false ∧ h.length ≤ 2 := by
  cases k with
  | block => exact ⟨_, _, rfl, by decide +kernel, by decide +kernel, by decide +kernel, by decide⟩
  | sum => exact ⟨_, _, rfl, by decide +kernel, by decide +kernel, by decide +kernel, by decide⟩
  | product => exact ⟨_, _, rfl, by decide +kernel, by decide +kernel, by decide +kernel, by decide⟩
  | let_ w hw => exact ⟨_, _, rfl, by decide +kernel, by decide +kernel, by decide +kernel, Nat.le_refl _⟩
theorem name_nice {w : List Nat} (h : NameW w) : Nice 0 14 (.str (sO w)) := by
  refine (nice_str (n := 6) (by rw [sO_len]; exact h.len) (str_small fun c hc => (h.sm c hc).2)).mono (Nat.le_refl _) (by decide)
theorem LfG.nice {h : List PyData} {w : List Nat} (k : LfG h w) : (∀ d ∈ h, Nice 0 14 d) ∧ h.length ≤ 2 := by
  cases k with
  | num m hm =>
    refine ⟨fun d hd => ?_, by simp⟩
    simp only [List.mem_cons, List.not_mem_nil, or_false] at hd
    rcases hd with rfl | rfl
    · exact nice_lit (by decide +kernel) (by decide +kernel)
    · exact nice_int (by omega)
  | lost =>
    refine ⟨fun d hd => ?_, by simp⟩
    rw [List.mem_singleton.mp hd]
    exact nice_lit (by decide +kernel) (by decide +kernel)
  | use w hw =>
    refine ⟨fun d hd => ?_, by simp⟩
    simp only [List.mem_cons, List.not_mem_nil, or_false] at hd
    rcases hd with rfl | rfl
    · exact nice_lit (by decide +kernel) (by decide +kernel)
    · exact name_nice hw
theorem NdG.nice {h : List PyData} {o : List Nat} {b : Bool} (k : NdG h o b) : (∀ d ∈ h, Nice 0 14 d) ∧ h.length ≤ 2 := by
  cases k with
  | block => exact ⟨fun d hd => by rw [List.mem_singleton.mp hd]; exact nice_lit (by decide +kernel) (by decide +kernel), by simp⟩
  | sum => exact ⟨fun d hd => by rw [List.mem_singleton.mp hd]; exact nice_lit (by decide +kernel) (by decide +kernel), by simp⟩
  | product => exact ⟨fun d hd => by rw [List.mem_singleton.mp hd]; exact nice_lit (by decide +kernel) (by decide +kernel), by simp⟩
  | let_ w hw =>
    refine ⟨fun d hd => ?_, by simp⟩
    simp only [List.mem_cons, List.not_mem_nil, or_false] at hd
    rcases hd with rfl | rfl
    · exact nice_lit (by decide +kernel) (by decide +kernel)
    · exact name_nice hw
theorem weight_app : ∀ (a b : List PyData), PyData.weightAll (a ++ b) = PyData.weightAll a + PyData.weightAll b
  | [], b => by simp [PyData.weightAll]
  | d :: a, b => by
    show d.weight + 1 + PyData.weightAll (a ++ b) = d.weight + 1 + PyData.weightAll a + PyData.weightAll b
    rw [weight_app a b]
    omega
theorem datL_weight {l : List It} (h : ∀ x ∈ l, x.dat.weight ≤ 32 * x.word.length) : PyData.weightAll (datL l) ≤ 32 * (gapped l).length := by
  induction l with
  | nil => rw [datL, gapped]; simp [PyData.weightAll]
  | cons x r ih =>
    rw [datL, gapped, List.length_cons, List.length_append]
    have h1 := h x List.mem_cons_self
    have h2 := ih fun y hy => h y (List.mem_cons_of_mem _ hy)
    show x.dat.weight + 1 + PyData.weightAll (datL r) ≤ _
    omega
theorem node_len {h : List PyData} {o : List Nat} {b : Bool} {l : List It} (k : NdG h o b) : (gapped l).length + 1 ≤ (It.node h o b l).word.length := by
  rw [node_word, List.length_append, List.length_append, List.length_singleton]
  have h2 := seg_len b l
  obtain ⟨t, e, _⟩ := k.open_
  rw [e, List.length_cons]
  omega
theorem GI.weight {x : It} (g : GI x) : x.dat.weight ≤ 32 * x.word.length := by
  induction g with
  | @leaf h w k =>
    rw [It.dat, It.word]
    obtain ⟨n1, n2⟩ := k.nice
    have := (Nice.tuple' n1 n2).wt
    have := k.pos
    omega
  | @node h o b l k hl ih =>
    rw [It.dat]
    obtain ⟨n1, n2⟩ := k.nice
    have h1 := (Nice.tuple' n1 n2).wt
    have h2 := datL_weight ih
    have h3 := node_len (l := l) k
    show PyData.weightAll (h ++ [.tuple (datL l)]) ≤ _
    rw [weight_app]
    have e1 : PyData.weightAll [PyData.tuple (datL l)] = PyData.weightAll (datL l) + 1 := by simp [PyData.weightAll, PyData.weight]
    have e2 : PyData.weightAll h ≤ 2 * (14 + 1) := h1
    rw [e1]
    omega
/-- .. how they show -/
structure Sh3 (k : Nat) (d : PyData) : Prop where
  sh : d.showable = true
  dp : d.depth ≤ k
  lv : d.leavesShort 13 = true
  pu : Pure d
theorem sh3_all {k : Nat} : ∀ {ds : List PyData}, (∀ d ∈ ds, Sh3 k d) → PyData.showableAll ds = true ∧ PyData.depthAll ds ≤ k ∧ PyData.leavesShortAll 13 ds = true
  | [], _ => ⟨rfl, Nat.zero_le _, rfl⟩
  | d :: ds, h => by
    obtain ⟨h1, h2, h3⟩ := sh3_all fun e he => h e (List.mem_cons_of_mem _ he)
    have g := h d List.mem_cons_self
    refine ⟨?_, ?_, ?_⟩
    · show (d.showable && PyData.showableAll ds) = true
      rw [g.sh, h1]
      rfl
    · show max d.depth (PyData.depthAll ds) ≤ k
      exact Nat.max_le.mpr ⟨g.dp, h2⟩
    · show (d.leavesShort 13 && PyData.leavesShortAll 13 ds) = true
      rw [g.lv, h3]
      rfl
theorem sh3_tup {k : Nat} {ds : List PyData} (h : ∀ d ∈ ds, Sh3 k d) : Sh3 (k + 1) (.tuple ds) := by
  obtain ⟨h1, h2, h3⟩ := sh3_all h
  exact ⟨h1, Nat.succ_le_succ h2, h3, Pure.tuple fun d hd => (h d hd).pu⟩
theorem leaf_flat {h : List PyData} {w : List Nat} (k : LfG h w) : ∀ d ∈ h, Pure d := by
  cases k with
  | num m hm => intro d hd; simp only [List.mem_cons, List.not_mem_nil, or_false] at hd; rcases hd with rfl | rfl <;> exact ⟨rfl, rfl⟩
  | lost => intro d hd; rw [List.mem_singleton.mp hd]; exact ⟨rfl, rfl⟩
  | use w hw => intro d hd; simp only [List.mem_cons, List.not_mem_nil, or_false] at hd; rcases hd with rfl | rfl <;> exact ⟨rfl, rfl⟩
theorem nd_flat {h : List PyData} {o : List Nat} {b : Bool} (k : NdG h o b) : ∀ d ∈ h, Pure d := by
  cases k with
  | let_ w hw => intro d hd; simp only [List.mem_cons, List.not_mem_nil, or_false] at hd; rcases hd with rfl | rfl <;> exact ⟨rfl, rfl⟩
  | _ => intro d hd; rw [List.mem_singleton.mp hd]; exact ⟨rfl, rfl⟩
theorem Dg.sh3 {n : Nat} {x : It} (d : Dg n x) : Sh3 (2 * n + 1) x.dat := by
  induction d with
  | @leaf n h w k =>
    rw [It.dat]
    have : Sh3 (0 + 1) (.tuple h) := sh3_tup fun d hd => ⟨(k.nice.1 d hd).sh, (k.nice.1 d hd).dp, (k.nice.1 d hd).lv, leaf_flat k d hd⟩
    exact ⟨this.sh, by have := this.dp; omega, this.lv, this.pu⟩
  | @node n h o b l k hc ih =>
    rw [It.dat]
    have ht : Sh3 (2 * n + 1 + 1) (.tuple (datL l)) := sh3_tup fun d hd => by
      rw [datL_map] at hd
      obtain ⟨y, hy, rfl⟩ := List.mem_map.mp hd
      exact ih y hy
    have : Sh3 (2 * n + 1 + 1 + 1) (.tuple (h ++ [.tuple (datL l)])) := sh3_tup fun d hd => by
      rcases List.mem_append.mp hd with hd | hd
      · exact ⟨(k.nice.1 d hd).sh, by have := (k.nice.1 d hd).dp; omega, (k.nice.1 d hd).lv, nd_flat k d hd⟩
      · rw [List.mem_singleton.mp hd]
        exact ht
    exact ⟨this.sh, by have := this.dp; omega, this.lv, this.pu⟩
/-- the items of a holder, as they show -/
theorem items_show {n : Nat} {l : List It} (hn : n ≤ 25) (h : ∀ x ∈ l, Dg n x) (hl : (gapped l).length ≤ 1300) : Sh3 (2 * n + 2) (.tuple (datL l)) ∧ (PyData.shown (.tuple (datL l))).length ≤ 3000000 := by
  have ht : Sh3 (2 * n + 1 + 1) (.tuple (datL l)) := sh3_tup fun d hd => by
    rw [datL_map] at hd
    obtain ⟨y, hy, rfl⟩ := List.mem_map.mp hd
    exact (h y hy).sh3
  refine ⟨ht, ?_⟩
  have z := PyData.shown_le 13 (by decide) _ ht.lv
  have w := datL_weight fun x hx => (h x hx).gi.weight
  have w2 : (PyData.tuple (datL l)).weight ≤ 32 * (gapped l).length := w
  omega
end K1
set_option maxHeartbeats 4000000
/-! _law_word, _law_text, of any tree -/
namespace K1
open PySem L2
def spWordG (K : PySem.W.Frag) (n : Nat) : Sp := fun vs H Q _ => ∃ v x, vs = [v] ∧ Dg n x ∧ x.word.length ≤ 1200 ∧ DQ K H v x.dat ∧ ∀ H', Same H H' → Q (.str (sO x.word)) H'
theorem gapped_one {l : List It} {x : It} (h : x ∈ l) : x.word.length ≤ (gapped l).length := by
  induction l with
  | nil => cases h
  | cons y r ih =>
    rw [gapped, List.length_cons, List.length_append]
    rcases List.mem_cons.mp h with rfl | h
    · omega
    · have := ih h
      omega
theorem word_pos {x : It} (g : GI x) : 1 ≤ x.word.length := by
  cases g with
  | leaf k => rw [It.word]; exact k.pos
  | @node h o b l k hl =>
    have := node_len (l := l) k
    exact Nat.le_trans (Nat.le_add_left _ _) this
theorem gapped_two {l : List It} (h : ∀ x ∈ l, GI x) : 2 * l.length ≤ (gapped l).length := by
  induction l with
  | nil => exact Nat.zero_le _
  | cons y r ih =>
    rw [gapped, List.length_cons, List.length_cons, List.length_append]
    have h1 := ih fun z hz => h z (List.mem_cons_of_mem _ hz)
    have h2 := word_pos (h y List.mem_cons_self)
    omega
section
variable {P : Program} {w : World} {K : PySem.W.Frag} {mg : Str → Option Value} {base : Heap}
theorem cl_wordG (T : All K mg) : ∀ n : Nat, n ≤ 20 → ClG P w K mg base (n + 1) "_law_word" ["_law_item_here"] (spWordG K n) := by
  obtain ⟨g, fd, D⟩ := T.dn 30 _ _ rfl
  intro n
  induction n with
  | zero =>
    intro _
    refine ⟨g, fd, okG D.fn sc_word (fun vs H Q E h => ?_) (fun cdv A outer s H vs Q E hgd hr h => ?_), D.mg, D.fn.kp, D.bn⟩
    · obtain ⟨v, x, rfl, _⟩ := h
      rfl
    · obtain ⟨v, x, rfl, hx, hxl, hd, k⟩ := h
      refine ⟨_, (pss_cons (ps_if (pt_imp (t' := tKind K "number") (pt_cmpR op_eq (pe_ix ix_tup (pv 0) pe_int (fun _ _ => rfl)) pe_str (nomark _)) (fun σ H Q hh => kind_ask hh)) (pss_one (ps_ret (pe_callTy (call_strAny2 hgd hr.units) (by rfl) T.bi.str (by decide +kernel) (pa_cons (pe_ix ix_tup (pv 0) pe_int (fun _ _ => rfl)) pa_nil)))) pss_nil)
      (pss_cons (ps_if (pt_imp (t' := tKind K "lost") (pt_cmpR op_eq (pe_ix ix_tup (pv 0) pe_int (fun _ _ => rfl)) pe_str (nomark _)) (fun σ H Q hh => kind_ask hh)) (pss_one (ps_ret pe_str)) pss_nil)
      (pss_cons (ps_if (pt_imp (t' := tKind K "use") (pt_cmpR op_eq (pe_ix ix_tup (pv 0) pe_int (fun _ _ => rfl)) pe_str (nomark _)) (fun σ H Q hh => kind_ask hh)) (pss_one (ps_ret (pe_ix ix_tup (pv 0) pe_int (fun _ _ => rfl)))) pss_nil)
      (pss_cons ps_never
      (pss_cons ps_never
      (pss_cons ps_never
      (pss_one ps_never))))))), ?_⟩
      cases hx with
      | leaf hk =>
        rw [It.dat] at hd
        rw [It.word] at k
        cases hk with
        | num m hm =>
          refine ⟨v, _, _, rfl, hd, ?_⟩
          rw [decide_eq_true rfl]
          obtain ⟨a1, xs1, u1, rfl, hT1, hi1, hu1⟩ := hd.item (i := 1) rfl
          cases hu1
          refine iteT ⟨_, rfl, a1, xs1, _, _, rfl, rfl, hT1, hi1, .inl ⟨_, rfl, ?_, ?_⟩⟩
          · exact Nat.lt_of_le_of_lt (Nat.log2_le_self _) (by omega)
          · have e := num_text ⟨m, hm⟩
            have e' : Str.ofString (toString (m : Int)) = sO (numC m) := e
            show Q (.str (Str.ofString (toString (m : Int)))) H
            rw [e']
            exact k H (Same.refl H)
        | lost =>
          refine ⟨v, _, _, rfl, hd, ?_⟩
          rw [show decide (("lost" : Str) = "number") = false from by decide +kernel]
          refine iteF ⟨v, _, _, rfl, hd, ?_⟩
          rw [decide_eq_true rfl]
          refine iteT ?_
          have e : ("?" : Str) = sO [63] := by decide +kernel
          show Q (.str "?") H
          rw [e]
          exact k H (Same.refl H)
        | use w hw =>
          refine ⟨v, _, _, rfl, hd, ?_⟩
          rw [show decide (("use" : Str) = "number") = false from by decide +kernel]
          refine iteF ⟨v, _, _, rfl, hd, ?_⟩
          rw [show decide (("use" : Str) = "lost") = false from by decide +kernel]
          refine iteF ⟨v, _, _, rfl, hd, ?_⟩
          rw [decide_eq_true rfl]
          obtain ⟨a1, xs1, u1, rfl, hT1, hi1, hu1⟩ := hd.item (i := 1) rfl
          cases hu1
          exact iteT ⟨_, rfl, a1, xs1, _, _, rfl, rfl, hT1, hi1, k H (Same.refl H)⟩
  | succ n ih =>
    intro hn3
    have IH := ih (by omega)
    refine ⟨g, fd, okG D.fn sc_word (fun vs H Q E h => ?_) (fun cdv A outer s H vs Q E hgd hr h => ?_), D.mg, D.fn.kp, D.bn⟩
    · obtain ⟨v, x, rfl, _⟩ := h
      rfl
    · obtain ⟨v, x, rfl, hx, hxl, hd, k⟩ := h
      have hrn : Room (n + 1) _ := hr
      refine ⟨_, (pss_cons (ps_if (pt_imp (t' := tKind K "number") (pt_cmpR op_eq (pe_ix ix_tup (pv 0) pe_int (fun _ _ => rfl)) pe_str (nomark _)) (fun σ H Q hh => kind_ask hh)) (pss_one (ps_ret (pe_callTy (call_strAny2 hgd hr.units) (by rfl) T.bi.str (by decide +kernel) (pa_cons (pe_ix ix_tup (pv 0) pe_int (fun _ _ => rfl)) pa_nil)))) pss_nil)
      (pss_cons (ps_if (pt_imp (t' := tKind K "lost") (pt_cmpR op_eq (pe_ix ix_tup (pv 0) pe_int (fun _ _ => rfl)) pe_str (nomark _)) (fun σ H Q hh => kind_ask hh)) (pss_one (ps_ret pe_str)) pss_nil)
      (pss_cons (ps_if (pt_imp (t' := tKind K "use") (pt_cmpR op_eq (pe_ix ix_tup (pv 0) pe_int (fun _ _ => rfl)) pe_str (nomark _)) (fun σ H Q hh => kind_ask hh)) (pss_one (ps_ret (pe_ix ix_tup (pv 0) pe_int (fun _ _ => rfl)))) pss_nil)
      (pss_cons (ps_setLc (i := 1) (own := [("_law_one_here", 3)]) (g := gName 3) (tt := tYes) (te := (tCall (spWordG K n) [] E0 (tCons (tVar 3) tNil))) rfl sc_word.nd rfl rfl (sw_true rfl rfl rfl (by decide +kernel)) (pi_tup (pe_ix ix_tup (pv 0) (pe_un un_neg pe_int) (fun _ _ => rfl))) (blkOk_by (own := [("_law_one_here", 3)]) (N := NW) (sc := defScope (top 30)) (by decide +kernel)) (fun _ _ _ _ _ => (pg_name (i := 3) sc_word.nd rfl (Or.inl rfl))) (fun _ _ _ _ _ => pts_nil) (fun _ _ _ _ _ => (pe_clG IH hgd hrn (Nat.le_refl _) (pa_cons (pv 3) pa_nil))))
      (pss_cons (ps_if (pt_imp (t' := tKind K "block") (pt_cmpR op_eq (pe_ix ix_tup (pv 0) pe_int (fun _ _ => rfl)) pe_str (nomark _)) (fun σ H Q hh => kind_ask hh)) (pss_one (ps_ret (pe_op op_add_str (pe_op op_add_str pe_str (pe_join pe_str (pv 1))) pe_str))) pss_nil)
      (pss_cons (ps_set (i := 2) sc_word.nd rfl (Or.inl rfl) (pe_dget2 (hu_of hr) (pe_disp (pps_cons pe_str pe_str (pps_cons pe_str pe_str pps_nil)) (by rfl) (by rfl) (fun z => by cases z) (by decide)) (pe_ix ix_tup (pv 0) pe_int (fun _ _ => rfl)) (pe_op op_add_str (pe_op op_add_str pe_str (pe_callTy (call_strAny2 hgd hr.units) (by rfl) T.bi.str (by decide +kernel) (pa_cons (pe_ix ix_tup (pv 0) pe_int (fun _ _ => rfl)) pa_nil))) pe_str) ⟨by rfl, by rfl, by rfl, by rfl⟩))
      (pss_one (ps_ret (pe_op op_add_str (pe_join pe_str (pe_op op_cat (pe_lst (pa_cons (pv 2) pa_nil)) (pv 1))) pe_str))))))))), ?_⟩
      cases hx with
      | leaf hk =>
        rw [It.dat] at hd
        rw [It.word] at k
        cases hk with
        | num m hm =>
          refine ⟨v, _, _, rfl, hd, ?_⟩
          rw [decide_eq_true rfl]
          obtain ⟨a1, xs1, u1, rfl, hT1, hi1, hu1⟩ := hd.item (i := 1) rfl
          cases hu1
          refine iteT ⟨_, rfl, a1, xs1, _, _, rfl, rfl, hT1, hi1, .inl ⟨_, rfl, ?_, ?_⟩⟩
          · exact Nat.lt_of_le_of_lt (Nat.log2_le_self _) (by omega)
          · have e := num_text ⟨m, hm⟩
            have e' : Str.ofString (toString (m : Int)) = sO (numC m) := e
            show Q (.str (Str.ofString (toString (m : Int)))) H
            rw [e']
            exact k H (Same.refl H)
        | lost =>
          refine ⟨v, _, _, rfl, hd, ?_⟩
          rw [show decide (("lost" : Str) = "number") = false from by decide +kernel]
          refine iteF ⟨v, _, _, rfl, hd, ?_⟩
          rw [decide_eq_true rfl]
          refine iteT ?_
          have e : ("?" : Str) = sO [63] := by decide +kernel
          show Q (.str "?") H
          rw [e]
          exact k H (Same.refl H)
        | use w hw =>
          refine ⟨v, _, _, rfl, hd, ?_⟩
          rw [show decide (("use" : Str) = "number") = false from by decide +kernel]
          refine iteF ⟨v, _, _, rfl, hd, ?_⟩
          rw [show decide (("use" : Str) = "lost") = false from by decide +kernel]
          refine iteF ⟨v, _, _, rfl, hd, ?_⟩
          rw [decide_eq_true rfl]
          obtain ⟨a1, xs1, u1, rfl, hT1, hi1, hu1⟩ := hd.item (i := 1) rfl
          cases hu1
          exact iteT ⟨_, rfl, a1, xs1, _, _, rfl, rfl, hT1, hi1, k H (Same.refl H)⟩
      | @node _ h o b l hk hc =>
        rw [It.dat] at hd
        have hnl := node_len (l := l) hk
        rw [node_word] at k
        obtain ⟨kn, kr, eh, f1, f2, f3, hl2⟩ := hk.kind
        have hdl := hd
        rw [eh] at hd
        refine ⟨v, _, _, rfl, hd, ?_⟩
        rw [f1]
        refine iteF ⟨v, _, _, rfl, hd, ?_⟩
        rw [f2]
        refine iteF ⟨v, _, _, rfl, hd, ?_⟩
        rw [f3]
        have hgap : (gapped l).length ≤ 1199 := by omega
        have hBl : ∀ x ∈ l, x.word.length ≤ 1200 := fun x hx => Nat.le_trans (gapped_one hx) (by omega)
        have hll : l.length ≤ 600 := by
          have := gapped_two fun x hx => (hc x hx).gi
          omega
        obtain ⟨hs3, hshl0⟩ := items_show (n := n) (by omega) hc (by omega)
        obtain ⟨a, xs, u, rfl, hT, hi, hu⟩ := hdl.last (by omega)
        obtain ⟨ti, xs2, rfl, hT2, hD2⟩ : ∃ ti xs2, u = .ref ti ∧ SqT K H ti xs2 ∧ DQs K H xs2 (datL l) := by
          cases hu with
          | tup h1 h2 => exact ⟨_, _, rfl, h1, h2⟩
        have lx2 : xs2.length = l.length := by rw [hD2.len, datL_map, List.length_map]
        refine iteF ⟨_, rfl, _, rfl, a, xs, _, _, rfl, rfl, hT, hi, ti, rfl, ⟨_, hT2⟩, fun L nL => ?_⟩
        refine lc_funT2 (K := K) (a := ti) (xs := xs2) (j := 3) (fun i => V.str (sO ((l.getD i (.leaf [] [])).word))) nL hT2 (by omega) (fun _ => rfl) ?_ ?_
        · intro i y H' Q' hy s' q'
          have hlt := (List.getElem?_eq_some_iff.mp hy).1
          have el : l[i]? = some l[i] := List.getElem?_eq_getElem (by omega)
          obtain ⟨y', ey, dy⟩ := hD2.get (i := i) (d := l[i].dat) (by rw [datL_map, List.getElem?_map, el]; rfl)
          rw [hy] at ey
          cases ey
          refine ⟨_, rfl, y, l[i], rfl, hc _ (List.getElem_mem _), hBl _ (List.getElem_mem _), dy.to s', fun H'' s'' => ?_⟩
          have := q' H'' s''
          rw [List.getD_eq_getElem?_getD, el] at this
          exact this
        · intro H1 s1 hL
          rw [lx2, range_words] at hL
          have hd1 := hd.to s1
          have hdl1 := hdl.to s1
          refine ⟨_, _, _, rfl, hd1, ?_⟩
          have hsum := sum_words hBl
          have hlw : (l.map fun x => sO x.word).length = l.length := List.length_map _
          have sum3 : l.length * 1200 ≤ 600 * 1200 := Nat.mul_le_mul_right _ hll
          cases hk with
          | block =>
            cases eh
            rw [decide_eq_true rfl]
            refine iteT ⟨⟨_, rfl⟩, _, rfl, _, L, l.map (fun x => sO x.word), rfl, rfl, .inl (SqL.of hL), ?_, _, _, rfl, rfl, ?_, _, _, rfl, rfl, ?_, ?_⟩
            · rw [hlw, blank, sO_len]
              show _ + l.length * 1 ≤ _
              omega
            · rw [blank, join_words, lit_open, sO_len, sO_len, sizeLine_eq]
              unfold textM
              rw [List.length_drop]
              show 1 + _ ≤ _
              omega
            · rw [blank, join_words, lit_open, sO_app, lit_close, sO_len, sO_len, sizeLine_eq]
              unfold textM
              rw [List.length_append, List.length_drop]
              show 1 + _ + 1 ≤ _
              omega
            · rw [blank, join_words, lit_open, sO_app, lit_close, sO_app]
              exact k H1 s1
          | sum =>
            cases eh
            rw [show decide (("sum" : Str) = "block") = false from by decide +kernel]
            refine iteF (fun pd nd => ⟨upd_same, [((.inr "sum" : Key), V.str "(+"), (.inr "product", .str "(*")], rfl, by decide, pd, rfl, .inl ⟨_, .inl upd_same⟩, ?_⟩)
            have s3 : Same H1 (upd (upd H1 pd (.dK [])) pd (.dK (mergeK [] [((.inr "sum" : Key), V.str "(+"), (.inr "product", .str "(*")]))) := fun b u e => by
              rw [upd_ne (ne_of_none e nd), upd_ne (ne_of_none e nd)]
              exact e
            have gd : (upd (upd H1 pd (.dK [])) pd (.dK (mergeK [] [((.inr "sum" : Key), V.str "(+"), (.inr "product", .str "(*")]))) pd = some (.dK (mergeK [] [((.inr "sum" : Key), V.str "(+"), (.inr "product", .str "(*")])) := upd_same
            generalize upd (upd H1 pd (.dK [])) pd (.dK (mergeK [] [((.inr "sum" : Key), V.str "(+"), (.inr "product", .str "(*")])) = H3 at s3 gd ⊢
            obtain ⟨a3, xs3, u3, ea3, hT3, hi3, hu3⟩ := (hdl1.to s3).item (i := 0) rfl
            cases ea3
            cases hu3
            obtain ⟨a4, xs4, u4, ea4, hT4, hi4, hu4⟩ := (hdl1.to s3).item (i := 1) rfl
            cases ea4
            have hsh : ShowsT K H3 u4 (.tuple (datL l)) := ⟨hu4, fun z => absurd z (by rw [hs3.pu.1]; exact Bool.false_ne_true), hs3.sh, by have := hs3.dp; omega, by rw [sizeLine_eq]; omega⟩
            have hshl := hshl0
            refine ⟨_, rfl, a, xs3, _, _, rfl, rfl, hT3, hi3, _, rfl, a, xs4, _, _, rfl, rfl, hT4, hi4, .inr (.inr ⟨u4, _, rfl, hsh, _, _, rfl, rfl, ?_, _, _, rfl, rfl, ?_, ?_⟩)⟩
            · rw [lit_open, sO_len, sizeLine_eq]
              show 1 + _ ≤ _
              omega
            · have e : ("(" ++ PyData.shown (.tuple (datL l)) : Str).length = 1 + (PyData.shown (.tuple (datL l))).length := by
                show (("(" : Str).cps ++ (PyData.shown (.tuple (datL l))).cps).size = _
                rw [Array.size_append]
                rfl
              rw [e, sizeLine_eq]
              show _ + 2 ≤ _
              omega
            have ev : valV (mergeK [] [((.inr "sum" : Key), V.str "(+"), (.inr "product", .str "(*")]) (.inr ("sum" : Str)) = some (.str "(+") := by decide +kernel
            refine ⟨_, .inl ⟨_, .inr ("sum" : Str), .inl gd, rfl, rfl⟩, ?_⟩
            rw [ev]
            rw [Option.getD_some, lit_sum]
            refine ⟨⟨_, rfl⟩, _, rfl, sizeL (m := 1) (Nat.le_refl _), fun q nq => ⟨_, rfl, q, L, _, _, rfl, rfl, upd_same, (upd_ne (ne_of_none (s3 _ _ hL) nq)).trans (s3 _ _ hL), ?_, fun s' ns => ⟨_, s', sO [40, 43] :: l.map (fun x => sO x.word), rfl, rfl, .inl (SqL.of upd_same), ?_, _, _, rfl, rfl, ?_, ?_⟩⟩⟩
            · rw [List.length_map, hlw, sizeLine_eq]
              show 1 + _ ≤ _
              omega
            · rw [List.map_cons, List.sum_cons, List.length_cons, hlw, blank, sO_len, sO_len]
              show 2 + _ + (l.length + 1) * 1 ≤ _
              omega
            · rw [blank, join_cons, lit_close, sO_len, sO_len, sizeLine_eq, List.length_append]
              show 2 + _ + 1 ≤ _
              omega
            · rw [blank, join_cons, lit_close, sO_app, List.append_assoc]
              exact k _ (((s1.trans s3).trans (K0.same_upd nq)).trans (K0.same_upd ns))
          | product =>
            cases eh
            rw [show decide (("product" : Str) = "block") = false from by decide +kernel]
            refine iteF (fun pd nd => ⟨upd_same, [((.inr "sum" : Key), V.str "(+"), (.inr "product", .str "(*")], rfl, by decide, pd, rfl, .inl ⟨_, .inl upd_same⟩, ?_⟩)
            have s3 : Same H1 (upd (upd H1 pd (.dK [])) pd (.dK (mergeK [] [((.inr "sum" : Key), V.str "(+"), (.inr "product", .str "(*")]))) := fun b u e => by
              rw [upd_ne (ne_of_none e nd), upd_ne (ne_of_none e nd)]
              exact e
            have gd : (upd (upd H1 pd (.dK [])) pd (.dK (mergeK [] [((.inr "sum" : Key), V.str "(+"), (.inr "product", .str "(*")]))) pd = some (.dK (mergeK [] [((.inr "sum" : Key), V.str "(+"), (.inr "product", .str "(*")])) := upd_same
            generalize upd (upd H1 pd (.dK [])) pd (.dK (mergeK [] [((.inr "sum" : Key), V.str "(+"), (.inr "product", .str "(*")])) = H3 at s3 gd ⊢
            obtain ⟨a3, xs3, u3, ea3, hT3, hi3, hu3⟩ := (hdl1.to s3).item (i := 0) rfl
            cases ea3
            cases hu3
            obtain ⟨a4, xs4, u4, ea4, hT4, hi4, hu4⟩ := (hdl1.to s3).item (i := 1) rfl
            cases ea4
            have hsh : ShowsT K H3 u4 (.tuple (datL l)) := ⟨hu4, fun z => absurd z (by rw [hs3.pu.1]; exact Bool.false_ne_true), hs3.sh, by have := hs3.dp; omega, by rw [sizeLine_eq]; omega⟩
            have hshl := hshl0
            refine ⟨_, rfl, a, xs3, _, _, rfl, rfl, hT3, hi3, _, rfl, a, xs4, _, _, rfl, rfl, hT4, hi4, .inr (.inr ⟨u4, _, rfl, hsh, _, _, rfl, rfl, ?_, _, _, rfl, rfl, ?_, ?_⟩)⟩
            · rw [lit_open, sO_len, sizeLine_eq]
              show 1 + _ ≤ _
              omega
            · have e : ("(" ++ PyData.shown (.tuple (datL l)) : Str).length = 1 + (PyData.shown (.tuple (datL l))).length := by
                show (("(" : Str).cps ++ (PyData.shown (.tuple (datL l))).cps).size = _
                rw [Array.size_append]
                rfl
              rw [e, sizeLine_eq]
              show _ + 2 ≤ _
              omega
            have ev : valV (mergeK [] [((.inr "sum" : Key), V.str "(+"), (.inr "product", .str "(*")]) (.inr ("product" : Str)) = some (.str "(*") := by decide +kernel
            refine ⟨_, .inl ⟨_, .inr ("product" : Str), .inl gd, rfl, rfl⟩, ?_⟩
            rw [ev]
            rw [Option.getD_some, lit_product]
            refine ⟨⟨_, rfl⟩, _, rfl, sizeL (m := 1) (Nat.le_refl _), fun q nq => ⟨_, rfl, q, L, _, _, rfl, rfl, upd_same, (upd_ne (ne_of_none (s3 _ _ hL) nq)).trans (s3 _ _ hL), ?_, fun s' ns => ⟨_, s', sO [40, 42] :: l.map (fun x => sO x.word), rfl, rfl, .inl (SqL.of upd_same), ?_, _, _, rfl, rfl, ?_, ?_⟩⟩⟩
            · rw [List.length_map, hlw, sizeLine_eq]
              show 1 + _ ≤ _
              omega
            · rw [List.map_cons, List.sum_cons, List.length_cons, hlw, blank, sO_len, sO_len]
              show 2 + _ + (l.length + 1) * 1 ≤ _
              omega
            · rw [blank, join_cons, lit_close, sO_len, sO_len, sizeLine_eq, List.length_append]
              show 2 + _ + 1 ≤ _
              omega
            · rw [blank, join_cons, lit_close, sO_app, List.append_assoc]
              exact k _ (((s1.trans s3).trans (K0.same_upd nq)).trans (K0.same_upd ns))
          | let_ w hw =>
            cases eh
            rw [show decide (("let" : Str) = "block") = false from by decide +kernel]
            refine iteF (fun pd nd => ⟨upd_same, [((.inr "sum" : Key), V.str "(+"), (.inr "product", .str "(*")], rfl, by decide, pd, rfl, .inl ⟨_, .inl upd_same⟩, ?_⟩)
            have s3 : Same H1 (upd (upd H1 pd (.dK [])) pd (.dK (mergeK [] [((.inr "sum" : Key), V.str "(+"), (.inr "product", .str "(*")]))) := fun b u e => by
              rw [upd_ne (ne_of_none e nd), upd_ne (ne_of_none e nd)]
              exact e
            have gd : (upd (upd H1 pd (.dK [])) pd (.dK (mergeK [] [((.inr "sum" : Key), V.str "(+"), (.inr "product", .str "(*")]))) pd = some (.dK (mergeK [] [((.inr "sum" : Key), V.str "(+"), (.inr "product", .str "(*")])) := upd_same
            generalize upd (upd H1 pd (.dK [])) pd (.dK (mergeK [] [((.inr "sum" : Key), V.str "(+"), (.inr "product", .str "(*")])) = H3 at s3 gd ⊢
            obtain ⟨a3, xs3, u3, ea3, hT3, hi3, hu3⟩ := (hdl1.to s3).item (i := 0) rfl
            cases ea3
            cases hu3
            obtain ⟨a4, xs4, u4, ea4, hT4, hi4, hu4⟩ := (hdl1.to s3).item (i := 1) rfl
            cases ea4
            cases hu4
            obtain ⟨w1, w2, w3⟩ := hw
            refine ⟨_, rfl, a, xs3, _, _, rfl, rfl, hT3, hi3, _, rfl, a, xs4, _, _, rfl, rfl, hT4, hi4, .inr (.inl ⟨_, rfl, _, _, rfl, rfl, ?_, _, _, rfl, rfl, ?_, ?_⟩)⟩
            · rw [lit_open, sO_len, sO_len, sizeLine_eq]
              show 1 + _ ≤ _
              omega
            · rw [lit_open, sO_app, sO_len, lit_eq, sO_len, sizeLine_eq]
              simp only [List.length_append, List.length_cons, List.length_nil]
              omega
            have ev : valV (mergeK [] [((.inr "sum" : Key), V.str "(+"), (.inr "product", .str "(*")]) (.inr ("let" : Str)) = none := by decide +kernel
            refine ⟨_, .inl ⟨_, .inr ("let" : Str), .inl gd, rfl, rfl⟩, ?_⟩
            rw [ev]
            rw [Option.getD_none, lit_open, sO_app, lit_eq, sO_app]
            have ol : ([40] ++ w ++ [32, 61]).length = w.length + 3 := by simp
            refine ⟨⟨_, rfl⟩, _, rfl, sizeL (m := 1) (Nat.le_refl _), fun q nq => ⟨_, rfl, q, L, _, _, rfl, rfl, upd_same, (upd_ne (ne_of_none (s3 _ _ hL) nq)).trans (s3 _ _ hL), ?_, fun s' ns => ⟨_, s', sO ([40] ++ w ++ [32, 61]) :: l.map (fun x => sO x.word), rfl, rfl, .inl (SqL.of upd_same), ?_, _, _, rfl, rfl, ?_, ?_⟩⟩⟩
            · rw [List.length_map, hlw, sizeLine_eq]
              show 1 + _ ≤ _
              omega
            · rw [List.map_cons, List.sum_cons, List.length_cons, hlw, blank, sO_len, sO_len]
              rw [ol]
              show w.length + 3 + _ + (l.length + 1) * 1 ≤ _
              omega
            · rw [blank, join_cons, lit_close, sO_len, sO_len, sizeLine_eq, List.length_append]
              rw [ol]
              show w.length + 3 + _ + 1 ≤ _
              omega
            · rw [blank, join_cons, lit_close, sO_app, List.append_assoc]
              exact k _ (((s1.trans s3).trans (K0.same_upd nq)).trans (K0.same_upd ns))
end
end K1
set_option maxHeartbeats 4000000
/-! _law_goes -/
namespace K1
open PySem L2
theorem mem_figq (c : Nat) : decide (c ∈ ("0123456789?" : Str).cps.toList) = (isFig c || c == 63) := by
  rw [show ("0123456789?" : Str).cps.toList = [48, 49, 50, 51, 52, 53, 54, 55, 56, 57, 63] from by decide +kernel, Bool.eq_iff_iff]
  unfold isFig
  simp only [decide_eq_true_eq, Bool.and_eq_true, Bool.or_eq_true, beq_iff_eq, List.mem_cons, List.not_mem_nil, or_false]
  omega
def spGoes : Sp := fun vs H Q _ => ∃ (w : List Nat) (c : Nat), vs = [.str (sO w), .str (sO [c])] ∧ w ≠ [] ∧ w.length ≤ 2000 ∧ ∀ H', Same H H' → Q (.bl (goes w c)) H'
section
variable {P : Program} {w : World} {K : PySem.W.Frag} {mg : Str → Option Value} {base : Heap}
theorem sc_goes : FnScope ["_law_word_here", "_law_sign", "_law_letters", "_law_one_here"] ["_law_word_here", "_law_sign"] (defScope (top 32)) := ⟨rfl, rfl, rfl, by decide +kernel, rfl, by decide +kernel, by decide +kernel⟩
theorem cl_goes (T : All K mg) : Cl P w K mg base 1 "_law_goes" ["_law_word_here", "_law_sign"] spGoes := by
  obtain ⟨g, fd, D⟩ := T.dn 32 _ _ rfl
  refine D.cl (D.fn.ok sc_goes (fun vs H Q E h => ?_) (fun cdv A outer s H vs Q E hr h => ?_))
  · obtain ⟨w, c, rfl, _⟩ := h
    rfl
  · obtain ⟨wd, c, rfl, hne, hl, k⟩ := h
    refine ⟨_, (pss_cons (ps_if (pt_cmpR op_in_sign (pe_ix ix_str (pv 0) pe_int (fun _ _ => rfl)) pe_str rfl) (pss_one (ps_ret (pe_and (pe_cmpR op_eq (pe_callB call_len_str (by rfl) T.bi.len PySem.boot_len (pa_cons (pv 0) pa_nil)) pe_int (nomark _)) (pe_and (pe_cmpR op_in_sign (pe_ix ix_str (pv 0) pe_int (fun _ _ => rfl)) pe_str rfl) (pe_one (pe_cmpR op_in_sign (pv 1) pe_str rfl)))))) pss_nil)
      (pss_cons (ps_set (i := 2) sc_goes.nd rfl (Or.inl rfl) (pe_callB call_len_seq (by rfl) T.bi.len PySem.boot_len (pa_cons (pe_lc (own := [("_law_one_here", 3)]) (g := gName 3) (tt := tTest (tOp rInS (tVar 3) (tC (.str "abcdefghijklmnopqrstuvwxyz")))) (te := tVar 3) rfl sc_goes.nd (pi_str (pv 0)) (blkOk_by (own := [("_law_one_here", 3)]) (N := ["_law_word_here", "_law_sign", "_law_letters", "_law_one_here"]) (sc := defScope (top 32)) (by decide +kernel)) (fun _ _ _ _ _ => (pg_name (i := 3) sc_goes.nd rfl (Or.inl rfl))) (fun _ _ _ _ _ => pts_one (pt_cmpR op_in_sign (pv 3) pe_str rfl)) (fun _ _ _ _ _ => (pv 3))) pa_nil)))
      (pss_cons (ps_if (pt_cmpR op_eq (pv 2) (pe_callB call_len_str (by rfl) T.bi.len PySem.boot_len (pa_cons (pv 0) pa_nil)) (nomark _)) (pss_one (ps_ret (pe_or (pe_and (pe_cmpR op_lt (pv 2) pe_int (nomark _)) (pe_one (pe_cmpR op_in_sign (pv 1) pe_str rfl))) (pe_one (pe_cmpR op_in_sign (pv 1) pe_str rfl))))) pss_nil)
      (pss_one (ps_ret (pe_and (pe_cmpR op_eq (pe_callB call_len_str (by rfl) T.bi.len PySem.boot_len (pa_cons (pv 0) pa_nil)) (pe_op op_add (pv 2) pe_int) (nomark _)) (pe_one (pe_cmpR op_in_sign (pv 1) pe_str rfl)))))))), ?_⟩
    obtain ⟨d, r, rfl⟩ : ∃ d r, wd = d :: r := by
      cases wd with
      | nil => exact absurd rfl hne
      | cons d r => exact ⟨d, r, rfl⟩
    have hl1 : (sO (d :: r)).length ≤ 2000 := by rw [sO_len]; exact hl
    have at0 : atI (sO (d :: r)).cps.toList 0 = some d := atI_nat (xs := d :: r) (j := 0) (v := d) rfl
    refine ⟨_, rfl, sO (d :: r), 0, d, rfl, rfl, sizeL hl1, at0, d, _, rfl, rfl, _, rfl, ?_⟩
    rw [mem_figq]
    unfold goes at k
    dsimp only at k
    cases e1 : (isFig d || d == 63) with
    | true =>
      rw [e1] at k
      refine iteT ⟨_, rfl, sO (d :: r), rfl, sizeL hl1, rfl, _, rfl, ?_⟩
      rw [dec_int, sO_len]
      have hk : ∀ b, b = ((d :: r).length == 1 && isFst d && isFig c) → Q (.bl b) H := fun b e => by
        rw [e]
        exact k H (Same.refl H)
      by_cases c1 : (((d :: r).length : Nat) : Int) = 1
      · rw [decide_eq_true c1]
        have c1' : ((d :: r).length == 1) = true := by
          rw [beq_iff_eq]
          omega
        refine iteT ⟨_, rfl, sO (d :: r), 0, d, rfl, rfl, sizeL hl1, at0, d, _, rfl, rfl, _, rfl, ?_⟩
        rw [mem_fst]
        cases c2 : isFst d with
        | true =>
          refine iteT ⟨_, rfl, c, _, rfl, rfl, ?_⟩
          rw [mem_fig]
          exact hk _ (by rw [c1', c2]; rfl)
        | false => exact iteF (hk _ (by rw [c1', c2]; rfl))
      · rw [decide_eq_false c1]
        refine iteF (hk _ ?_)
        have c1' : ((d :: r).length == 1) = false := by
          rw [beq_eq_false_iff_ne]
          omega
        rw [c1']
        rfl
    | false =>
      rw [e1] at k
      refine iteF ⟨_, rfl, _, rfl, fun L nL => ?_⟩
      have hsz : (sO (d :: r)).cps.size = (d :: r).length := List.size_toArray
      refine lc_it (walk_str (z := sO (d :: r))) (fun i H' => i ≤ (d :: r).length ∧ Same H H' ∧ ∃ acc, H' L = some (.lst acc) ∧ acc.length = (((d :: r).take i).filter isLet).length) ⟨Nat.zero_le _, K0.same_upd nL, [], upd_same, rfl⟩ (fun _ _ _ _ => trivial) ?_ ?_
      · rintro i x H2 H' hlt ⟨hle, s, acc, hacc, la⟩ ⟨rfl, cc, hcc, rfl⟩
        have hcc' : (d :: r)[i]? = some cc := by
          have : (sO (d :: r)).cps.toList[i]? = some cc := by rw [Array.getElem?_toList]; exact hcc
          exact this
        have hi := (List.getElem?_eq_some_iff.mp hcc').1
        have tk : (d :: r).take (i + 1) = (d :: r).take i ++ [cc] := by rw [List.take_succ, hcc']; rfl
        have lf : (((d :: r).take i).filter isLet).length ≤ i := Nat.le_trans (List.length_filter_le _ _) (by rw [List.length_take]; omega)
        refine ⟨rfl, _, rfl, cc, _, rfl, rfl, _, rfl, ?_⟩
        rw [mem_let]
        cases e2 : isLet cc with
        | true =>
          refine iteT ⟨_, rfl, acc, hacc, by rw [sizeLine_eq]; omega, hi, K0.same_over s nL, _, upd_same, ?_⟩
          rw [tk, List.filter_append, List.filter_cons_of_pos e2, List.filter_nil, List.length_append, List.length_append, la]
          rfl
        | false =>
          refine iteF ⟨hi, s, acc, hacc, ?_⟩
          rw [tk, List.filter_append, List.filter_cons_of_neg (by rw [e2]; exact Bool.false_ne_true), List.filter_nil, List.append_nil]
          exact la
      · rintro H' ⟨_, s, acc, hacc, la⟩
        rw [hsz, List.take_length] at la
        refine ⟨L, acc, rfl, .inl (SqL.of hacc), _, rfl, _, rfl, sO (d :: r), rfl, sizeL hl1, rfl, _, rfl, ?_⟩
        rw [la, dec_int, sO_len]
        have kk := k H' s
        generalize hm : ((d :: r).filter isLet).length = m at kk ⊢
        by_cases c1 : (m : Int) = (((d :: r).length : Nat) : Int)
        · have c1' : (m == (d :: r).length) = true := by
            rw [beq_iff_eq]
            omega
          rw [c1'] at kk
          rw [decide_eq_true c1]
          have fin : ∀ b, b = ((decide (m < 4) && isLet c) || isFst c) → Q (.bl b) H' := fun b e => by
            rw [e]
            exact kk
          refine iteT ⟨_, rfl, _, _, rfl, rfl, _, rfl, ?_⟩
          by_cases c2 : (m : Int) < 4
          · have c2' : decide (m < 4) = true := decide_eq_true (by omega)
            rw [decide_eq_true c2]
            refine iteT ⟨_, rfl, c, _, rfl, rfl, _, rfl, ?_⟩
            rw [mem_let]
            cases c3 : isLet c with
            | true => exact iteT (fin _ (by rw [c2', c3]; rfl))
            | false =>
              refine iteF ⟨_, rfl, c, _, rfl, rfl, ?_⟩
              rw [mem_fst]
              exact fin _ (by rw [c2', c3]; rfl)
          · have c2' : decide (m < 4) = false := decide_eq_false (by omega)
            rw [decide_eq_false c2]
            refine iteF ⟨_, rfl, iteF ⟨_, rfl, c, _, rfl, rfl, ?_⟩⟩
            rw [mem_fst]
            exact fin _ (by rw [c2']; rfl)
        · have c1' : (m == (d :: r).length) = false := by
            rw [beq_eq_false_iff_ne]
            omega
          rw [c1'] at kk
          rw [decide_eq_false c1]
          refine iteF ⟨_, rfl, sO (d :: r), rfl, sizeL hl1, _, rfl, _, _, rfl, rfl, rfl, _, rfl, ?_⟩
          rw [dec_int, sO_len]
          by_cases c2 : (((d :: r).length : Nat) : Int) = (m : Int) + 1
          · have c2' : ((d :: r).length == m + 1) = true := by
              rw [beq_iff_eq]
              omega
            rw [c2'] at kk
            rw [decide_eq_true c2]
            refine iteT ⟨_, rfl, c, _, rfl, rfl, ?_⟩
            rw [mem_fig]
            exact kk
          · have c2' : ((d :: r).length == m + 1) = false := by
              rw [beq_eq_false_iff_ne]
              omega
            rw [c2'] at kk
            rw [decide_eq_false c2]
            exact iteF kk
end
end K1
set_option maxHeartbeats 4000000
/-! _law_wrong -/
namespace K1
open PySem L2
def stS : AS → Str
  | .start => "start"
  | .item => "item"
  | .opn => "open"
  | .gap => "gap"
  | .sgn => "sign"
  | .after => "after"
  | .word => "word"
def ofS (y : Str) (f : AS → Bool) : Prop := ∀ s, decide (V.str (stS s) = V.str y) = f s
theorem st_word (s : AS) : decide (V.str (stS s) = V.str "word") = decide (s = .word) := by cases s <;> decide +kernel
theorem st_open (s : AS) : decide (V.str (stS s) = V.str "open") = decide (s = .opn) := by cases s <;> decide +kernel
theorem st_gap (s : AS) : decide (V.str (stS s) = V.str "gap") = decide (s = .gap) := by cases s <;> decide +kernel
theorem st_after (s : AS) : decide (V.str (stS s) = V.str "after") = decide (s = .after) := by cases s <;> decide +kernel
theorem sg_eq (c k : Nat) : decide (V.str (sO [c]) = V.str (sO [k])) = decide (c = k) := by
  refine decide_eq_decide.mpr ⟨fun e => ?_, fun e => by rw [e]⟩
  have h := congrArg (fun x => x.cps.toList) (V.str.inj e)
  exact (List.cons.inj h).1
theorem sg_open (c : Nat) : decide (V.str (sO [c]) = V.str "(") = decide (c = 40) := sg_eq c 40
theorem sg_close (c : Nat) : decide (V.str (sO [c]) = V.str ")") = decide (c = 41) := sg_eq c 41
theorem sg_is (c : Nat) : decide (V.str (sO [c]) = V.str "=") = decide (c = 61) := sg_eq c 61
theorem sg_blank (c : Nat) : decide (V.str (sO [c]) = V.str " ") = decide (c = 32) := sg_eq c 32
theorem mem_wd (c : Nat) : decide (c ∈ ("0123456789abcdefghijklmnopqrstuvwxyz?" : Str).cps.toList) = isWd c := by
  rw [show ("0123456789abcdefghijklmnopqrstuvwxyz?" : Str).cps.toList = [48, 49, 50, 51, 52, 53, 54, 55, 56, 57, 97, 98, 99, 100, 101, 102, 103, 104, 105, 106, 107, 108, 109, 110, 111, 112, 113, 114, 115, 116, 117, 118, 119, 120, 121, 122, 63] from by decide +kernel, Bool.eq_iff_iff]
  unfold isWd isFig isLet
  simp only [decide_eq_true_eq, Bool.and_eq_true, Bool.or_eq_true, beq_iff_eq, List.mem_cons, List.not_mem_nil, or_false]
  omega
theorem mem_pm (c : Nat) : decide (c ∈ ("+*" : Str).cps.toList) = decide (c = 43 ∨ c = 42) := by
  rw [show ("+*" : Str).cps.toList = [43, 42] from by decide +kernel]
  simp
theorem in_begs (s : AS) : inV (.str (stS s)) [.str "start", .str "item", .str "open", .str "gap"] = begs s := by cases s <;> decide +kernel
theorem in_cl (s : AS) : inV (.str (stS s)) [.str "open", .str "after", .str "sign"] = decide (s = .opn ∨ s = .after ∨ s = .sgn) := by cases s <;> decide +kernel
theorem in_bl (s : AS) : inV (.str (stS s)) [.str "after", .str "sign"] = decide (s = .after ∨ s = .sgn) := by cases s <;> decide +kernel
theorem in_end (s : AS) : inV (.str (stS s)) [.str "item", .str "gap"] = decide (s = .item ∨ s = .gap) := by cases s <;> decide +kernel
def tT1 : TT := fun σ H Q => ∃ (s : AS) (w : List Nat) (c : Nat), σ[2]? = some (some (.str (stS s))) ∧ σ[3]? = some (some (.str (sO w))) ∧ σ[6]? = some (some (.str (sO [c]))) ∧ (s = .word → w ≠ [] ∧ w.length ≤ 2000) ∧ ∀ H', Same H H' → Q (decide (s = .word) && goes w c) H'
def tSt : TE := fun σ H Q => ∃ s : AS, σ[2]? = some (some (.str (stS s))) ∧ Q (.str (stS (if s = .word then .after else s))) H
def tBg : TE := fun σ H Q => ∃ s : AS, σ[2]? = some (some (.str (stS s))) ∧ ∀ H', Same H H' → Q (.bl (begs s)) H'
def tT2 : TT := fun σ H Q => ∃ (b : Bool) (c : Nat), σ[7]? = some (some (.bl b)) ∧ σ[6]? = some (some (.str (sO [c]))) ∧ Q (b && isWd c) H
def tT3 : TT := fun σ H Q => ∃ (b : Bool) (c : Nat), σ[7]? = some (some (.bl b)) ∧ σ[6]? = some (some (.str (sO [c]))) ∧ Q (b && decide (c = 40)) H
def tT4 : TT := fun σ H Q => ∃ (s : AS) (c : Nat), σ[2]? = some (some (.str (stS s))) ∧ σ[6]? = some (some (.str (sO [c]))) ∧ Q (decide ((s = .opn ∧ (c = 43 ∨ c = 42)) ∨ (s = .gap ∧ c = 61))) H
def tT5 : TT := fun σ H Q => ∃ (s : AS) (c o : Nat), σ[2]? = some (some (.str (stS s))) ∧ σ[6]? = some (some (.str (sO [c]))) ∧ σ[1]? = some (some (.int (o : Int))) ∧ ∀ H', Same H H' → Q (decide (c = 41 ∧ 0 < o ∧ (s = .opn ∨ s = .after ∨ s = .sgn))) H'
def tT6 : TT := fun σ H Q => ∃ (s : AS) (c : Nat), σ[2]? = some (some (.str (stS s))) ∧ σ[6]? = some (some (.str (sO [c]))) ∧ ∀ H', Same H H' → Q (decide (c = 32 ∧ (s = .after ∨ s = .sgn))) H'
def tNm : TE := fun σ H Q => ∃ (s : AS) (c : Nat), σ[2]? = some (some (.str (stS s))) ∧ σ[6]? = some (some (.str (sO [c]))) ∧ Q (.bl (decide (s = .opn) && isLet c)) H
def tGp : TE := fun σ H Q => ∃ (s : AS) (nm : Bool), σ[2]? = some (some (.str (stS s))) ∧ σ[4]? = some (some (.bl nm)) ∧ Q (.str (stS (if nm = true ∧ s = .after then .gap else .item))) H
def tEnd : TE := fun σ H Q => ∃ (z : Str) (s : AS) (o : Nat), σ[0]? = some (some (.str z)) ∧ σ[2]? = some (some (.str (stS s))) ∧ σ[1]? = some (some (.int (o : Int))) ∧ z.length ≤ 2000 ∧ ∀ H', Same H H' → Q (if 0 < o ∨ s = .item ∨ s = .gap then .int (z.length : Int) else .non) H'
def wrongV : Option Nat → V
  | none => .non
  | some e => .int (e : Int)
def spWrong : Sp := fun vs H Q _ => ∃ T : List Nat, vs = [.str (sO T)] ∧ T.length ≤ 1250 ∧ ∀ H', Same H H' → Q (wrongV (wrongT T)) H'
abbrev NWr : List Str := ["_law_text_here", "_law_open_ones", "_law_state", "_law_word_here", "_law_named", "_law_at", "_law_sign", "_law_begins"]
section
variable {P : Program} {w : World} {K : PySem.W.Frag} {mg : Str → Option Value} {base : Heap}
theorem sc_wrong : FnScope NWr ["_law_text_here"] (defScope (top 33)) := ⟨rfl, rfl, rfl, by decide +kernel, rfl, by decide +kernel, by decide +kernel⟩
theorem cl_wrong (T : All K mg) (hrange : mg "range" = none) : Cl P w K mg base 2 "_law_wrong" ["_law_text_here"] spWrong := by
  obtain ⟨g, fd, D⟩ := T.dn 33 _ _ rfl
  refine D.cl (D.fn.ok sc_wrong (fun vs H Q E h => ?_) (fun cdv A outer s H vs Q E hr h => ?_))
  · obtain ⟨TT, rfl, _⟩ := h
    rfl
  · obtain ⟨TT, rfl, hl, k⟩ := h
    refine ⟨_, (pss_cons (ps_asg (pe_tup (pa_cons pe_int (pa_cons pe_str (pa_cons pe_str (pa_cons pe_bl pa_nil))))) (pg_tup (t := (gCons (gName 1) (gCons (gName 2) (gCons (gName 3) (gCons (gName 4) gNil))))) rfl (pgs_cons (pg_name (i := 1) sc_wrong.nd rfl (Or.inl rfl)) (pgs_cons (pg_name (i := 2) sc_wrong.nd rfl (Or.inl rfl)) (pgs_cons (pg_name (i := 3) sc_wrong.nd rfl (Or.inl rfl)) (pgs_cons (pg_name (i := 4) sc_wrong.nd rfl (Or.inl rfl)) pgs_nil))))))
      (pss_cons (ps_for PassesOwn.never rfl (pi_range1 rfl hrange (pa_cons (pe_callB call_len_str (by rfl) T.bi.len PySem.boot_len (pa_cons (pv 0) pa_nil)) pa_nil)) (pg_name (i := 5) sc_wrong.nd rfl (Or.inl rfl)) (pss_cons (ps_set (i := 6) sc_wrong.nd rfl (Or.inl rfl) (pe_ix ix_str (pv 0) (pv 5) (fun _ _ => rfl)))
      (pss_cons (ps_if (pt_imp (t' := tT1) (PW.pt (pw_and (pt_cmpR op_eq (pv 2) pe_str (nomark _)) (pw_and1 (pt_val (pe_cl (cl_goes T) hr (by decide) (pa_cons (pv 3) (pa_cons (pv 6) pa_nil))))))) (fun σ H Q hh => ?_)) (pss_cons (ps_set (i := 3) sc_wrong.nd rfl (Or.inl rfl) (pe_op op_add_str (pv 3) (pv 6)))
      (pss_one ps_continue)) pss_nil)
      (pss_cons (ps_set (i := 2) sc_wrong.nd rfl (Or.inl rfl) (K0.pe_imp (t' := tSt) (pe_ifExp (pt_cmpR op_eq (pv 2) pe_str (nomark _)) pe_str (pv 2)) (fun σ H Q hh => ?_)))
      (pss_cons (ps_set (i := 7) sc_wrong.nd rfl (Or.inl rfl) (K0.pe_imp (t' := tBg) (pe_cmpR op_in_seq (pv 2) (pe_tup (pa_cons pe_str (pa_cons pe_str (pa_cons pe_str (pa_cons pe_str pa_nil))))) rfl) (fun σ H Q hh => ?_)))
      (pss_one (ps_if (pt_imp (t' := tT2) (PW.pt (pw_and (pt_val (pv 7)) (pw_and1 (pt_cmpR op_in_sign (pv 6) pe_str rfl)))) (fun σ H Q hh => ?_)) (pss_cons (ps_set (i := 4) sc_wrong.nd rfl (Or.inl rfl) (K0.pe_imp (t' := tNm) (pe_and (pe_cmpR op_eq (pv 2) pe_str (nomark _)) (pe_one (pe_cmpR op_in_sign (pv 6) pe_str rfl))) (fun σ H Q hh => ?_)))
      (pss_one (ps_par (i := 2) (j := 3) rfl sc_wrong.nd rfl rfl (by decide) rfl rfl (pa_cons pe_str (pa_cons (pv 6) pa_nil)) (by rfl)))) (pss_one (ps_if (pt_imp (t' := tT3) (PW.pt (pw_and (pt_val (pv 7)) (pw_and1 (pt_cmpR op_eq (pv 6) pe_str (nomark _))))) (fun σ H Q hh => ?_)) (pss_one (ps_par3 (i := 2) (j := 4) (l := 1) rfl sc_wrong.nd rfl rfl rfl (by decide) (by decide) (by decide) rfl rfl rfl (pa_cons pe_str (pa_cons pe_bl (pa_cons (pe_op op_add (pv 1) pe_int) pa_nil))) (by rfl))) (pss_one (ps_if (pt_imp (t' := tT4) (PW.pt (pw_or (PW.pt (pw_and (pt_cmpR op_eq (pv 2) pe_str (nomark _)) (pw_and1 (pt_cmpR op_in_sign (pv 6) pe_str rfl)))) (pw_or1 (PW.pt (pw_and (pt_cmpR op_eq (pv 2) pe_str (nomark _)) (pw_and1 (pt_cmpR op_eq (pv 6) pe_str (nomark _)))))))) (fun σ H Q hh => ?_)) (pss_one (ps_set (i := 2) sc_wrong.nd rfl (Or.inl rfl) pe_str)) (pss_one (ps_if (pt_imp (t' := tT5) (PW.pt (pw_and (pt_cmpR op_eq (pv 6) pe_str (nomark _)) (pw_and (pt_cmpR op_gt (pv 1) pe_int (nomark _)) (pw_and1 (pt_cmpR op_in_seq (pv 2) (pe_tup (pa_cons pe_str (pa_cons pe_str (pa_cons pe_str pa_nil)))) rfl))))) (fun σ H Q hh => ?_)) (pss_one (ps_par3 (i := 2) (j := 4) (l := 1) rfl sc_wrong.nd rfl rfl rfl (by decide) (by decide) (by decide) rfl rfl rfl (pa_cons pe_str (pa_cons pe_bl (pa_cons (pe_op op_sub (pv 1) pe_int) pa_nil))) (by rfl))) (pss_one (ps_if (pt_imp (t' := tT6) (PW.pt (pw_and (pt_cmpR op_eq (pv 6) pe_str (nomark _)) (pw_and1 (pt_cmpR op_in_seq (pv 2) (pe_tup (pa_cons pe_str (pa_cons pe_str pa_nil))) rfl)))) (fun σ H Q hh => ?_)) (pss_one (ps_par (i := 2) (j := 4) rfl sc_wrong.nd rfl rfl (by decide) rfl rfl (pa_cons (K0.pe_imp (t' := tGp) (pe_ifExp (PW.pt (pw_and (pt_val (pv 4)) (pw_and1 (pt_cmpR op_eq (pv 2) pe_str (nomark _))))) pe_str pe_str) (fun σ H Q hh => ?_)) (pa_cons pe_bl pa_nil)) (by rfl))) (pss_one (ps_ret (pv 5))))))))))))))))))
      (pss_one (ps_ret (K0.pe_imp (t' := tEnd) (pe_ifExp (PW.pt (pw_or (pt_cmpR op_gt (pv 1) pe_int (nomark _)) (pw_or1 (pt_cmpR op_in_seq (pv 2) (pe_tup (pa_cons pe_str (pa_cons pe_str pa_nil))) rfl)))) (pe_callB call_len_str (by rfl) T.bi.len PySem.boot_len (pa_cons (pv 0) pa_nil)) pe_non) (fun σ H Q hh => ?_)))))), ?_⟩
    · -- goes on with a word
      obtain ⟨s, wd, c, h2, h3, h6, hw, q⟩ := hh
      refine ⟨_, h2, rfl, _, rfl, ?_⟩
      rw [st_word]
      cases e : decide (s = .word) with
      | false =>
        rw [e] at q
        exact iteF (q H (Same.refl H))
      | true =>
        rw [e] at q
        obtain ⟨w1, w2⟩ := hw (of_decide_eq_true e)
        exact iteT ⟨_, h3, _, h6, wd, c, rfl, w1, w2, fun H' s1 => ⟨_, rfl, q H' s1⟩⟩
    · -- behind a word
      obtain ⟨s, h2, q⟩ := hh
      refine ⟨_, h2, rfl, _, rfl, ?_⟩
      rw [st_word]
      by_cases e : s = .word
      · rw [if_pos e] at q
        rw [decide_eq_true e]
        exact iteT q
      · rw [if_neg e] at q
        rw [decide_eq_false e]
        exact iteF ⟨_, h2, q⟩
    · -- does an item begin there
      obtain ⟨s, h2, q⟩ := hh
      refine ⟨_, h2, sizeL (m := 4) (Nat.le_refl 4), fun t nt => ⟨t, _, rfl, .inr (.inl (.inl upd_same)), rfl, rfl, ?_⟩⟩
      rw [in_begs]
      exact q _ (K0.same_upd nt)
    · obtain ⟨b, c, h7, h6, q⟩ := hh
      refine ⟨_, h7, _, rfl, ?_⟩
      cases b with
      | false => exact iteF q
      | true =>
        refine iteT ⟨_, h6, c, _, rfl, rfl, _, rfl, ?_⟩
        rw [mem_wd]
        exact q
    · obtain ⟨s, c, h2, h6, q⟩ := hh
      refine ⟨_, h2, rfl, _, rfl, ?_⟩
      rw [st_open]
      cases e : decide (s = .opn) with
      | false =>
        rw [e] at q
        exact iteF q
      | true =>
        rw [e] at q
        refine iteT ⟨_, h6, c, _, rfl, rfl, ?_⟩
        rw [mem_let]
        exact q
    · obtain ⟨b, c, h7, h6, q⟩ := hh
      refine ⟨_, h7, _, rfl, ?_⟩
      cases b with
      | false => exact iteF q
      | true =>
        refine iteT ⟨_, h6, rfl, _, rfl, ?_⟩
        rw [sg_open]
        exact q
    · obtain ⟨s, c, h2, h6, q⟩ := hh
      refine ⟨_, h2, rfl, _, rfl, ?_⟩
      rw [st_open]
      have go2 : Q (decide (s = .gap ∧ c = 61)) H → tAnd (tTest (tOp rEq (tVar 2) (tC (V.str "gap")))) (tTest (tOp rEq (tVar 6) (tC (V.str "=")))) σ H Q := fun q2 => by
        refine ⟨_, h2, rfl, _, rfl, ?_⟩
        rw [st_gap]
        by_cases e : s = .gap
        · rw [decide_eq_true e]
          refine iteT ⟨_, h6, rfl, _, rfl, ?_⟩
          rw [sg_is]
          have e2 : decide (s = .gap ∧ c = 61) = decide (c = 61) := decide_eq_decide.mpr ⟨fun z => z.2, fun z => ⟨e, z⟩⟩
          rw [e2] at q2
          exact q2
        · rw [decide_eq_false e]
          have e2 : decide (s = .gap ∧ c = 61) = false := decide_eq_false fun z => e z.1
          rw [e2] at q2
          exact iteF q2
      by_cases e : s = .opn
      · rw [decide_eq_true e]
        refine iteT ⟨_, h6, c, _, rfl, rfl, _, rfl, ?_⟩
        rw [mem_pm]
        by_cases e2 : c = 43 ∨ c = 42
        · rw [decide_eq_true e2]
          rw [decide_eq_true (.inl ⟨e, e2⟩)] at q
          exact iteT q
        · rw [decide_eq_false e2]
          refine iteF (go2 ?_)
          have e3 : decide (s = .gap ∧ c = 61) = decide ((s = .opn ∧ (c = 43 ∨ c = 42)) ∨ (s = .gap ∧ c = 61)) := decide_eq_decide.mpr ⟨fun z => .inr z, fun z => z.elim (fun y => absurd y.2 e2) id⟩
          rw [e3]
          exact q
      · rw [decide_eq_false e]
        refine iteF (iteF (go2 ?_))
        have e3 : decide (s = .gap ∧ c = 61) = decide ((s = .opn ∧ (c = 43 ∨ c = 42)) ∨ (s = .gap ∧ c = 61)) := decide_eq_decide.mpr ⟨fun z => .inr z, fun z => z.elim (fun y => absurd y.1 e) id⟩
        rw [e3]
        exact q
    · obtain ⟨s, c, o, h2, h6, h1, q⟩ := hh
      refine ⟨_, h6, rfl, _, rfl, ?_⟩
      rw [sg_close]
      by_cases e1 : c = 41
      · rw [decide_eq_true e1]
        refine iteT ⟨_, h1, _, _, rfl, rfl, _, rfl, ?_⟩
        by_cases e2 : (o : Int) > 0
        · rw [decide_eq_true e2]
          refine iteT ⟨_, h2, sizeL (m := 3) (Nat.le_refl 3), fun t nt => ⟨t, _, rfl, .inr (.inl (.inl upd_same)), rfl, rfl, _, rfl, ?_⟩⟩
          rw [in_cl]
          have e3 : decide (c = 41 ∧ 0 < o ∧ (s = .opn ∨ s = .after ∨ s = .sgn)) = decide (s = .opn ∨ s = .after ∨ s = .sgn) := decide_eq_decide.mpr ⟨fun z => z.2.2, fun z => ⟨e1, by omega, z⟩⟩
          rw [← e3]
          exact q _ (K0.same_upd nt)
        · rw [decide_eq_false e2]
          have e3 : decide (c = 41 ∧ 0 < o ∧ (s = .opn ∨ s = .after ∨ s = .sgn)) = false := decide_eq_false fun z => e2 (by omega)
          rw [e3] at q
          exact iteF (q H (Same.refl H))
      · rw [decide_eq_false e1]
        have e3 : decide (c = 41 ∧ 0 < o ∧ (s = .opn ∨ s = .after ∨ s = .sgn)) = false := decide_eq_false fun z => e1 z.1
        rw [e3] at q
        exact iteF (q H (Same.refl H))
    · obtain ⟨s, c, h2, h6, q⟩ := hh
      refine ⟨_, h6, rfl, _, rfl, ?_⟩
      rw [sg_blank]
      by_cases e1 : c = 32
      · rw [decide_eq_true e1]
        refine iteT ⟨_, h2, sizeL (m := 2) (Nat.le_refl 2), fun t nt => ⟨t, _, rfl, .inr (.inl (.inl upd_same)), rfl, rfl, _, rfl, ?_⟩⟩
        rw [in_bl]
        have e3 : decide (c = 32 ∧ (s = .after ∨ s = .sgn)) = decide (s = .after ∨ s = .sgn) := decide_eq_decide.mpr ⟨fun z => z.2, fun z => ⟨e1, z⟩⟩
        rw [← e3]
        exact q _ (K0.same_upd nt)
      · rw [decide_eq_false e1]
        have e3 : decide (c = 32 ∧ (s = .after ∨ s = .sgn)) = false := decide_eq_false fun z => e1 z.1
        rw [e3] at q
        exact iteF (q H (Same.refl H))
    · obtain ⟨s, nm, h2, h4, q⟩ := hh
      refine ⟨_, h4, _, rfl, ?_⟩
      cases nm with
      | false =>
        rw [if_neg (fun z => Bool.noConfusion z.1)] at q
        exact iteF (iteF q)
      | true =>
        refine iteT ⟨_, h2, rfl, _, rfl, ?_⟩
        rw [st_after]
        by_cases e : s = .after
        · rw [if_pos ⟨rfl, e⟩] at q
          rw [decide_eq_true e]
          exact iteT q
        · rw [if_neg (fun z => e z.2)] at q
          rw [decide_eq_false e]
          exact iteF q
    · obtain ⟨z, s, o, h0, h2, h1, hz, q⟩ := hh
      refine ⟨_, h1, _, _, rfl, rfl, _, rfl, ?_⟩
      by_cases e : (o : Int) > 0
      · rw [decide_eq_true e]
        rw [if_pos (.inl (by omega))] at q
        exact iteT (iteT ⟨_, h0, z, rfl, sizeL hz, q H (Same.refl H)⟩)
      · rw [decide_eq_false e]
        refine iteF ⟨_, h2, sizeL (m := 2) (Nat.le_refl 2), fun t nt => ⟨t, _, rfl, .inr (.inl (.inl upd_same)), rfl, rfl, _, rfl, ?_⟩⟩
        rw [in_end]
        have qq := q _ (K0.same_upd (o := .tup [V.str "item", V.str "gap"]) nt)
        by_cases e2 : s = .item ∨ s = .gap
        · rw [decide_eq_true e2]
          rw [if_pos (.inr e2)] at qq
          exact iteT ⟨_, (h0 : _), z, rfl, sizeL hz, qq⟩
        · rw [decide_eq_false e2]
          rw [if_neg (fun y => y.elim (fun y => e (by omega)) e2)] at qq
          exact iteF qq
    have hz : (sO TT).length ≤ 1250 := by rw [sO_len]; exact hl
    have e0 : ("" : Str) = sO [] := by decide +kernel
    refine ⟨sizeL (m := 4) (Nat.le_refl 4), fun t nt => ⟨t, _, rfl, .inl (.inl upd_same), rfl, _, _, rfl, _, _, rfl, _, _, rfl, _, _, rfl, rfl, ?_⟩⟩
    refine ⟨_, rfl, sO TT, rfl, sizeL hz, _, rfl, by rw [sO_len]; omega, by rw [sO_len]; omega, ?_⟩
    refine for_range (lo := 0) (n := _) (fun i σ J => Same H J ∧ i ≤ TT.length ∧ ∃ a y5 y6 y7, σ = [some (.str (sO TT)), some (.int (a.o : Int)), some (.str (stS a.st)), some (.str (sO a.w)), some (.bl a.nm), y5, y6, y7] ∧ wrongT TT = runA a i (TT.drop i) ∧ a.w.length ≤ i ∧ (a.st = .word → a.w ≠ [])) ⟨K0.same_upd nt, Nat.zero_le _, ⟨0, .start, [], false⟩, _, _, _, rfl, rfl, Nat.le_refl _, fun z => (by cases z)⟩ ?_ ?_
    · rintro i σ J hi ⟨sJ, hle, a, y5, y6, y7, rfl, hw, hlen, hne⟩
      rw [Int.toNat_natCast, sO_len] at hi
      have hd := drop_cons hi
      generalize hc : TT.getD i 0 = c at hd
      have hat : atI (sO TT).cps.toList (0 + (i : Int)) = some c := by
        rw [Int.zero_add]
        refine atI_nat ?_
        show TT[i]? = some c
        rw [← hc, List.getD_eq_getElem?_getD, List.getElem?_eq_getElem hi]
        rfl
      rw [hd] at hw
      have fin : ∀ (a' : Au) (y5 y6 y7 : Option V) (H' : Hp), stepA a c = some a' → Same H H' → a'.w.length ≤ i + 1 → (a'.st = .word → a'.w ≠ []) → Same H H' ∧ i + 1 ≤ TT.length ∧ ∃ a y5' y6' y7', ([some (.str (sO TT)), some (.int (a'.o : Int)), some (.str (stS a'.st)), some (.str (sO a'.w)), some (.bl a'.nm), y5, y6, y7] : St) = [some (.str (sO TT)), some (.int (a.o : Int)), some (.str (stS a.st)), some (.str (sO a.w)), some (.bl a.nm), y5', y6', y7'] ∧ wrongT TT = runA a (i + 1) (TT.drop (i + 1)) ∧ a.w.length ≤ i + 1 ∧ (a.st = .word → a.w ≠ []) := by
        intro a' y5 y6 y7 H' hs s1 h1 h2
        exact ⟨s1, hi, a', y5, y6, y7, rfl, by rw [hw, run_cons hs], h1, h2⟩
      refine ⟨_, rfl, _, rfl, sO TT, _, c, rfl, rfl, sizeL hz, hat, ?_⟩
      refine ⟨a.st, a.w, c, rfl, rfl, rfl, fun z => ⟨hne z, by omega⟩, fun H1 s1 => ?_⟩
      have sH1 := sJ.trans s1
      by_cases cg : a.st = .word ∧ goes a.w c = true
      · rw [decide_eq_true cg.1, cg.2]
        refine iteT ⟨_, rfl, _, rfl, _, _, rfl, rfl, (by show (sO a.w).length + (sO [c]).length ≤ _; rw [sO_len, sO_len, sizeLine_eq, List.length_singleton]; omega), ?_⟩
        have esO : sO a.w ++ (⟨#[c]⟩ : Str) = sO (a.w ++ [c]) := sO_app a.w [c]
        rw [esO]
        have hs : stepA a c = some ⟨a.o, a.st, a.w ++ [c], a.nm⟩ := by
          unfold stepA
          rw [if_pos cg, cg.1]
        exact fin ⟨a.o, a.st, a.w ++ [c], a.nm⟩ (some (.int (0 + (i : Int)))) (some (.str (sO [c]))) y7 H1 hs sH1 (by show (a.w ++ [c]).length ≤ _; rw [List.length_append, List.length_singleton]; omega) (fun _ => by simp)
      · have cg' : (decide (a.st = .word) && goes a.w c) = false := by
          rw [Bool.and_eq_false_iff, decide_eq_false_iff_not]
          by_cases z : a.st = .word
          · right
            cases zz : goes a.w c with
            | false => rfl
            | true => exact absurd ⟨z, zz⟩ cg
          · exact .inl z
        have hs0 : stepA a c = actA a (stA a) c := by
          unfold stepA
          rw [if_neg cg]
        rw [cg']
        obtain ⟨s', hs'⟩ : ∃ s', s' = stA a := ⟨_, rfl⟩
        rw [← hs'] at hs0
        refine iteF ⟨a.st, rfl, ?_⟩
        rw [show (if a.st = AS.word then AS.after else a.st) = s' from hs'.symm]
        refine ⟨s', rfl, fun H2 s2 => ?_⟩
        have sH2 := sH1.trans s2
        unfold actA at hs0
        refine ⟨begs s', c, rfl, rfl, ?_⟩
        by_cases c2 : begs s' = true ∧ isWd c = true
        · rw [if_pos c2] at hs0
          rw [c2.1, c2.2]
          refine iteT ⟨s', c, rfl, rfl, ?_⟩
          refine ⟨_, rfl, _, _, rfl, ?_⟩
          exact fin ⟨a.o, .word, [c], decide (s' = .opn) && isLet c⟩ _ _ _ H2 hs0 sH2 (by show 1 ≤ _; omega) (fun _ => by simp)
        · rw [if_neg c2] at hs0
          have c2' : (begs s' && isWd c) = false := by
            cases z1 : begs s' with
            | false => rfl
            | true =>
              cases z2 : isWd c with
              | false => rfl
              | true => exact absurd ⟨z1, z2⟩ c2
          rw [c2']
          refine iteF ⟨begs s', c, rfl, rfl, ?_⟩
          by_cases c3 : begs s' = true ∧ c = 40
          · rw [if_pos c3] at hs0
            rw [c3.1, decide_eq_true c3.2]
            exact iteT ⟨_, rfl, _, _, rfl, rfl, _, _, _, rfl, fin ⟨a.o + 1, .opn, a.w, false⟩ _ _ _ H2 hs0 sH2 (by show a.w.length ≤ _; omega) (fun z => (by cases z))⟩
          · rw [if_neg c3] at hs0
            have c3' : (begs s' && decide (c = 40)) = false := by
              cases z1 : begs s' with
              | false => rfl
              | true => exact decide_eq_false fun z2 => c3 ⟨z1, z2⟩
            rw [c3']
            refine iteF ⟨s', c, rfl, rfl, ?_⟩
            by_cases c4 : (s' = .opn ∧ (c = 43 ∨ c = 42)) ∨ (s' = .gap ∧ c = 61)
            · rw [if_pos c4] at hs0
              rw [decide_eq_true c4]
              exact iteT (fin ⟨a.o, .sgn, a.w, a.nm⟩ _ _ _ H2 hs0 sH2 (by show a.w.length ≤ _; omega) (fun z => (by cases z)))
            · rw [if_neg c4] at hs0
              rw [decide_eq_false c4]
              refine iteF ⟨s', c, a.o, rfl, rfl, rfl, fun H3 s3 => ?_⟩
              have sH3 := sH2.trans s3
              by_cases c5 : c = 41 ∧ 0 < a.o ∧ (s' = .opn ∨ s' = .after ∨ s' = .sgn)
              · rw [if_pos c5] at hs0
                rw [decide_eq_true c5]
                refine iteT ⟨_, rfl, _, _, rfl, rfl, _, _, _, rfl, ?_⟩
                have e5 : (a.o : Int) - 1 = ((a.o - 1 : Nat) : Int) := by have := c5.2.1; omega
                dsimp only
                rw [e5]
                exact fin ⟨a.o - 1, .after, a.w, false⟩ _ _ _ H3 hs0 sH3 (by show a.w.length ≤ _; omega) (fun z => (by cases z))
              · rw [if_neg c5] at hs0
                rw [decide_eq_false c5]
                refine iteF ⟨s', c, rfl, rfl, fun H4 s4 => ?_⟩
                have sH4 := sH3.trans s4
                by_cases c6 : c = 32 ∧ (s' = .after ∨ s' = .sgn)
                · rw [if_pos c6] at hs0
                  rw [decide_eq_true c6]
                  refine iteT ⟨s', a.nm, rfl, rfl, _, _, rfl, ?_⟩
                  have hnw : (if a.nm = true ∧ s' = .after then AS.gap else AS.item) ≠ .word := by split <;> exact fun z => (by cases z)
                  exact fin ⟨a.o, if a.nm = true ∧ s' = .after then .gap else .item, a.w, false⟩ _ _ _ H4 hs0 sH4 (by show a.w.length ≤ _; omega) (fun z => absurd z hnw)
                · rw [if_neg c6] at hs0
                  rw [decide_eq_false c6]
                  refine iteF ⟨_, rfl, ?_⟩
                  have := k H4 sH4
                  rw [hw, run_stop hs0] at this
                  rw [Int.zero_add]
                  exact this
    · rintro σ J ⟨sJ, hle, a, y5, y6, y7, rfl, hw, hlen, hne⟩
      rw [Int.toNat_natCast, sO_len] at hw
      rw [List.drop_length, runA] at hw
      refine ⟨sO TT, a.st, a.o, rfl, rfl, rfl, by omega, fun H' s => ?_⟩
      have := k H' (sJ.trans s)
      rw [hw] at this
      unfold endA at this
      rw [sO_len]
      by_cases q : 0 < a.o ∨ a.st = .item ∨ a.st = .gap
      · rw [if_pos q] at this ⊢
        exact this
      · rw [if_neg q] at this ⊢
        exact this
end
end K1
set_option maxHeartbeats 4000000
/-! _law_text of any tree, _law_told, _law_bent -/
namespace K1
open PySem L2
def spTextG (K : PySem.W.Frag) : Sp := fun vs H Q _ => ∃ v its, vs = [v] ∧ (∀ x ∈ its, Dg 20 x) ∧ (textM its).length ≤ 1190 ∧ DQ K H v (.tuple (datL its)) ∧ ∀ H', Same H H' → Q (.str (sO (textM its))) H'
/-- the suite of a clause: return [word, e.told] -/
def tsTold2 (C : Addr) (word : Str) : SuiteT := fun a cls d => lenT 2 (tRet (tLst (tCons (tC (.str word)) (tCons (tXf a cls d C "told" (tVar 1)) tNil))))
def tellPost (K : PySem.W.Frag) (H : Hp) (Q : VK) (x : PyData) : Prop := ∀ H' u, Same H H' → DQ K H' u x → Q u H'
def toldPost (K : PySem.W.Frag) (H : Hp) (Q : VK) : Nat ⊕ Sc → Prop
  | .inl e => tellPost K H Q (.list [.str "wrong", .int e])
  | .inr S' => PlainOk S' ∧ tellPost K H Q (nestD S'.paths S'.heads)
def spTold (K : PySem.W.Frag) : Sp := fun vs H Q _ => ∃ v, vs = [v] ∧ srcPost K H v (tellPost K H Q (.list [.str "wrong", .int 0])) (fun _ r => toldPost K H Q r)
def signC : List (List Nat) := [[40], [41], [32], [43], [42], [61], [97], [48], [55], [63], [122, 122, 122, 122], [65], [10], [32, 61], [120, 49, 48]]
def signV : List V := [.str "(", .str ")", .str " ", .str "+", .str "*", .str "=", .str "a", .str "0", .str "7", .str "?", .str "zzzz", .str "A", .str "\n", .str " =", .str "x10"]
theorem signV_eq : signV = signC.map fun w => V.str (sO w) := by decide +kernel
/-- a text that is bent -/
def Bent (T T' : List Nat) : Prop := ∃ (p d : Nat) (s : List Nat), p ≤ T.length ∧ d ≤ 1 ∧ (s = [] ∨ s ∈ signC) ∧ T' = T.take p ++ s ++ T.drop (p + d)
def spBent : Sp := fun vs H Q _ => ∃ (p : Addr) (T : List Nat), vs = [.ref p, .str (sO T)] ∧ Src H p ∧ T.length ≤ 1190 ∧ ∀ H' T', Bt p H H' → Bent T T' → Q (.str (sO T')) H'
theorem Bent.ok {D : Int} {T T' : List Nat} (b : Bent T T') (h : okB D 0 T) : okB (D + 2) 0 T' ∧ T'.length ≤ T.length + 4 := by
  obtain ⟨p, d, s, hp, hd, hs, rfl⟩ := b
  have hs1 : (∀ k, k ≤ D → okB (D + 1) k s) ∧ sumB s ≤ 1 ∧ s.length ≤ 4 := by
    have flat : (∀ c ∈ s, c ≠ 40 ∧ c ≠ 41) → s.length ≤ 4 → (∀ k, k ≤ D → okB (D + 1) k s) ∧ sumB s ≤ 1 ∧ s.length ≤ 4 := fun h1 h2 => ⟨fun k hk => flat_ok h1 (by omega), by rw [flat_sum h1]; decide, h2⟩
    rcases hs with rfl | hs
    · exact flat (fun c hc => by cases hc) (by decide)
    · unfold signC at hs
      simp only [List.mem_cons, List.not_mem_nil, or_false] at hs
      rcases hs with rfl | rfl | rfl | rfl | rfl | rfl | rfl | rfl | rfl | rfl | rfl | rfl | rfl | rfl | rfl
      · exact ⟨fun k hk => ⟨by omega, by show k + 1 ≤ D + 1; omega⟩, by decide, by decide⟩
      · exact ⟨fun k hk => ⟨by omega, by show k + -1 ≤ D + 1; omega⟩, by decide, by decide⟩
      all_goals exact flat (by decide) (by decide)
  refine ⟨okB_bent h hs1.1 hs1.2.1 hd, ?_⟩
  rw [List.length_append, List.length_append, List.length_take, List.length_drop]
  have := hs1.2.2
  omega
theorem cut_pre {T : List Nat} {n : Nat} (h : n ≤ T.length) : cutS (sO T) none (some (n : Int)) = sO (T.take n) := by
  unfold cutS
  rw [HT.sIx_none, HT.sIx_nat, sO_len, Nat.min_eq_left h, Nat.sub_zero, List.drop_zero]
  rfl
theorem cut_suf {T : List Nat} {n : Nat} : cutS (sO T) (some (n : Int)) none = sO (T.drop n) := by
  unfold cutS
  rw [HT.sIx_none, HT.sIx_nat, sO_len]
  have e : (sO T).cps.toList = T := rfl
  rw [e]
  show (⟨(List.take (T.length - min n T.length) (List.drop (min n T.length) T)).toArray⟩ : Str) = ⟨(T.drop n).toArray⟩
  congr 2
  by_cases h : n ≤ T.length
  · rw [Nat.min_eq_left h, List.take_of_length_le (by rw [List.length_drop]; exact Nat.le_refl _)]
  · rw [Nat.min_eq_right (by omega), List.drop_eq_nil_of_le (Nat.le_refl _), List.drop_eq_nil_of_le (by omega)]
    exact List.take_nil
abbrev NTo : List Str := ["_law_text_here", "e"]
abbrev NBe : List Str := ["_law_pool_here", "_law_text_here", "_law_at", "_law_way", "_law_sign"]
section
variable {P : Program} {w : World} {K : PySem.W.Frag} {mg : Str → Option Value} {base : Heap}
theorem cl_textG (T : All K mg) : ClG P w K mg base 22 "_law_text" ["_law_program_here"] (spTextG K) := by
  obtain ⟨g, fd, D⟩ := T.dn 31 _ _ rfl
  have IH : ClG P w K mg base 21 "_law_word" ["_law_item_here"] (spWordG K 20) := cl_wordG T 20 (Nat.le_refl _)
  refine ⟨g, fd, okG D.fn sc_text (fun vs H Q E h => ?_) (fun cdv A outer s H vs Q E hgd hr h => ?_), D.mg, D.fn.kp, D.bn⟩
  · obtain ⟨v, its, rfl, _⟩ := h
    rfl
  · obtain ⟨v, its, rfl, hc, hl, hd, k⟩ := h
    have hgl : (gapped its).length ≤ 1191 := by
      have := seg_len true its
      have e : seg true its = textM its := rfl
      rw [e] at this
      omega
    have hBl : ∀ x ∈ its, x.word.length ≤ 1200 := fun x hx => Nat.le_trans (gapped_one hx) (by omega)
    have hll : its.length ≤ 600 := by
      have := gapped_two fun x hx => (hc x hx).gi
      omega
    refine ⟨_, (pss_one (ps_ret (pe_join pe_str (pe_lc (own := [("_law_item_here", 1)]) (g := gName 1) (tt := tYes) (te := (tCall (spWordG K 20) [] E0 (tCons (tVar 1) tNil))) rfl sc_text.nd (pi_tup (pv 0)) (blkOk_by (own := [("_law_item_here", 1)]) (N := ["_law_program_here", "_law_item_here"]) (sc := defScope (top 31)) (by decide +kernel)) (fun _ _ _ _ _ => (pg_name (i := 1) sc_text.nd rfl (Or.inl rfl))) (fun _ _ _ _ _ => pts_nil) (fun _ _ _ _ _ => (pe_clG IH hgd hr (by decide) (pa_cons (pv 1) pa_nil))))))), ?_⟩
    obtain ⟨ti, xs2, rfl, hT2, hD2⟩ : ∃ ti xs2, v = .ref ti ∧ SqT K H ti xs2 ∧ DQs K H xs2 (datL its) := by
      cases hd with
      | tup h1 h2 => exact ⟨_, _, rfl, h1, h2⟩
    have lx2 : xs2.length = its.length := by rw [hD2.len, datL_map, List.length_map]
    refine ⟨⟨_, rfl⟩, _, rfl, ti, rfl, ⟨_, hT2⟩, fun L nL => ?_⟩
    refine lc_funT2 (K := K) (a := ti) (xs := xs2) (j := 1) (fun i => V.str (sO ((its.getD i (.leaf [] [])).word))) nL hT2 (by omega) (fun _ => rfl) ?_ ?_
    · intro i y H' Q' hy s' q'
      have hlt := (List.getElem?_eq_some_iff.mp hy).1
      have el : its[i]? = some its[i] := List.getElem?_eq_getElem (by omega)
      obtain ⟨y', ey, dy⟩ := hD2.get (i := i) (d := its[i].dat) (by rw [datL_map, List.getElem?_map, el]; rfl)
      rw [hy] at ey
      cases ey
      refine ⟨_, rfl, y, its[i], rfl, hc _ (List.getElem_mem _), hBl _ (List.getElem_mem _), dy.to s', fun H'' s'' => ?_⟩
      have := q' H'' s''
      rw [List.getD_eq_getElem?_getD, el] at this
      exact this
    · intro H1 s1 hL
      rw [lx2, range_words] at hL
      have hsum := sum_words hBl
      have sum3 : its.length * 1200 ≤ 600 * 1200 := Nat.mul_le_mul_right _ hll
      refine ⟨_, L, its.map (fun x => sO x.word), rfl, rfl, .inl (SqL.of hL), ?_, ?_⟩
      · rw [List.length_map, blank, sO_len]
        show _ + its.length * 1 ≤ _
        omega
      · rw [blank, join_words]
        exact k H1 s1
theorem sc_told : FnScope NTo ["_law_text_here"] (defScope (top 34)) := ⟨rfl, rfl, rfl, by decide +kernel, rfl, by decide +kernel, by decide +kernel⟩
theorem cl_told {C B fI : Addr} (T : All K mg) (W : ScC K mg C) (R : Er K mg "BadText" B fI) (hzip : mg "zip" = none) : ClG P w K mg base 11 "_law_told" ["_law_text_here"] (spTold K) := by
  obtain ⟨g, fd, D⟩ := T.dn 34 _ _ rfl
  refine ⟨g, fd, okG D.fn sc_told (fun vs H Q E h => ?_) (fun cdv A outer s H vs Q E hgd hr h => ?_), D.mg, D.fn.kp, D.bn⟩
  · obtain ⟨v, rfl, _⟩ := h
    rfl
  · obtain ⟨v, rfl, hv⟩ := h
    refine ⟨_, pss_one (ps_try_each (X := (cxOf CX0 P w K mg base NTo "_law_told" (defScope (top 34)) g cdv A outer s H E).nox) (n := "e") (i := 1) rfl rfl sc_told.nd rfl rfl takes_none5 (fun W' pn xe tk _ => pss_one (ps_ret (pe_clX (cl_plain T W R hzip) hr tk (by decide) (pa_cons (pv 0) pa_nil))))
      (.cons (c := .ref B) (ts := tsTold2 B "wrong") ⟨(by rfl), (by decide), .inl R.mg⟩ (fun a oe cls d pn hz hf => pss_len (pss_one (ps_ret (pe_lst (pa_cons pe_str (pa_cons (pe_xf R.xf R.noN hz hf (pv 1)) pa_nil))))) rfl)
      .nil)), ?_⟩
    have suite : ∀ (C0 : Addr) (word : Str) (a dd : Addr) (v0 : V) (x : PyData) (σ' : St) (H' : Hp) (D' : Ends), D'.rt = Q → word.length ≤ 1000 → Same H H' → H' dd = some (.xd [("told", v0)]) → (∀ J, DQ K J v0 x) → tellPost K H Q (.list [.str word, x]) →
        tsTold2 C0 word a (.ref C0) (some dd) (gone 1 D') (σ'.set 1 (some (.ref a))) H' := by
      intro C0 word a dd v0 x σ' H' D' hD hw s1 hx dv ht hlen
      rw [List.length_set] at hlen
      have get : (σ'.set 1 (some (V.ref a)))[1]? = some (some (V.ref a)) := by
        rw [List.getElem?_set_self (by omega)]
      refine ⟨_, get, rfl, rfl, dd, _, v0, rfl, hx, by simp [List.lookup], (by show 2 ≤ sizeLine; rw [sizeLine_eq]; decide), fun p new => ?_⟩
      show D'.rt _ _
      rw [hD]
      have s2 := K0.same_upd (o := .lst [.str word, v0]) new
      exact ht _ _ (s1.trans s2) (.lst (SqL.of upd_same) (.cons (.str _ hw) (.cons (dv _) .nil)))
    refine ⟨_, rfl, v, rfl, ?_⟩
    rcases hv with ⟨hn, k⟩ | ⟨z, r, rfl, hz, hR, k⟩
    · refine .inl ⟨hn, fun H' dd s1 hx => ?_⟩
      exact ⟨true, R.te, fun _ a na => suite B "wrong" a dd _ _ _ H' _ rfl (by decide) s1 hx (fun _ => .int 0) k, fun z => Bool.noConfusion z⟩
    · refine .inr ⟨z, r, rfl, hz, hR, ?_⟩
      cases r with
      | inl e =>
        intro H' dd s1 hx
        exact ⟨true, R.te, fun _ a na => suite B "wrong" a dd _ _ _ H' _ rfl (by decide) s1 hx (fun _ => .int _) k, fun z => Bool.noConfusion z⟩
      | inr S' => exact ⟨k.1, fun H' u s1 du => k.2 H' u s1 du⟩
theorem sc_bent : FnScope NBe ["_law_pool_here", "_law_text_here"] (defScope (top 35)) := ⟨rfl, rfl, rfl, by decide +kernel, rfl, by decide +kernel, by decide +kernel⟩
theorem cl_bent (T : All K mg) (N : Nms mg) : Cl P w K mg base 3 "_law_bent" ["_law_pool_here", "_law_text_here"] spBent := by
  obtain ⟨g, fd, D⟩ := T.dn 35 _ _ rfl
  refine D.cl (D.fn.ok sc_bent (fun vs H Q E h => ?_) (fun cdv A outer s H vs Q E hr h => ?_))
  · obtain ⟨p, TT, rfl, _⟩ := h
    rfl
  · obtain ⟨p, TT, rfl, src, hl, k⟩ := h
    have hz : (sO TT).length ≤ 1190 := by rw [sO_len]; exact hl
    refine ⟨_, (pss_cons (ps_par (i := 2) (j := 3) rfl sc_bent.nd rfl rfl (by decide) rfl rfl (pa_cons (pe_cl (cl_takeB T N) hr (by decide) (pa_cons (pv 0) (pa_cons (pe_op op_add (pe_callB call_len_str (by rfl) T.bi.len PySem.boot_len (pa_cons (pv 1) pa_nil)) pe_int) pa_nil))) (pa_cons (pe_cl (cl_takeB T N) hr (by decide) (pa_cons (pv 0) (pa_cons pe_int pa_nil))) pa_nil)) (by rfl))
      (pss_cons (ps_set (i := 4) sc_bent.nd rfl (Or.inl rfl) (pe_cl (cl_one T N) hr (by decide) (pa_cons (pv 0) (pa_cons (pe_lst (pa_cons pe_str (pa_cons pe_str (pa_cons pe_str (pa_cons pe_str (pa_cons pe_str (pa_cons pe_str (pa_cons pe_str (pa_cons pe_str (pa_cons pe_str (pa_cons pe_str (pa_cons pe_str (pa_cons pe_str (pa_cons pe_str (pa_cons pe_str (pa_cons pe_str pa_nil)))))))))))))))) pa_nil))))
      (pss_one (ps_ret (pe_op op_add_str (pe_op op_add_str (pe_slice sl_str (pv 1) po_none (po_some (pv 2))) (pe_ifExp (pt_cmpR op_ne (pv 3) pe_int (nomark _)) (pv 4) pe_str)) (pe_slice sl_str (pv 1) (po_some (pe_op op_add (pv 2) (pe_callTy call_int1 (by rfl) N.int (by decide +kernel) (pa_cons (pe_cmpR op_gt (pv 3) pe_int (nomark _)) pa_nil)))) po_none)))))), ?_⟩
    refine ⟨_, rfl, _, rfl, sO TT, rfl, sizeL hz, _, _, rfl, rfl, p, _, rfl, src, by omega, by rw [sO_len]; omega, fun at_ H1 a0 a1 b1 => ?_⟩
    refine ⟨_, rfl, p, 3, rfl, b1.src, by decide, by decide, fun way H2 w0 w1 b2 => ?_⟩
    have b12 := b1.trans b2
    obtain ⟨n, rfl⟩ : ∃ n : Nat, at_ = (n : Int) := ⟨at_.toNat, by omega⟩
    rw [sO_len] at a1
    refine ⟨_, _, rfl, _, rfl, sizeL (m := 15) (by decide), fun l nl => ?_⟩
    have b3 := b12.new (o := .lst signV) nl
    have lp := Bt.ne b12.src nl
    refine ⟨p, l, signV, signC.map fun w => .str (sO w), rfl, b3.src, SqL.of (by rw [hid_ne lp]; exact upd_same), by rw [signV_eq]; exact strs_dqs _ (by decide), by decide, by decide, fun H4 u d hd b4 hq => ?_⟩
    obtain ⟨sg, hsg, rfl⟩ := List.mem_map.mp hd
    obtain rfl : u = .str (sO sg) := by cases hq; rfl
    have b34 := b3.trans b4
    have lsg : sg.length ≤ 4 := by
      have : ∀ x ∈ signC, x.length ≤ 4 := by decide
      exact this sg hsg
    have e0 : ("" : Str) = sO [] := by decide +kernel
    have done : ∀ (s : List Nat), (s = [] ∨ s ∈ signC) → s.length ≤ 4 → ∀ d : Nat, d ≤ 1 → Q (.str (sO (TT.take n) ++ sO s ++ sO (TT.drop (n + d)))) H4 := fun s hs _ d hd => by
      rw [sO_app, sO_app]
      exact k H4 _ b34 ⟨n, d, s, by omega, hd, hs, rfl⟩
    have size : ∀ (s : List Nat), s.length ≤ 4 → (sO (TT.take n)).length + (sO s).length ≤ sizeLine ∧ ∀ d, (sO (TT.take n) ++ sO s).length + (sO (TT.drop (n + d))).length ≤ sizeLine := fun s hs => by
      refine ⟨by rw [sO_len, sO_len, sizeLine_eq, List.length_take]; omega, fun d => by rw [sO_app, sO_len, sO_len, sizeLine_eq, List.length_append, List.length_take, List.length_drop]; omega⟩
    refine ⟨_, rfl, _, rfl, _, rfl, sO TT, rfl, sizeL hz, _, rfl, rfl, _, rfl, ?_⟩
    rw [cut_pre (by omega), dec_int]
    obtain ⟨d, hd1, ed⟩ : ∃ d : Nat, d ≤ 1 ∧ (n : Int) + (if decide (0 < way) = true then 1 else 0) = ((n + d : Nat) : Int) := by
      by_cases q : 0 < way
      · exact ⟨1, Nat.le_refl _, by rw [decide_eq_true q]; rfl⟩
      · exact ⟨0, Nat.zero_le _, by rw [decide_eq_false q]; show (n : Int) + 0 = _; omega⟩
    by_cases c1 : way = 1
    · rw [decide_eq_true c1]
      refine iteF ⟨_, _, rfl, rfl, ?_, ?_⟩
      · rw [e0]
        exact (size [] (by decide)).1
      refine ⟨_, rfl, _, rfl, _, rfl, _, _, rfl, rfl, .inr ⟨_, rfl, _, _, rfl, rfl, _, rfl, ?_⟩⟩
      rw [ed]
      refine ⟨sO TT, rfl, sizeL hz, _, _, rfl, rfl, ?_, ?_⟩
      · rw [cut_suf, e0]
        exact (size [] (by decide)).2 d
      · rw [cut_suf, e0]
        exact done [] (.inl rfl) (by decide) d hd1
    · rw [decide_eq_false c1]
      refine iteT ⟨_, rfl, _, _, rfl, rfl, (size sg lsg).1, ?_⟩
      refine ⟨_, rfl, _, rfl, _, rfl, _, _, rfl, rfl, .inr ⟨_, rfl, _, _, rfl, rfl, _, rfl, ?_⟩⟩
      rw [ed]
      refine ⟨sO TT, rfl, sizeL hz, _, _, rfl, rfl, ?_, ?_⟩
      · rw [cut_suf]
        exact (size sg lsg).2 d
      · rw [cut_suf]
        exact done sg (.inr hsg) lsg d hd1
end
end K1
set_option maxHeartbeats 8000000
/-! law -/
namespace K1
open PySem L2
theorem pe_clN {X : Cx} {k m : Nat} {x : Str} {ps : List Str} {sp : Sp} {e : Expr} {es : List Expr} {t : TA} {p pos : Pos} (C : ClX X.prog X.w X.K X.mg X.base k x ps sp) (hr : Room m X.A) (hk : k ≤ m) (ha : PA X (e :: es) t) (hg : Gl X x := by rfl) (hdb : (x == ("__debug__" : Str)) = false := by decide)
    (he : starEach (e :: es) X.env = (false, eval e X.env) :: starEach es X.env := by rfl) (hpl : (backTo pos (starEach es X.env)).any (·.1) = false := by rfl) : PE X (.Call (.Name x p) (e :: es) [] pos) (tCallS sp (fun _ => E0) t) := by
  obtain ⟨g, fd, F, hm, hk', hb⟩ := C
  exact pe_callS F (hr.mono hk) hg hm hk' hb (fun σ => passN) ha hdb he hpl
theorem LfK.g {h : List PyData} {w : List Nat} (k : LfK h w) : LfG h w := by
  cases k with
  | num m h => exact .num m h
  | lost => exact .lost
  | use w h =>
    unfold nameC at h
    simp only [List.mem_cons, List.not_mem_nil, or_false] at h
    rcases h with rfl | rfl | rfl | rfl | rfl | rfl | rfl <;> exact .use _ ⟨by decide, by decide, by decide⟩
theorem NdK.g {h : List PyData} {o : List Nat} {b : Bool} (k : NdK h o b) : NdG h o b := by
  cases k with
  | block => exact .block
  | sum => exact .sum
  | product => exact .product
  | let_ w h =>
    unfold nameC at h
    simp only [List.mem_cons, List.not_mem_nil, or_false] at h
    rcases h with rfl | rfl | rfl | rfl | rfl | rfl | rfl <;> exact .let_ _ ⟨by decide, by decide, by decide⟩
theorem Dg.mono {n : Nat} {x : It} (d : Dg n x) : ∀ {m : Nat}, n ≤ m → Dg m x := by
  induction d with
  | leaf k => intro m _; exact .leaf k
  | @node n h o b l k hc ih =>
    intro m hm
    cases m with
    | zero => omega
    | succ m => exact .node k fun y hy => ih y hy (by omega)
theorem Dr.dg {n : Nat} {x : It} (d : Dr n x) : Dg n x := by
  induction d with
  | leaf k => exact .leaf k.g
  | node k _ _ ih => exact .node k.g ih
/-- a text of the law's own, scanned -/
theorem scan_ok {its : List It} (h : ∀ x ∈ its, Dr 3 x) : ScanR (textM its) (.inr (endM its)) := by
  cases its with
  | nil => exact .inl ⟨rfl, rfl⟩
  | cons x r =>
    have g : ∀ y ∈ x :: r, Gd 3 y := fun y hy => (h y hy).gd
    obtain ⟨S1, m, h1, h2⟩ := runs_ok x r g
    refine .inr ⟨?_, .inr ⟨S1, m, h1, h2⟩⟩
    obtain ⟨c, t, e, _⟩ := (g x List.mem_cons_self).st
    unfold textM
    rw [gapped, e]
    simp
theorem end_zs (its : List It) : Zs [] its (endM its) := .top ⟨rowsL [] 0 0 its, (phL_paths its [] 0 0).symm, rfl⟩
theorem text_len {its : List It} (h : ∀ x ∈ its, Dr 3 x) (hl : its.length ≤ 4) : (textM its).length ≤ 1008 := by
  have h1 := gapped_len (B := 251) fun x hx => Nat.le_trans (h x hx).len (wB_le (Nat.le_refl _))
  have h2 : its.length * (251 + 1) ≤ 4 * 252 := Nat.mul_le_mul_right _ hl
  unfold textM
  rw [List.length_drop]
  omega
/-! data that is compared -/
theorem lay_all : ∀ {ds : List PyData}, (∀ d ∈ ds, d.canLay0 = true) → PyData.canLayAll0 ds = true
  | [], _ => by simp [PyData.canLayAll0]
  | d :: ds, h => by
    simp only [PyData.canLayAll0, Bool.and_eq_true]
    exact ⟨h d List.mem_cons_self, lay_all fun e he => h e (List.mem_cons_of_mem _ he)⟩
theorem ok_name {w : List Nat} (h : ∀ c ∈ w, c < 200) : (PyData.str (sO w)).canLay0 = true := by
  simp only [PyData.canLay0]
  show (w.toArray.all fun c => decide (c < 0x110000)) = true
  rw [List.all_toArray, List.all_eq_true]
  intro c hc
  have := h c hc
  exact decide_eq_true (by omega)
theorem ok_lit {x : Str} (h : PyData.strOk x = true) : (PyData.str x).canLay0 = true := by
  simp only [PyData.canLay0]
  exact h
theorem LfG.lay {h : List PyData} {w : List Nat} (k : LfG h w) : ∀ d ∈ h, d.canLay0 = true := by
  cases k with
  | num m hm =>
    intro d hd
    simp only [List.mem_cons, List.not_mem_nil, or_false] at hd
    rcases hd with rfl | rfl
    · exact ok_lit (by decide +kernel)
    · simp [PyData.canLay0]
  | lost => intro d hd; rw [List.mem_singleton.mp hd]; exact ok_lit (by decide +kernel)
  | use w hw =>
    intro d hd
    simp only [List.mem_cons, List.not_mem_nil, or_false] at hd
    rcases hd with rfl | rfl
    · exact ok_lit (by decide +kernel)
    · exact ok_name fun c hc => (hw.sm c hc).2
theorem NdG.lay {h : List PyData} {o : List Nat} {b : Bool} (k : NdG h o b) : ∀ d ∈ h, d.canLay0 = true := by
  cases k with
  | let_ w hw =>
    intro d hd
    simp only [List.mem_cons, List.not_mem_nil, or_false] at hd
    rcases hd with rfl | rfl
    · exact ok_lit (by decide +kernel)
    · exact ok_name fun c hc => (hw.sm c hc).2
  | block => intro d hd; rw [List.mem_singleton.mp hd]; exact ok_lit (by decide +kernel)
  | sum => intro d hd; rw [List.mem_singleton.mp hd]; exact ok_lit (by decide +kernel)
  | product => intro d hd; rw [List.mem_singleton.mp hd]; exact ok_lit (by decide +kernel)
theorem lay_tup {ds : List PyData} (h : ∀ d ∈ ds, d.canLay0 = true) : (PyData.tuple ds).canLay0 = true := by
  simp only [PyData.canLay0]
  exact lay_all h
theorem GI.lay {x : It} (g : GI x) : x.dat.canLay0 = true := by
  induction g with
  | @leaf h w k => rw [It.dat]; exact lay_tup k.lay
  | @node h o b l k hl ih =>
    rw [It.dat]
    refine lay_tup fun d hd => ?_
    rcases List.mem_append.mp hd with hd | hd
    · exact k.lay d hd
    · rw [List.mem_singleton.mp hd]
      refine lay_tup fun e he => ?_
      rw [datL_map] at he
      obtain ⟨y, hy, rfl⟩ := List.mem_map.mp he
      exact ih y hy
theorem shaped_mk {d : PyData} (h1 : d.canLay0 = true) (h2 : d.depth ≤ 64) : SeqAt.shaped d = true := by
  unfold SeqAt.shaped
  rw [h1, decide_eq_true h2]
  rfl
theorem prog_shaped {its : List It} (d : ∀ x ∈ its, Dg 20 x) : SeqAt.shaped (.tuple (datL its)) = true ∧ (PyData.tuple (datL its)).hasDict = false := by
  have ht : Sh3 (2 * 20 + 1 + 1) (.tuple (datL its)) := sh3_tup fun e he => by
    rw [datL_map] at he
    obtain ⟨y, hy, rfl⟩ := List.mem_map.mp he
    exact (d y hy).sh3
  refine ⟨shaped_mk (lay_tup fun e he => ?_) (by have := ht.dp; omega), ht.pu.1⟩
  rw [datL_map] at he
  obtain ⟨y, hy, rfl⟩ := List.mem_map.mp he
  exact (d y hy).gi.lay
theorem wrong_shaped (e : Int) : SeqAt.shaped (.list [.str "wrong", .int e]) = true ∧ (PyData.list [.str "wrong", .int e]).hasDict = false := ⟨shaped_mk (by
  have : PyData.strOk "wrong" = true := by decide +kernel
  simp [PyData.canLay0, PyData.canLayAll0, this]) (by show 1 ≤ 64; decide), rfl⟩
theorem list10 {σ : St} (h : σ.length = 10) : ∃ z0 z1 z2 z3 z4 z5 z6 z7 z8 z9, σ = [z0, z1, z2, z3, z4, z5, z6, z7, z8, z9] := by
  match σ, h with
  | [z0, z1, z2, z3, z4, z5, z6, z7, z8, z9], _ => exact ⟨_, _, _, _, _, _, _, _, _, _, rfl⟩
def tOdds (K : PySem.W.Frag) : TE := fun σ H Q => ∀ H' l t1 t2, Same H H' → H l = none → H' l = some (.lst [.non, .int 5, .ref t1, .ref t2]) → DQ K H' (.ref t1) (.tuple [.str "1"]) → DQ K H' (.ref t2) (.list [.str "1"]) → Q (.ref l) H'
abbrev NLaw : List Str := ["_law_script", "_law_k", "_law_pool_here", "_law_program_here", "_law_text_here", "_law_turn", "_law_bent_here", "_law_told_here", "_law_wrong_here", "_law_odd"]
def spLaw (K : PySem.W.Frag) : Sp := fun vs H Q _ => ∃ (a : Addr) (ns : List Int), vs = [.ref a] ∧ SqL K H a (ns.map V.int) ∧ ∀ H', Q (.bl true) H'
section
variable {P : Program} {w : World} {K : PySem.W.Frag} {mg : Str → Option Value} {base : Heap}
theorem sc_law : FnScope NLaw ["_law_script"] (defScope (top 36)) := ⟨rfl, rfl, rfl, by decide +kernel, rfl, by decide +kernel, by decide +kernel⟩
theorem cl_law {C B fI : Addr} (T : All K mg) (N : Nms mg) (W : ScC K mg C) (R : Er K mg "BadText" B fI) (hrange : mg "range" = none) (hmin : mg "min" = none) (hzip : mg "zip" = none) : ClG P w K mg base 23 "law" ["_law_script"] (spLaw K) := by
  obtain ⟨g, fd, D⟩ := T.dn 36 _ _ rfl
  have TOLD : ClG P w K mg base 11 "_law_told" ["_law_text_here"] (spTold K) := cl_told T W R hzip
  have TEXT : ClG P w K mg base 22 "_law_text" ["_law_program_here"] (spTextG K) := cl_textG T
  have ISTX : ClG P w K mg base 10 "is_text" ["value"] (spIsText K) := cl_istext T W R
  refine ⟨g, fd, okG D.fn sc_law (fun vs H Q E h => ?_) (fun cdv A outer s H vs Q E hgd hr h => ?_), D.mg, D.fn.kp, D.bn⟩
  · obtain ⟨a, ns, rfl, _⟩ := h
    rfl
  · obtain ⟨a, ns, rfl, ha, k⟩ := h
    refine ⟨_, (pss_cons (ps_for PassesOwn.never rfl (pi_range1 rfl hrange (pa_cons (pe_callB (call_max2 rfl) (by rfl) N.max (by decide +kernel) (pa_cons pe_int (pa_cons (pe_callB (call_min2 rfl) (by rfl) hmin (by decide +kernel) (pa_cons pe_int (pa_cons (pe_callB call_len_seq (by rfl) T.bi.len PySem.boot_len (pa_cons (pv 0) pa_nil)) pa_nil))) pa_nil))) pa_nil)) (pg_name (i := 1) sc_law.nd rfl (Or.inl rfl)) (pss_cons (ps_set (i := 2) sc_law.nd rfl (Or.inl rfl) (pe_cl (cl_pool T N) hr (by decide) (pa_cons (pv 0) (pa_cons (pv 1) pa_nil))))
      (pss_cons (ps_set (i := 3) sc_law.nd rfl (Or.inl rfl) (pe_cl (cl_program T N hrange) hr (by decide) (pa_cons (pv 2) (pa_cons (pe_lst (pa_cons pe_str (pa_cons pe_str (pa_cons pe_str (pa_cons pe_str (pa_cons pe_str (pa_cons pe_str (pa_cons pe_str pa_nil)))))))) pa_nil))))
      (pss_cons (ps_set (i := 4) sc_law.nd rfl (Or.inl rfl) (pe_clG TEXT hgd hr (by decide) (pa_cons (pv 3) pa_nil)))
      (pss_cons (ps_if (PW.pt (pw_or (pt_cmpR op_notN (pe_cl (cl_wrong T hrange) hr (by decide) (pa_cons (pv 4) pa_nil)) pe_non (nomark _)) (pw_or (pt_cmpR (op_neD hr.units) (pe_clN (cl_plain T W R hzip) hr (by decide) (pa_cons (pv 4) pa_nil)) (pv 3) (nomark _)) (pw_or1 (pt_cmpR op_notBl (pe_clG ISTX hgd hr (by decide) (pa_cons (pv 4) pa_nil)) pe_bl (nomark _)))))) (pss_one (ps_ret pe_bl)) pss_nil)
      (pss_cons (ps_for PassesOwn.never rfl (pi_range1 rfl hrange (pa_cons pe_int pa_nil)) (pg_name (i := 5) sc_law.nd rfl (Or.inl rfl)) (pss_cons (ps_set (i := 6) sc_law.nd rfl (Or.inl rfl) (pe_cl (cl_bent T N) hr (by decide) (pa_cons (pv 2) (pa_cons (pv 4) pa_nil))))
      (pss_cons (ps_if (pt_cmpR op_eq (pe_cl (cl_takeB T N) hr (by decide) (pa_cons (pv 2) (pa_cons pe_int pa_nil))) pe_int (nomark _)) (pss_one (ps_set (i := 6) sc_law.nd rfl (Or.inl rfl) (pe_cl (cl_bent T N) hr (by decide) (pa_cons (pv 2) (pa_cons (pv 6) pa_nil))))) pss_nil)
      (pss_cons (ps_par (i := 7) (j := 8) rfl sc_law.nd rfl rfl (by decide) rfl rfl (pa_cons (pe_clG TOLD hgd hr (by decide) (pa_cons (pv 6) pa_nil)) (pa_cons (pe_cl (cl_wrong T hrange) hr (by decide) (pa_cons (pv 6) pa_nil)) pa_nil)) (by rfl))
      (pss_cons (ps_if (pt_cmpR op_ne (pe_clG ISTX hgd hr (by decide) (pa_cons (pv 6) pa_nil)) (pe_cmpR op_isN (pv 8) pe_non (nomark _)) (nomark _)) (pss_one (ps_ret pe_bl)) pss_nil)
      (pss_cons (ps_if (PW.pt (pw_and (pt_cmpR op_notN (pv 8) pe_non (nomark _)) (pw_and1 (pt_cmpR (op_neD hr.units) (pv 7) (pe_lst (pa_cons pe_str (pa_cons (pv 8) pa_nil))) (nomark _))))) (pss_one (ps_ret pe_bl)) pss_nil)
      (pss_one (ps_if (PW.pt (pw_and (pt_cmpR op_isN (pv 8) pe_non (nomark _)) (pw_and1 (PW.pt (pw_or (pt_not (pt_val (pe_callB call_isiD (by rfl) T.bi.isi (by decide +kernel) (pa_cons (pv 7) (pa_cons (pe_bltn (v := .ty "tuple") (by rfl) T.bi.tuple (by decide +kernel) rfl) pa_nil))))) (pw_or1 (pt_cmpR op_ne (pe_clG TEXT hgd hr (by decide) (pa_cons (pv 7) pa_nil)) (pv 6) (nomark _)))))))) (pss_one (ps_ret pe_bl)) pss_nil))))))))
      (pss_one (ps_for PassesOwn.never rfl (pi_list (K0.pe_imp (t' := tOdds K) (pe_lst (pa_cons pe_non (pa_cons pe_int (pa_cons (pe_tup (pa_cons pe_str pa_nil)) (pa_cons (pe_lst (pa_cons pe_str pa_nil)) pa_nil))))) (fun σ H Q hh => ?_))) (pg_name (i := 9) sc_law.nd rfl (Or.inl rfl)) (pss_one (ps_if (PW.pt (pw_or (pt_cmpR op_notBl (pe_clG ISTX hgd hr (by decide) (pa_cons (pv 9) pa_nil)) pe_bl (nomark _)) (pw_or1 (pt_cmpR (op_neD hr.units) (pe_clG TOLD hgd hr (by decide) (pa_cons (pv 9) pa_nil)) (pe_lst (pa_cons pe_str (pa_cons pe_int pa_nil))) (nomark _))))) (pss_one (ps_ret pe_bl)) pss_nil))))))))))
      (pss_one (ps_ret pe_bl))), ?_⟩
    · refine ⟨sizeL (m := 1) (Nat.le_refl 1), fun t1 nt1 => ⟨sizeL (m := 1) (Nat.le_refl 1), fun t2 nt2 => ⟨sizeL (m := 4) (Nat.le_refl 4), fun l nl => ?_⟩⟩⟩
      have s1 := K0.same_upd (o := .tup [V.str "1"]) nt1
      have s2 := K0.same_upd (o := .lst [V.str "1"]) nt2
      have s3 := K0.same_upd (o := .lst [V.non, .int 5, .ref t1, .ref t2]) nl
      have g1 := s3 _ _ (s2 _ _ (@upd_same H t1 (.tup [V.str "1"])))
      have g2 := s3 _ _ (@upd_same (upd H t1 (.tup [V.str "1"])) t2 (.lst [V.str "1"]))
      refine hh _ l t1 t2 ((s1.trans s2).trans s3) ?_ upd_same (.tup (.inl (.inl g1)) (.cons (.str _ (by decide)) .nil)) (.lst (SqL.of g2) (.cons (.str _ (by decide)) .nil))
      cases e : H l with
      | none => rfl
      | some o =>
        rw [(s1.trans s2) _ _ e] at nl
        cases nl
    refine ⟨_, rfl, a, _, rfl, .inl ha, _, _, rfl, _, _, rfl, ?_⟩
    rw [List.length_map]
    generalize hm : (if (if (ns.length : Int) < 4 then (ns.length : Int) else 4) > 1 then (if (ns.length : Int) < 4 then (ns.length : Int) else 4) else 1) = m
    have hm3 : 1 ≤ m ∧ m ≤ 4 := by
      rw [← hm]
      split <;> split at * <;> omega
    refine ⟨_, rfl, by omega, by omega, ?_⟩
    refine for_range (lo := 0) (n := m.toNat) (fun i σ J => σ.length = 10 ∧ σ[0]? = some (some (V.ref a)) ∧ SqL K J a (ns.map V.int)) ⟨rfl, rfl, ha⟩ ?_ ?_
    · rintro i σ J hi ⟨l10, t0, haJ⟩
      obtain ⟨z0, z1, z2, z3, z4, z5, z6, z7, z8, z9, rfl⟩ := list10 l10
      obtain rfl : z0 = some (V.ref a) := Option.some.inj t0
      refine ⟨_, rfl, _, rfl, a, ns, i, by rw [Int.zero_add]; rfl, by omega, haJ, fun p A0 B0 np b0 b1 => ?_⟩
      have S1 := K0.same_upd (o := .lst [.int A0, .int B0]) np
      have src : Src (upd J p (.lst [.int A0, .int B0])) p := ⟨A0, B0, upd_same, b0, b1⟩
      have haS : SqL K (hid p (upd J p (.lst [.int A0, .int B0]))) a (ns.map V.int) := Same.seq (fun b u e => by
        rw [hid_ne (ne_of_none e np), upd_ne (ne_of_none e np)]
        exact e) haJ
      generalize upd J p (.lst [.int A0, .int B0]) = J1 at S1 src haS ⊢
      refine ⟨_, rfl, sizeL (m := 7) (by decide), fun l nl => ?_⟩
      have bl : Bt p J1 (upd J1 l (.lst nameV)) := (Bt.refl src).new nl
      refine ⟨p, l, rfl, bl.src, ⟨upd_same, fun e => by
        obtain ⟨_, _, e2, _⟩ := src
        rw [← e, nl] at e2
        cases e2⟩, fun J2 u its b2 hl hc hd => ?_⟩
      have b12 := bl.trans b2
      have dg3 : ∀ x ∈ its, Dg 3 x := fun x hx => (hc x hx).dg
      have dg20 : ∀ x ∈ its, Dg 20 x := fun x hx => (dg3 x hx).mono (by decide)
      have gi : ∀ x ∈ its, GI x := fun x hx => (dg3 x hx).gi
      have ltx := text_len hc hl
      have hR := scan_ok hc
      have hw := (scan_law hR).1
      obtain ⟨pok, en⟩ := zs_plain (end_zs its) gi (by omega) dg20
      have hok3 : okB ((3 : Nat) : Int) 0 (textM its) := (text_dg gi).mpr dg3
      have hdp := hd.to (hid_same p J2)
      obtain ⟨shp, ndp⟩ := prog_shaped dg20
      refine ⟨_, rfl, u, its, rfl, dg20, by omega, hdp, fun J3 s3 => ?_⟩
      have b13 := b12.grow s3
      generalize textM its = TT at *
      have lz : (sO TT).length ≤ 2000 := by rw [sO_len]; omega
      have hRz : ScanR (sO TT).cps.toList (.inr (endM its)) := hR
      -- a text of the law's own
      refine ⟨_, rfl, TT, rfl, by omega, fun J4 s4 => ?_⟩
      rw [hw]
      refine ⟨rfl, _, rfl, ?_⟩
      refine iteF ⟨_, rfl, .str (sO TT), rfl, .inr ⟨sO TT, .inr (endM its), rfl, lz, hRz, pok, fun J5 u5 s5 du5 => ?_⟩⟩
      rw [en] at du5
      refine ⟨_, rfl, _, _, DQ.dp _ _ ndp du5, DQ.dp _ _ ndp (hdp.to ((s3.trans s4).trans s5)), shp, shp, _, rfl, ?_⟩
      rw [K0.eqv_shaped shp, Bool.not_true]
      refine iteF ⟨_, rfl, .str (sO TT), rfl, .inr ⟨sO TT, .inr (endM its), rfl, lz, hRz, fun J6 s6 => ?_⟩⟩
      refine ⟨_, _, rfl, rfl, _, rfl, iteF ?_⟩
      have b16 := b13.grow ((s4.trans s5).trans s6)
      have haS6 := Same.seq b16.same haS
      refine ⟨_, rfl, by decide, by decide, ?_⟩
      refine for_range (lo := 0) (n := _) (fun j σ J => (∃ y5 y6 y7 y8 y9, σ = [some (.ref a), some (.int (0 + (i : Int))), some (.ref p), some u, some (.str (sO TT)), y5, y6, y7, y8, y9]) ∧ Bt p J1 J) ⟨⟨_, _, _, _, _, rfl⟩, b16⟩ ?_ ?_
      · rintro j σ J7 hj ⟨⟨y5, y6, y7, y8, y9, rfl⟩, b17⟩
        refine ⟨_, rfl, _, rfl, p, TT, rfl, b17.src, by omega, fun J8 T1 b8 ben1 => ?_⟩
        obtain ⟨ok1, len1⟩ := ben1.ok hok3
        have b18 := b17.trans b8
        refine ⟨_, rfl, p, 2, rfl, b18.src, by decide, by decide, fun way J9 w0 w1 b9 => ⟨rfl, _, rfl, ?_⟩⟩
        have b19 := b18.trans b9
        rw [dec_int]
        by_cases cw : way = 0
        · rw [decide_eq_true cw]
          refine iteT ⟨_, rfl, _, rfl, p, T1, rfl, b19.src, by omega, fun J10 T2 b10 ben2 => ?_⟩
          obtain ⟨hok0, len2⟩ := ben2.ok ok1
          have b20 := b19.trans b10
          have hok : okB 7 0 T2 := hok0
          have lTB : T2.length ≤ 1100 := by omega
          generalize T2 = TB at *
          generalize J10 = JB at *
          obtain ⟨r, hR⟩ := scan_exist TB
          obtain ⟨hw, htree⟩ := scan_law hR
          have hRz : ScanR (sO TB).cps.toList r := hR
          have lz : (sO TB).length ≤ 2000 := by rw [sO_len]; omega
          refine ⟨_, rfl, .str (sO TB), rfl, .inr ⟨sO TB, r, rfl, lz, hRz, ?_⟩⟩
          cases r with
          | inl e =>
            intro JA u1 t1 du1
            refine ⟨_, rfl, TB, rfl, by omega, fun JC t2 => ⟨_, _, rfl, ?_⟩⟩
            rw [hw]
            refine ⟨_, rfl, .str (sO TB), rfl, .inr ⟨sO TB, .inl e, rfl, lz, hRz, fun JD t3 => ⟨_, rfl, rfl, rfl, _, rfl, ?_⟩⟩⟩
            refine iteF ⟨_, rfl, rfl, _, rfl, ?_⟩
            refine iteT ⟨_, rfl, _, rfl, sizeL (m := 2) (Nat.le_refl 2), fun lq nlq => ?_⟩
            have s10 := K0.same_upd (o := .lst [.str "wrong", .int (e : Int)]) nlq
            obtain ⟨sh, nd⟩ := wrong_shaped (e : Int)
            refine ⟨_, _, DQ.dp _ _ nd (du1.to ((t2.trans t3).trans s10)), DQ.dp _ _ nd (.lst (SqL.of upd_same) (.cons (.str _ (by decide)) (.cons (.int _) .nil))), sh, sh, _, rfl, ?_⟩
            rw [K0.eqv_shaped sh, Bool.not_true]
            refine iteF ⟨_, rfl, rfl, _, rfl, ?_⟩
            exact iteF (iteF ⟨⟨_, _, _, _, _, rfl⟩, b20.grow (((t1.trans t2).trans t3).trans s10)⟩)
          | inr S' =>
            obtain ⟨its', tx, gi, dg, pok, en⟩ := tree_plain (htree S' rfl) (by omega) (okB_more (D := 7) (j := 13) hok (by omega))
            refine ⟨pok, fun JA u1 t1 du1 => ?_⟩
            rw [en] at du1
            refine ⟨_, rfl, TB, rfl, by omega, fun JC t2 => ⟨_, _, rfl, ?_⟩⟩
            rw [hw]
            refine ⟨_, rfl, .str (sO TB), rfl, .inr ⟨sO TB, .inr S', rfl, lz, hRz, fun JD t3 => ⟨_, rfl, rfl, rfl, _, rfl, ?_⟩⟩⟩
            refine iteF ⟨_, rfl, rfl, _, rfl, iteF (iteF ⟨_, rfl, rfl, _, rfl, iteT ⟨_, rfl, u1, .tuple (datL its'), "tuple", true, rfl, du1.to (t2.trans t3), kit_tup _, ?_⟩⟩)⟩
            refine ⟨_, rfl, iteF ⟨_, rfl, u1, its', rfl, dg, by rw [tx]; omega, du1.to (t2.trans t3), fun JE t4 => ⟨_, rfl, rfl, _, rfl, ?_⟩⟩⟩
            rw [tx, decide_eq_true rfl]
            exact iteF ⟨⟨_, _, _, _, _, rfl⟩, b20.grow (((t1.trans t2).trans t3).trans t4)⟩

        · rw [decide_eq_false cw]
          have hok : okB 7 0 T1 := okB_more (D := 5) (j := 2) ok1 (by omega)
          have lTB : T1.length ≤ 1100 := by omega
          have b20 := b19
          refine iteF ?_
          clear ben1 len1 ok1
          generalize T1 = TB at *
          generalize J9 = JB at *
          obtain ⟨r, hR⟩ := scan_exist TB
          obtain ⟨hw, htree⟩ := scan_law hR
          have hRz : ScanR (sO TB).cps.toList r := hR
          have lz : (sO TB).length ≤ 2000 := by rw [sO_len]; omega
          refine ⟨_, rfl, .str (sO TB), rfl, .inr ⟨sO TB, r, rfl, lz, hRz, ?_⟩⟩
          cases r with
          | inl e =>
            intro JA u1 t1 du1
            refine ⟨_, rfl, TB, rfl, by omega, fun JC t2 => ⟨_, _, rfl, ?_⟩⟩
            rw [hw]
            refine ⟨_, rfl, .str (sO TB), rfl, .inr ⟨sO TB, .inl e, rfl, lz, hRz, fun JD t3 => ⟨_, rfl, rfl, rfl, _, rfl, ?_⟩⟩⟩
            refine iteF ⟨_, rfl, rfl, _, rfl, ?_⟩
            refine iteT ⟨_, rfl, _, rfl, sizeL (m := 2) (Nat.le_refl 2), fun lq nlq => ?_⟩
            have s10 := K0.same_upd (o := .lst [.str "wrong", .int (e : Int)]) nlq
            obtain ⟨sh, nd⟩ := wrong_shaped (e : Int)
            refine ⟨_, _, DQ.dp _ _ nd (du1.to ((t2.trans t3).trans s10)), DQ.dp _ _ nd (.lst (SqL.of upd_same) (.cons (.str _ (by decide)) (.cons (.int _) .nil))), sh, sh, _, rfl, ?_⟩
            rw [K0.eqv_shaped sh, Bool.not_true]
            refine iteF ⟨_, rfl, rfl, _, rfl, ?_⟩
            exact iteF (iteF ⟨⟨_, _, _, _, _, rfl⟩, b20.grow (((t1.trans t2).trans t3).trans s10)⟩)
          | inr S' =>
            obtain ⟨its', tx, gi, dg, pok, en⟩ := tree_plain (htree S' rfl) (by omega) (okB_more (D := 7) (j := 13) hok (by omega))
            refine ⟨pok, fun JA u1 t1 du1 => ?_⟩
            rw [en] at du1
            refine ⟨_, rfl, TB, rfl, by omega, fun JC t2 => ⟨_, _, rfl, ?_⟩⟩
            rw [hw]
            refine ⟨_, rfl, .str (sO TB), rfl, .inr ⟨sO TB, .inr S', rfl, lz, hRz, fun JD t3 => ⟨_, rfl, rfl, rfl, _, rfl, ?_⟩⟩⟩
            refine iteF ⟨_, rfl, rfl, _, rfl, iteF (iteF ⟨_, rfl, rfl, _, rfl, iteT ⟨_, rfl, u1, .tuple (datL its'), "tuple", true, rfl, du1.to (t2.trans t3), kit_tup _, ?_⟩⟩)⟩
            refine ⟨_, rfl, iteF ⟨_, rfl, u1, its', rfl, dg, by rw [tx]; omega, du1.to (t2.trans t3), fun JE t4 => ⟨_, rfl, rfl, _, rfl, ?_⟩⟩⟩
            rw [tx, decide_eq_true rfl]
            exact iteF ⟨⟨_, _, _, _, _, rfl⟩, b20.grow (((t1.trans t2).trans t3).trans t4)⟩

      · rintro σ J7 ⟨⟨y5, y6, y7, y8, y9, rfl⟩, b17⟩
        refine fun J8 l t1 t2 s8 nl8 hl8 q1 q2 => ⟨l, rfl, ⟨_, SqL.of hl8⟩, ?_⟩
        refine for_list (K := K) (a := l) (xs := [V.non, .int 5, .ref t1, .ref t2]) (fun m σ J => (∃ y9, σ = [some (.ref a), some (.int (0 + (i : Int))), some (.ref p), some u, some (.str (sO TT)), y5, y6, y7, y8, y9]) ∧ Same J8 J) ⟨⟨_, rfl⟩, Same.refl _⟩ (fun m σ J _ ⟨_, s⟩ => SqL.of (s _ _ hl8)) ?_ ?_
        · rintro m x σ J hx ⟨⟨y9, rfl⟩, s9⟩
          obtain ⟨d, hd9, hk9⟩ : ∃ d, DQ K J8 x d ∧ kitB (tyD d) "str" = some false := by
            have := List.mem_of_getElem? hx
            simp only [List.mem_cons, List.not_mem_nil, or_false] at this
            rcases this with rfl | rfl | rfl | rfl
            · exact ⟨_, .non, kit_str _⟩
            · exact ⟨_, .int 5, kit_str _⟩
            · exact ⟨_, q1, kit_str _⟩
            · exact ⟨_, q2, kit_str _⟩
          obtain ⟨sh, nd⟩ := wrong_shaped 0
          refine ⟨_, rfl, x, rfl, .inl ⟨⟨d, hd9.to s9, hk9⟩, fun J9 s10 => ⟨_, _, rfl, rfl, _, rfl, ?_⟩⟩⟩
          refine iteF ⟨_, rfl, x, rfl, .inl ⟨⟨d, hd9.to (s9.trans s10), hk9⟩, fun J10 ut s11 dut => ?_⟩⟩
          refine ⟨sizeL (m := 2) (Nat.le_refl 2), fun l2 nl2 => ?_⟩
          have s12 := K0.same_upd (o := .lst [.str "wrong", .int 0]) nl2
          refine ⟨_, _, DQ.dp _ _ nd (dut.to s12), DQ.dp _ _ nd (.lst (SqL.of upd_same) (.cons (.str _ (by decide)) (.cons (.int _) .nil))), sh, sh, _, rfl, ?_⟩
          rw [K0.eqv_shaped sh, Bool.not_true]
          exact iteF ⟨⟨_, rfl⟩, ((s9.trans s10).trans s11).trans s12⟩
        · rintro σ J ⟨⟨y9, rfl⟩, s9⟩
          exact ⟨rfl, rfl, (hid_same p _).seq (Same.seq (b17.grow (s8.trans s9)).same haS)⟩
    · rintro σ J ⟨l10, t0, haJ⟩
      exact k _
end
end K1
set_option maxHeartbeats 4000000
/-! the head's facts -/
namespace K1
open PySem L2
theorem dn_mk {K : PySem.W.Frag} {mg : Str → Option Value} {h : Heap} {x : Str} {ps : List Str} {st : Stmt} {g : Addr} {oc : Value} {od an : Option Addr} {osl : Array (Option Value)} {kV doc pm cdv ct : Value} (X : K.In h) (G : h.Ns mainGlobals mg) (a : PySem.W.nsIn K mainGlobals x = some (some (.ref g)))
    (l : K.lookup g = some ⟨oc, od, .func (PySem.W.fnOf x x (defArgs st) (defBody st) (defScope st) .none kV doc pm an cdv ct), osl⟩) (cc : PySem.W.codeIn K cdv x = true) (k : PySem.W.keepIn K (.ref g) = true)
    (b : ∀ (kV doc pm : Value) (an : Option Addr) (cdv ct : Value) (us : List Value), us.length = ps.length → bindArgs (PySem.W.fnOf x x (defArgs st) (defBody st) (defScope st) .none kV doc pm an cdv ct) ⟨us, []⟩ = pure (ps.zip us)) :
    ∃ g fd, Dn K mg x ps st g fd := by
  have F := fun_mk (st := st) l cc k
  exact ⟨_, _, F, F.binds b, PySem.W.mg_of X G a⟩
theorem dn_nil {K : PySem.W.Frag} {mg : Str → Option Value} : ∀ i x ps, ([] : List (Nat × Str × List Str)).lookup i = some (x, ps) → ∃ g fd, Dn K mg x ps (top i) g fd := fun _ _ _ e => by cases e
theorem dn_cons {K : PySem.W.Frag} {mg : Str → Option Value} {i : Nat} {x : Str} {ps : List Str} {r : List (Nat × Str × List Str)} (d : ∃ g fd, Dn K mg x ps (top i) g fd) (h : ∀ i x ps, r.lookup i = some (x, ps) → ∃ g fd, Dn K mg x ps (top i) g fd) :
    ∀ j y qs, ((i, x, ps) :: r).lookup j = some (y, qs) → ∃ g fd, Dn K mg y qs (top j) g fd := fun j y qs e => by
  rw [List.lookup_cons] at e
  cases q : j == i with
  | true =>
    rw [q] at e
    cases e
    rw [eq_of_beq q]
    exact d
  | false =>
    rw [q] at e
    exact h j y qs e
/-- a class's facts, all but its own object -/
def erB (K : PySem.W.Frag) (C fI : Addr) : Bool :=
  decide (PySem.W.findIn K (.ref C) "__setattr__" = some (some (.builtin "object.__setattr__"))) && (decide (PySem.W.subIn K (.ref C) (.type "BaseException") = some true) && (decide (PySem.W.typeIn K (.ref C) = some (.type "type")) && (PySem.W.keepIn K (.ref C) &&
  (xfB K C && (decide (PySem.W.findIn K (.ref C) "told" = some none) && (decide (PySem.W.findIn K (.ref C) "__init__" = some (some (.ref fI))) && (decide (PySem.W.typeIn K (.ref fI) = some (.type "function")) && decide (PySem.W.exmOne K (.ref C) (.ref C) = some true))))))))
theorem er_mk {K : PySem.W.Frag} {mg : Str → Option Value} {h : Heap} {x : Str} {C fI : Addr} {nm q : Str} {N : Addr} {bs bm : List Value} {sn : List Str} {sub : List Value} {ab : Bool} {col : Option Bool} {dd : Option Addr} {k0 k1 k2 k3 k5 : Option Value} (X : K.In h) (G : h.Ns mainGlobals mg)
    (a : PySem.W.nsIn K mainGlobals x = some (some (.ref C)))
    (l : K.lookup C = some (excClassObj nm q C N bs bm true sn sub ab col dd k0 k1 k2 k3 k5 "ValueError.__new__")) (r : PySem.HandSPX.refsVE bm = true) (b : erB K C fI = true) (ini : ∃ fd, Fun K "__init__" "ScopeError.__init__" s_init fI fd ∧ Binds K fd ["self", "told"] []) : Er K mg x C fI := by
  unfold erB at b
  simp only [Bool.and_eq_true, decide_eq_true_eq] at b
  obtain ⟨h1, h2, h3, h4, h5, h6, h7, h8, h9⟩ := b
  exact ⟨PySem.W.mg_of X G a, ⟨⟨nm, q, N, bs, bm, sn, sub, ab, col, dd, k0, k1, k2, k3, k5, l, r⟩, h1, h2, h3, h4⟩, xfB_ok h5, h6, h7, h8, h9, ini⟩
theorem mf_mk {K : PySem.W.Frag} {x q : Str} {st : Stmt} {ps : List Str} {f : Addr} {oc : Value} {od an : Option Addr} {osl : Array (Option Value)} {kV doc pm cdv ct : Value}
    (l : K.lookup f = some ⟨oc, od, .func (PySem.W.fnOf x q (defArgs st) (defBody st) (defScope st) .none kV doc pm an cdv ct), osl⟩) (cc : PySem.W.codeIn K cdv q = true) (k : PySem.W.keepIn K (.ref f) = true)
    (b : ∀ (kV doc pm : Value) (an : Option Addr) (cdv ct : Value) (us : List Value), us.length = ps.length → bindArgs (PySem.W.fnOf x q (defArgs st) (defBody st) (defScope st) .none kV doc pm an cdv ct) ⟨us, []⟩ = pure (ps.zip us)) :
    ∃ fd, Fun K x q st f fd ∧ Binds K fd ps [] := by
  have F := fun_mk (st := st) l cc k
  exact ⟨_, F, F.binds b⟩
theorem sqt_four {K : PySem.W.Frag} {a : Addr} {x y z v : Str} {t u t' u' : Tok} {d : Option Addr} {n : Nat} {sl : Array (Option Value)} (l : K.lookup a = some ⟨.type "tuple", d, .seq #[.str x t, .str y u, .str z t', .str v u'] n, sl⟩) : ∀ H, SqT K H a [.str x, .str y, .str z, .str v] :=
  fun H => .inr ⟨_, _, _, l, rfl, rfl, (by show 4 ≤ sizeLine; rw [sizeLine_eq]; decide), .cons ⟨t, rfl⟩ (.cons ⟨u, rfl⟩ (.cons ⟨t', rfl⟩ (.cons ⟨u', rfl⟩ .nil)))⟩

/-- the built-in names that the text does not name anew -/
def namesB (K : PySem.W.Frag) : Bool := [("isinstance" : Str), "int", "bool", "str", "tuple", "len", "all", "max", "min", "list", "range", "zip"].all fun x => decide (PySem.W.nsIn K mainGlobals x = some none)
theorem names_of {K : PySem.W.Frag} {h : Heap} {mg : Str → Option Value} (X : K.In h) (G : h.Ns mainGlobals mg) (hb : namesB K = true) : Bi mg ∧ Nms mg ∧ mg "range" = none ∧ mg "min" = none ∧ mg "zip" = none ∧ mg "list" = none := by
  unfold namesB at hb
  simp only [Bool.and_eq_true, List.all_cons, List.all_nil, decide_eq_true_eq] at hb
  obtain ⟨e1, e2, e3, e4, e5, e6, e7, e8, e9, e10, e11, e12, _⟩ := hb
  have n : ∀ {x : Str}, PySem.W.nsIn K mainGlobals x = some none → mg x = none := fun e => PySem.W.mg_none_of X G e
  exact ⟨⟨n e1, n e2, n e3, n e4, n e5, n e6, n e7⟩, ⟨n e6, n e8, n e2⟩, n e11, n e9, n e12, n e10⟩
theorem cn_mk {K : PySem.W.Frag} {h : Heap} {mg : Str → Option Value} {t1 t2 t3 t4 : Tok} {a : Addr} (X : K.In h) (G : h.Ns mainGlobals mg) (ho : PySem.W.nsIn K mainGlobals "_HOLDERS" = some (some (.ref a)))
    (sh : ∀ H, SqT K H a [.str "block", .str "let", .str "sum", .str "product"]) (le : PySem.W.nsIn K mainGlobals "_LETTERS" = some (some (.str "abcdefghijklmnopqrstuvwxyz" t1))) (fi : PySem.W.nsIn K mainGlobals "_FIGURES" = some (some (.str "0123456789" t2)))
    (ff : PySem.W.nsIn K mainGlobals "_FIRST_FIGURES" = some (some (.str "123456789" t3))) (mo : PySem.W.nsIn K mainGlobals "_MOST_LETTERS" = some (some (.int 4 t4))) : Cn K mg :=
  ⟨⟨a, PySem.W.mg_of X G ho, sh⟩, ⟨_, PySem.W.mg_of X G le⟩, ⟨_, PySem.W.mg_of X G fi⟩, ⟨_, PySem.W.mg_of X G ff⟩, ⟨_, PySem.W.mg_of X G mo⟩⟩
/-- Scan as the top has made it, all that is told by a look -/
def scB (K : PySem.W.Frag) (C fI f1 f2 f3 f4 : Addr) : Bool :=
  (PySem.W.plainGet K C Str.empty && (PySem.W.hasDictIn K C && (PySem.W.plainOver K C && decide (PySem.W.findIn K (.ref C) "__setattr__" = some (some (.builtin "object.__setattr__")))))) &&
  (([("paths" : Str), "heads", "firsts", "behinds", "_text", "_at", "_around", "_counts"].all fun x => decide (PySem.W.findIn K (.ref C) x = some none)) &&
  ((PySem.W.makesIn K C && (decide (PySem.W.findIn K (.ref C) "__init__" = some (some (.ref fI))) && (PySem.W.isFn K (.ref fI) && PySem.W.keepIn K (.ref C)))) &&
  ([(("_run" : Str), f1), ("_is_in_new_block", f2), ("_begin", f3), ("_close", f4)].all fun p => decide (PySem.W.findIn K (.ref C) p.1 = some (some (.ref p.2))) && (PySem.W.isFn K (.ref p.2) && PySem.W.keepIn K (.ref p.2)))))
theorem sc_mk {K : PySem.W.Frag} {mg : Str → Option Value} {h : Heap} {C fI f1 f2 f3 f4 : Addr} (X : K.In h) (G : h.Ns mainGlobals mg) (a : PySem.W.nsIn K mainGlobals "Scan" = some (some (.ref C))) (b : scB K C fI f1 f2 f3 f4 = true)
    (m0 : ∃ fd, Fun K "__init__" "Scan.__init__" (inClass (top 16) 0) fI fd ∧ Binds K fd ["self", "text"] []) (m1 : ∃ fd, Fun K "_run" "Scan._run" (inClass (top 16) 1) f1 fd ∧ Binds K fd ["self"] [])
    (m2 : ∃ fd, Fun K "_is_in_new_block" "Scan._is_in_new_block" (inClass (top 16) 2) f2 fd ∧ Binds K fd ["self"] []) (m3 : ∃ fd, Fun K "_begin" "Scan._begin" (inClass (top 16) 3) f3 fd ∧ Binds K fd ["self"] [])
    (m4 : ∃ fd, Fun K "_close" "Scan._close" (inClass (top 16) 4) f4 fd ∧ Binds K fd ["self"] []) : ScC K mg C := by
  unfold scB at b
  simp only [Bool.and_eq_true, decide_eq_true_eq, List.all_cons, List.all_nil] at b
  obtain ⟨⟨a1, a2, a3, a4⟩, ⟨n1, n2, n3, n4, n5, n6, n7, n8, _⟩, ⟨k1, k2, k3, k4⟩, ⟨r1, r2, r3⟩, ⟨i1, i2, i3⟩, ⟨g1, g2, g3⟩, ⟨c1, c2, c3⟩, _⟩ := b
  obtain ⟨x0, F0, B0⟩ := m0
  obtain ⟨x1, F1, B1⟩ := m1
  obtain ⟨x2, F2, B2⟩ := m2
  obtain ⟨x3, F3, B3⟩ := m3
  obtain ⟨x4, F4, B4⟩ := m4
  exact { cl := ⟨a1, a2, a3, a4⟩, mg := PySem.W.mg_of X G a, n1 := n1, n2 := n2, n3 := n3, n4 := n4, nT := n5, nA := n6, n5 := n7, n6 := n8, ini := ⟨_, _, F0, B0, ⟨k1, k2, k3, k4⟩⟩, run := ⟨_, _, F1, B1, ⟨r1, r2, r3⟩⟩, isn := ⟨_, _, F2, B2, ⟨i1, i2, i3⟩⟩, beg := ⟨_, _, F3, B3, ⟨g1, g2, g3⟩⟩, clo := ⟨_, _, F4, B4, ⟨c1, c2, c3⟩⟩ }
/-- the law, at its call -/
theorem good_all {P : Program} {w : World} {K : PySem.W.Frag} {h : Heap} {mg : Str → Option Value} {fa C B fI : Addr} (X : K.In h) (G : h.Ns mainGlobals mg) (hfa : mg "law" = some (.ref fa)) (nb : namesB K = true) (cn : Cn K mg)
    (dn : ∀ i x ps, tabL.lookup i = some (x, ps) → ∃ g fd, Dn K mg x ps (top i) g fd) (W : ScC K mg C) (R : Er K mg "BadText" B fI) : GoodAt P w K mg fa 63 := by
  intro base s H a ns hl e0 hO hS
  obtain ⟨b1, b2, b3, b4, b5, b6⟩ := names_of X G nb
  have T : All K mg := ⟨dn, b1, cn⟩
  obtain ⟨g, fd, F, hm, hk, hb⟩ := cl_law (P := P) (w := w) (base := base) T b2 W R b3 b4 b5
  have eq := hfa.symm.trans hm
  cases eq
  have hb' := hb s [.ref a] (fun b o e => (e0.bs b o (e0.mod.kin b o e)).1) rfl
  exact F.run callerA [] s H ⟨[.ref a], []⟩ [.ref a] [.ref a] _ _ rfl ⟨rfl, by decide, by decide⟩ e0 hb' (.cons rfl .nil) ⟨a, ns, rfl, hS, fun H' => rfl⟩
end K1
open PySem PySem.W PyProof.Rows
set_option maxRecDepth 100000 in
set_option maxHeartbeats 0 in
theorem PySem.Challenge.cw_sharedscopes_k67_whole_plain_programs_of_holds : PySem.Challenge.rw_sharedscopes_k67_whole_plain_programs_of.Holds := by
  w_on; o_law; k_head; (case hw => w_witness2)
  k_fill
  refine L2.walk_at (n := 63) rfl (by decide) rfl (fun w h Y => PySem.W.kIn_of Y) ?F
  case F =>
    intro w mg fa h KX G hmg
    refine' K1.good_all (C := 127) (B := 44) (fI := 28) KX G hmg ?nb ?cn ?dn ?W ?R
    (case nb => kernel_rfl)
    case cn =>
      refine' K1.cn_mk KX G ?ho ?sh ?hle ?fi ?ff ?mo
      (case ho => k_is)
      (case sh => refine' K1.sqt_four ?l; (case l => k_is))
      (case hle => k_is)
      (case fi => k_is)
      (case ff => k_is)
      (case mo => k_is)
    case W =>
      refine' K1.sc_mk (C := 127) (fI := 96) (f1 := 103) (f2 := 110) (f3 := 117) (f4 := 124) KX G ?a ?b ?m0 ?m1 ?m2 ?m3 ?m4
      (case a => k_is)
      (case b => kernel_rfl)
      case m0 =>
        refine' K1.mf_mk ?l ?c ?k ?b
        (case l => k_is)
        (case c => k_is)
        (case k => k_is)
        (case b => exact fun _ _ _ _ _ _ us hl => match us, hl with | [_, _], _ => rfl)
      case m1 =>
        refine' K1.mf_mk ?l ?c ?k ?b
        (case l => k_is)
        (case c => k_is)
        (case k => k_is)
        (case b => exact fun _ _ _ _ _ _ us hl => match us, hl with | [_], _ => rfl)
      case m2 =>
        refine' K1.mf_mk ?l ?c ?k ?b
        (case l => k_is)
        (case c => k_is)
        (case k => k_is)
        (case b => exact fun _ _ _ _ _ _ us hl => match us, hl with | [_], _ => rfl)
      case m3 =>
        refine' K1.mf_mk ?l ?c ?k ?b
        (case l => k_is)
        (case c => k_is)
        (case k => k_is)
        (case b => exact fun _ _ _ _ _ _ us hl => match us, hl with | [_], _ => rfl)
      case m4 =>
        refine' K1.mf_mk ?l ?c ?k ?b
        (case l => k_is)
        (case c => k_is)
        (case k => k_is)
        (case b => exact fun _ _ _ _ _ _ us hl => match us, hl with | [_], _ => rfl)
    case R =>
      refine' K1.er_mk KX G ?a ?l ?r ?b ?ini
      (case a => k_is)
      (case l => k_is)
      (case r => kernel_rfl)
      (case b => kernel_rfl)
      case ini =>
        refine' K1.mf_mk ?l ?c ?k ?b
        (case l => k_is)
        (case c => k_is)
        (case k => k_is)
        (case b => exact fun _ _ _ _ _ _ us hl => match us, hl with | [_, _], _ => rfl)
    case dn =>
      refine' K1.dn_cons ?d ?r
      case d =>
        refine' K1.dn_mk KX G ?a ?l ?c ?k ?b
        (case a => k_is); (case l => k_is); (case c => k_is); (case k => k_is); (case b => exact fun _ _ _ _ _ _ us hl => match us, hl with | [_], _ => rfl)
      case r =>
       refine' K1.dn_cons ?d ?r
       case d =>
         refine' K1.dn_mk KX G ?a ?l ?c ?k ?b
         (case a => k_is); (case l => k_is); (case c => k_is); (case k => k_is); (case b => exact fun _ _ _ _ _ _ us hl => match us, hl with | [_, _], _ => rfl)
       case r =>
        refine' K1.dn_cons ?d ?r
        case d =>
          refine' K1.dn_mk KX G ?a ?l ?c ?k ?b
          (case a => k_is); (case l => k_is); (case c => k_is); (case k => k_is); (case b => exact fun _ _ _ _ _ _ us hl => match us, hl with | [_, _], _ => rfl)
        case r =>
         refine' K1.dn_cons ?d ?r
         case d =>
           refine' K1.dn_mk KX G ?a ?l ?c ?k ?b
           (case a => k_is); (case l => k_is); (case c => k_is); (case k => k_is); (case b => exact fun _ _ _ _ _ _ us hl => match us, hl with | [_, _], _ => rfl)
         case r =>
          refine' K1.dn_cons ?d ?r
          case d =>
            refine' K1.dn_mk KX G ?a ?l ?c ?k ?b
            (case a => k_is); (case l => k_is); (case c => k_is); (case k => k_is); (case b => exact fun _ _ _ _ _ _ us hl => match us, hl with | [_, _, _], _ => rfl)
          case r =>
           refine' K1.dn_cons ?d ?r
           case d =>
             refine' K1.dn_mk KX G ?a ?l ?c ?k ?b
             (case a => k_is); (case l => k_is); (case c => k_is); (case k => k_is); (case b => exact fun _ _ _ _ _ _ us hl => match us, hl with | [_, _], _ => rfl)
           case r =>
            refine' K1.dn_cons ?d ?r
            case d =>
              refine' K1.dn_mk KX G ?a ?l ?c ?k ?b
              (case a => k_is); (case l => k_is); (case c => k_is); (case k => k_is); (case b => exact fun _ _ _ _ _ _ us hl => match us, hl with | [_], _ => rfl)
            case r =>
             refine' K1.dn_cons ?d ?r
             case d =>
               refine' K1.dn_mk KX G ?a ?l ?c ?k ?b
               (case a => k_is); (case l => k_is); (case c => k_is); (case k => k_is); (case b => exact fun _ _ _ _ _ _ us hl => match us, hl with | [_, _], _ => rfl)
             case r =>
              refine' K1.dn_cons ?d ?r
              case d =>
                refine' K1.dn_mk KX G ?a ?l ?c ?k ?b
                (case a => k_is); (case l => k_is); (case c => k_is); (case k => k_is); (case b => exact fun _ _ _ _ _ _ us hl => match us, hl with | [_, _], _ => rfl)
              case r =>
               refine' K1.dn_cons ?d ?r
               case d =>
                 refine' K1.dn_mk KX G ?a ?l ?c ?k ?b
                 (case a => k_is); (case l => k_is); (case c => k_is); (case k => k_is); (case b => exact fun _ _ _ _ _ _ us hl => match us, hl with | [_], _ => rfl)
               case r =>
                refine' K1.dn_cons ?d ?r
                case d =>
                  refine' K1.dn_mk KX G ?a ?l ?c ?k ?b
                  (case a => k_is); (case l => k_is); (case c => k_is); (case k => k_is); (case b => exact fun _ _ _ _ _ _ us hl => match us, hl with | [_], _ => rfl)
                case r =>
                 refine' K1.dn_cons ?d ?r
                 case d =>
                   refine' K1.dn_mk KX G ?a ?l ?c ?k ?b
                   (case a => k_is); (case l => k_is); (case c => k_is); (case k => k_is); (case b => exact fun _ _ _ _ _ _ us hl => match us, hl with | [_, _], _ => rfl)
                 case r =>
                  refine' K1.dn_cons ?d ?r
                  case d =>
                    refine' K1.dn_mk KX G ?a ?l ?c ?k ?b
                    (case a => k_is); (case l => k_is); (case c => k_is); (case k => k_is); (case b => exact fun _ _ _ _ _ _ us hl => match us, hl with | [_, _], _ => rfl)
                  case r =>
                   refine' K1.dn_cons ?d ?r
                   case d =>
                     refine' K1.dn_mk KX G ?a ?l ?c ?k ?b
                     (case a => k_is); (case l => k_is); (case c => k_is); (case k => k_is); (case b => exact fun _ _ _ _ _ _ us hl => match us, hl with | [_, _], _ => rfl)
                   case r =>
                    refine' K1.dn_cons ?d ?r
                    case d =>
                      refine' K1.dn_mk KX G ?a ?l ?c ?k ?b
                      (case a => k_is); (case l => k_is); (case c => k_is); (case k => k_is); (case b => exact fun _ _ _ _ _ _ us hl => match us, hl with | [_, _, _], _ => rfl)
                    case r =>
                     refine' K1.dn_cons ?d ?r
                     case d =>
                       refine' K1.dn_mk KX G ?a ?l ?c ?k ?b
                       (case a => k_is); (case l => k_is); (case c => k_is); (case k => k_is); (case b => exact fun _ _ _ _ _ _ us hl => match us, hl with | [_, _], _ => rfl)
                     case r =>
                      refine' K1.dn_cons ?d ?r
                      case d =>
                        refine' K1.dn_mk KX G ?a ?l ?c ?k ?b
                        (case a => k_is); (case l => k_is); (case c => k_is); (case k => k_is); (case b => exact fun _ _ _ _ _ _ us hl => match us, hl with | [_], _ => rfl)
                      case r =>
                       refine' K1.dn_cons ?d ?r
                       case d =>
                         refine' K1.dn_mk KX G ?a ?l ?c ?k ?b
                         (case a => k_is); (case l => k_is); (case c => k_is); (case k => k_is); (case b => exact fun _ _ _ _ _ _ us hl => match us, hl with | [_], _ => rfl)
                       case r =>
                        refine' K1.dn_cons ?d ?r
                        case d =>
                          refine' K1.dn_mk KX G ?a ?l ?c ?k ?b
                          (case a => k_is); (case l => k_is); (case c => k_is); (case k => k_is); (case b => exact fun _ _ _ _ _ _ us hl => match us, hl with | [_, _], _ => rfl)
                        case r =>
                         refine' K1.dn_cons ?d ?r
                         case d =>
                           refine' K1.dn_mk KX G ?a ?l ?c ?k ?b
                           (case a => k_is); (case l => k_is); (case c => k_is); (case k => k_is); (case b => exact fun _ _ _ _ _ _ us hl => match us, hl with | [_], _ => rfl)
                         case r =>
                          refine' K1.dn_cons ?d ?r
                          case d =>
                            refine' K1.dn_mk KX G ?a ?l ?c ?k ?b
                            (case a => k_is); (case l => k_is); (case c => k_is); (case k => k_is); (case b => exact fun _ _ _ _ _ _ us hl => match us, hl with | [_], _ => rfl)
                          case r =>
                           refine' K1.dn_cons ?d ?r
                           case d =>
                             refine' K1.dn_mk KX G ?a ?l ?c ?k ?b
                             (case a => k_is); (case l => k_is); (case c => k_is); (case k => k_is); (case b => exact fun _ _ _ _ _ _ us hl => match us, hl with | [_, _], _ => rfl)
                           case r =>
                            refine' K1.dn_cons ?d ?r
                            case d =>
                              refine' K1.dn_mk KX G ?a ?l ?c ?k ?b
                              (case a => k_is); (case l => k_is); (case c => k_is); (case k => k_is); (case b => exact fun _ _ _ _ _ _ us hl => match us, hl with | [_], _ => rfl)
                            case r =>
                             exact K1.dn_nil
