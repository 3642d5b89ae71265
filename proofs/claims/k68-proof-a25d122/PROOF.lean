import PyProof.Rows.All
import Wide.All
import OpenK.AllK
import Wide.FinOn
import KE.KExcInit
import HandS.Base
import HandS.Call
import HandS.List
import HandS.Ends
import HandS.Exc
import HandS.ForMost
import HandS.ExcInit
import HandS.ExcIs
import HandS.IsInst
import KE.KExcIs
import HandS.Walk
import HandS.Wide
import HandS.TryMany
import HandS.ExcField
import HandS.WordsExc
import PyProof.NeKinds
import PyProof.NeData
import HandS.Steps
import HandS.Lambda
import HandS.TupSets
import HandS.SetBool
import HandS.TupAny
import PyProof.FitsInt
import HandS.Conv
import HandS.Zip
import KE.GoesEnum
import HandS.SetKeys
import KE.SortCalls
import KE.LtData
import KE.SortData
import HandS.DictComp
import HandS.DictTup
import HandS.OwnEq
import KE.KDictPairs
import KE.KDictSum
import KE.KDictKeyed
import HandS.TupLen
import HandS.EndTab
import KE.DataCmp
import KE.DatumOrd
import PyProof.InstNe
import KE.KDictIter
import KE.KDictZip
import KE.SortKeyHeap
import KE.KLam
import HandS.Style
import HandS.Star
import HandS.Text
import HandS.StrMore
import HandS.RaiseMore
import KE.GoesZip
import HandS.Comp
import HandS.Iter
import PySem.Challenge.RW_sharedscopes_k68_spans_and_items_of_text
set_option Elab.async false
set_option linter.all false
set_option maxRecDepth 100000
set_option maxHeartbeats 8000000
set_option maxHeartbeats 4000000
/-! a law's def at the caller itself -/
namespace L2
open PySem PySem.Spec PyProof.Rows
/-- a def's body, run at the caller -/
theorem run_at {CX : CXT} {P : Program} {w : World} {K : PySem.W.Frag} {mg : Str → Option Value} {base : Heap} {k : Nat} {A : Around} {outer : List Env} {f : Addr} {name qual : Str} {params : Arguments} {body : List Stmt} {scope : Scope} {dV kV doc pm cdv ct oc : Value} {an od : Option Addr}
    {osl : Array (Option Value)} {N ps : List Str} {s : Shared} {H : Hp} {args : Args} {us : List Value} {vs : List V} {Q : VK} {E : XK} (lk : K.lookup f = some ⟨oc, od, .func (PySem.W.fnOf name qual params body scope dV kV doc pm an cdv ct), osl⟩) (hcd : PySem.W.codeIn K cdv qual = true) (S : FnScope N ps scope)
    (hl : vs.length = ps.length) (hr : Room (k + 1) A) (e0 : Env0 P w K mg base A outer s H) (hb : BindsTo s (PySem.W.fnOf name qual params body scope dV kV doc pm an cdv ct) args (ps.zip us)) (r : Vals vs us)
    (hbody : ∃ t, PSs (cxOf CX P w K mg base N qual scope f cdv A outer s H E) body t ∧ t { nx := fun _ H' => Q .non H', rt := Q } (start N vs) H) :
    codeAny (model P w) A (.call (.ref f) args) (CR CX outer P w H s Q E) s := by
  have KX : K.In s.heap := e0.mod.kin.keeps fun b o e => (e0.bs b o e).1
  have lim : s.heap.NoLimit := e0.mod.nolimit.keeps fun b o e => (e0.bs b o e).1
  have hkind : ∀ y ∈ ps.zip us, scope.names.lookup y.1 = some .local ∨ (scope.names.lookup y.1 = some .cell ∧ ((cellsFrom (s.heap.objs.size + 1) scope.names []).lookup y.1).isSome = true) := fun y hy => by
    have hm : y.1 ∈ ps := (List.of_mem_zip (show (y.1, y.2) ∈ ps.zip us from hy)).1
    exact (S.par y.1 hm).imp id fun q => ⟨q, PySem.W.cellsFrom_some _ _ _ (.inl q)⟩
  refine codeAny_call_function hr.depth (KX _ _ lk) rfl S.co S.gen rfl (PySem.W.codeRec_of KX hcd) (hb _ _ _ _ ?_)
  refine wpAny_newFunctionEnv_cells S.kind hkind fun env he s1 x => ?_
  subst he
  refine ⟨lim.keeps x.toInCall.keep, codeAny_func ?_⟩
  obtain ⟨t, ht, hq⟩ := hbody
  have I := inv_start (CX := CX) (E := E) S hr.hd e0 hl r x
  refine wpAny_mono (ht.run [] s1 (start N vs) H _ I hq) (fun fl s' hs => ?_) fun e s' hs => hs
  cases fl with
  | ret u =>
    obtain ⟨v, σ', H', J, rv, q⟩ := hs
    exact ⟨v, H', J.os, J.bare, J.base, J.hok, rv, q⟩
  | next =>
    obtain ⟨σ', H', J, q⟩ := hs
    exact ⟨V.non, H', J.os, J.bare, J.base, J.hok, rfl, q⟩
  | brk =>
    obtain ⟨_, _, _, q⟩ := hs
    exact False.elim q
  | cont =>
    obtain ⟨_, _, _, q⟩ := hs
    exact False.elim q

/-- what is asked of a law's def: at the caller, wherever the script stands, it gives True -/
def GoodAt (P : Program) (w : World) (K : PySem.W.Frag) (mg : Str → Option Value) (fa : Addr) (n : Nat) : Prop :=
  ∀ (base : Heap) (s : Shared) (H : Hp) (a : Addr) (ns : List Int), ns.length ≤ n → Env0 P w K mg base callerA [] s H → Only H → SqL K H a (ns.map V.int) →
    codeAny (model P w) callerA (.call (.ref fa) ⟨[.ref a], []⟩) (CR CX0 [] P w H s (fun v _ => v = .bl true) E0) s

theorem good_call {P : Program} {w : World} {K : PySem.W.Frag} {mg mb : Str → Option Value} {n : Nat} {fa a : Addr} {s₁ : Shared} {vs : List Value} {ns : List Int}
    (KX : K.In s₁.heap) (hns : s₁.heap.Ns mainGlobals mg) (hb : s₁.heap.Ns builtinsNs mb) (hbb : ∀ x : Str, x ≠ "__name__" → mb x = bootBuiltins x) (hlim : s₁.heap.NoLimit) (hg : s₁.gens = #[])
    (ha : s₁.heap.get? a = some { cls := .type "list", data := .seq vs.toArray }) (hi : IntsAre vs ns) (hl : ns.length ≤ n) (hn : n ≤ sizeLine) (F : GoodAt P w K mg fa n) :
    codeAny (model P w) callerA (.call (.ref fa) ⟨[.ref a], []⟩) (fun r s' => r = .ok (.ret (.bool true)) ∧ OldK s₁.heap s'.heap ∧ s'.os = s₁.os ∧ AllBare s'.gens) s₁ := by
  have rv := vals_ints hi
  have lenV := hi.length
  have hls : ns.length ≤ sizeLine := Nat.le_trans hl hn
  have main : ∀ H : Hp, Only H → SqL K H a (ns.map V.int) → HOk P w H s₁.heap → (∀ b, H b ≠ none → b = a) → (H a ≠ none → K.lookup a = none) →
      codeAny (model P w) callerA (.call (.ref fa) ⟨[.ref a], []⟩) (fun r s' => r = .ok (.ret (.bool true)) ∧ OldK s₁.heap s'.heap ∧ s'.os = s₁.os ∧ AllBare s'.gens) s₁ := by
    intro H hO hS hok hA hK
    have isA : ∀ {b : Addr} {u : HO}, H b = some u → b = a := fun {b u} q => hA b (by rw [q]; exact fun z => nomatch z)
    have free : ∀ {b : Addr}, b ≠ a → H b = none := fun {b} hb => by
      cases q : H b with
      | none => rfl
      | some u => exact absurd (isA q) hb
    have nsK : ∀ {b : Addr} {m : Str → Option Value}, s₁.heap.Ns b m → (hidT s₁.heap H).Ns b m := fun {b m} ⟨o, es, ep, e, d, r⟩ => ⟨o, es, ep, hidT_get e (free fun z => by
      rw [z, ha] at e
      cases e
      cases d), d, r⟩
    have hKb : K.In (hidT s₁.heap H) := fun b o e => hidT_get (KX b o e) (by
      cases q : H b with
      | none => rfl
      | some u =>
        have z := isA q
        subst z
        have z2 := hK (by rw [q]; exact fun z => nomatch z)
        rw [e] at z2
        cases z2)
    obtain ⟨mc, l1, l2⟩ := hlim
    have e0 : Env0 P w K mg (hidT s₁.heap H) callerA [] s₁ H :=
      ⟨rfl, ⟨hKb, nsK hns, ⟨mb, nsK hb, hbb⟩, ⟨mc, nsK l1, l2⟩⟩, fun b o e => of_hidT e, Nat.le_of_eq (hidT_size _ _), trivial, fun b hb => absurd hb List.not_mem_nil, hok, .of_eq hg⟩
    refine codeAny_mono (F _ s₁ H a ns hl e0 hO hS) fun r s' h => ?_
    cases r with
    | error e => exact False.elim h
    | ok fl =>
      cases fl with
      | next => exact False.elim h
      | brk => exact False.elim h
      | cont => exact False.elim h
      | ret u =>
        obtain ⟨v, H', os, bare, un, hok', r', q⟩ := h
        have q' : v = .bl true := q
        subst q'
        obtain rfl : u = Value.bool true := r'
        refine ⟨rfl, OldK.of_keep fun b o e => ?_, os, bare⟩
        cases q : H b with
        | none => exact un.keep b o e q List.not_mem_nil List.not_mem_nil
        | some u =>
          rcases hO b with z | ⟨ob, xs, z⟩
          · rw [q] at z
            cases z
          · obtain ⟨e1, _⟩ := hok b _ z
            obtain ⟨e2, _⟩ := hok' b _ (un.frzs b ob _ z)
            rw [e] at e1
            cases e1
            exact e2
  cases hk : K.lookup a with
  | some o =>
    have e := KX a o hk
    rw [ha] at e
    cases e
    exact main (fun _ => none) (fun _ => .inl rfl) (.inr ⟨_, vs.toArray, _, hk, rfl, rfl, rfl, by rw [List.size_toArray, lenV]; exact hls, by simpa using rv⟩) (fun b u z => nomatch z) (fun b z => absurd rfl z) fun z => absurd rfl z
  | none =>
    let o : Obj := { cls := .type "list", data := .seq vs.toArray }
    have at_a : ∀ b, (if b = a then some (HO.frz o (.lst (ns.map V.int))) else none) = none ∨ b = a := fun b => by
      by_cases hb : b = a
      · exact .inr hb
      · exact .inl (if_neg hb)
    refine main (fun b => if b = a then some (.frz o (.lst (ns.map V.int))) else none) (fun b => ?_) (.inl (.inr ⟨o, if_pos rfl⟩)) (fun b u z => ?_) (fun b z => ?_) fun _ => hk
    · exact (at_a b).imp id fun hb => ⟨_, _, if_pos hb⟩
    · rcases at_a b with q | hb
      · rw [show (fun b => if b = a then some (HO.frz o (.lst (ns.map V.int))) else none) b = none from q] at z
        cases z
      · rw [show (fun b => if b = a then some (HO.frz o (.lst (ns.map V.int))) else none) b = some (.frz o (.lst (ns.map V.int))) from if_pos hb] at z
        cases z
        subst hb
        exact ⟨ha, by rw [List.length_map]; exact hls, vs, _, rv, ha⟩
    · exact (at_a b).resolve_left z

/-- the goal that k_head leaves, from GoodAt -/
theorem walk_at {l : PySem.W.OpenLaw} {n : Nat} {q : Program} {loose : List Str} {XP : (Str → Option Value) → Heap → Prop} {YP : World → Heap → Prop} {d : DefRec} {K : Params → PySem.W.Frag}
    (hn : l.most = some n) (hn2 : n ≤ sizeLine) (hdf : d.params.defaults = []) (hY : ∀ (w : World) (h : Heap), YP w h → (K w.params).In h)
    (F : ∀ (w : World) (mg : Str → Option Value) (fa : Addr) (h : Heap), (K w.params).In h → h.Ns mainGlobals mg → mg d.name = some (.ref fa) → GoodAt l.prog w (K w.params) mg fa n) :
    PySem.W.WalkO q loose XP YP l.row.toRowW d [] (fun f vs => PySem.call f vs) := by
  refine Att.attach_call hn hdf fun w s₀ s₁ mg mb fa o pm cd doc a vs ns G Y ho hd hcd hmg hobj hints hlen hg => ?_
  have KX := hY w _ Y
  exact good_call KX G.T.g G.T.b G.T.builtins G.T.nolimit hg hobj hints hlen hn2 (F w mg fa _ KX G.T.g hmg)
end L2
namespace K0
open PySem L2
theorem b01 (c : Bool) : (-2 ^ 64 < (if c = true then 1 else 0 : Int)) ∧ (if c = true then 1 else 0 : Int) < 2 ^ 64 := by cases c <;> decide
theorem fmod_nn (a : Int) {b : Int} (h : 0 < b) : 0 ≤ a.fmod b := by
  rw [Int.fmod_eq_emod_of_nonneg a (by omega)]
  exact Int.emod_nonneg a (by omega)
theorem fmod_lt (a : Int) {b : Int} (h : 0 < b) : a.fmod b < b := by
  rw [Int.fmod_eq_emod_of_nonneg a (by omega)]
  exact Int.emod_lt_of_pos a h
theorem paired_append {α β : Type} {F : α → β → Prop} {l2 : List α} {m2 : List β} (k : Paired F l2 m2) : ∀ {l1 : List α} {m1 : List β}, Paired F l1 m1 → Paired F (l1 ++ l2) (m1 ++ m2)
  | _, _, .nil => k
  | _, _, .cons r t => .cons r (paired_append k t)
theorem same_upd {H : Hp} {a : Addr} {o : HO} (n : H a = none) : Same H (upd H a o) := fun b u e => by
  rw [upd_ne (ne_of_none e n)]
  exact e
theorem pa_imp {X : Cx} {es : List Expr} {t t' : TA} (h : PA X es t) (k : ∀ σ H Q, t' σ H Q → t σ H Q) : PA X es t' := ⟨fun pos pins s σ H Q I q => h.run pos pins s σ H Q I (k σ H Q q)⟩
theorem pe_imp {X : Cx} {e : Expr} {t t' : TE} (h : PE X e t) (k : ∀ σ H Q, t' σ H Q → t σ H Q) : PE X e t' := ⟨fun pins s σ H Q I q => h.run pins s σ H Q I (k σ H Q q)⟩
theorem seqT_same {K : PySem.W.Frag} {H H' : Hp} {a : Addr} {xs : List V} (e : Same H H') (h : SqT K H a xs) : SqT K H' a xs := by
  rcases h with (h | ⟨o, h⟩) | h
  · exact .inl (.inl (e _ _ h))
  · exact .inl (.inr ⟨o, e _ _ h⟩)
  · exact .inr h
mutual
theorem dp_same {K : PySem.W.Frag} {H H' : Hp} (s : Same H H') : ∀ (d : PyData) (v : V), Dp K H v d → Dp K H' v d
  | .none, _, h => by
    cases h
    exact .non
  | .bool b, _, h => by
    cases h
    exact .bl b
  | .int i, _, h => by
    cases h
    exact .int i
  | .str x, _, h => by
    cases h
    exact .str x
  | .list ds, _, h => by
    cases h with
    | lst h1 h2 => exact .lst (s.seq h1) (dpAll_same s ds _ h2)
  | .tuple ds, _, h => by
    cases h with
    | tup h1 h2 => exact .tup (seqT_same s h1) (dpAll_same s ds _ h2)
  | .dict _, _, h => by cases h
theorem dpAll_same {K : PySem.W.Frag} {H H' : Hp} (s : Same H H') : ∀ (ds : List PyData) (vs : List V), DpAll K H vs ds → DpAll K H' vs ds
  | [], _, h => by
    cases h
    exact .nil
  | d :: ds, _, h => by
    cases h with
    | cons h1 h2 => exact .cons (dp_same s d _ h1) (dpAll_same s ds _ h2)
end
theorem eqv_shaped {d : PyData} (h : SeqAt.shaped d = true) : PyData.eqv d d = true := SeqAt.eqv_refl d (SeqAt.canLay_of_shaped h)
theorem same_over {H H' : Hp} {d : Addr} {o : HO} (s : Same H H') (n : H d = none) : Same H (upd H' d o) := fun b u e => by
  rw [upd_ne (ne_of_none e n)]
  exact s b u e
/-- a comprehension over a list that stands still: the i-th item is f i -/
theorem lc_fun {K : PySem.W.Frag} {a : Addr} {xs : List V} {te : TE} {j : Nat} {σ : St} {H1 : Hp} {D : Addr} {Qd : Hp → Prop} (f : Nat → V) (nD : H1 D = none) (ha : SqL K H1 a xs) (hz : xs.length ≤ 1000) (hw : ∀ x, wipe ((wipe σ [j]).set j (some x)) [j] = wipe σ [j])
    (he : ∀ i x H' Q, xs[i]? = some x → Same H1 H' → Q (f i) H' → te ((wipe σ [j]).set j (some x)) H' Q) (hd : ∀ H', Same H1 H' → H' D = some (.lst ((List.range xs.length).map f)) → Qd H') :
    ∃ W : Nat → Nat → Hp → Prop, (∃ m, W 0 m (upd H1 D (.lst []))) ∧ ∀ i m H, W i m H →
      ((Itl K a).stop i H ∧ Qd H) ∨ ((Itl K a).go i H ∧ ∃ Nx : Hp → Prop, (∀ H', Nx H' → ∃ m', m' < m ∧ W (i + 1) m' H') ∧ ∀ x H', (Itl K a).yld i H x H' → (gName j) x (wipe σ [j]) H' fun σ2 H2 => wipe σ2 [j] = wipe σ [j] ∧ tYes σ2 H2 fun b H3 =>
        if b = true then te σ2 H3 fun y H4 => ∃ acc, H4 D = some (.lst acc) ∧ acc.length < sizeLine ∧ Nx (upd H4 D (.lst (acc ++ [y]))) else Nx H3) := by
  refine lc_list (K := K) (a := a) (xs := xs) (fun i H' => i ≤ xs.length ∧ Same H1 H' ∧ H' D = some (.lst ((List.range i).map f))) ⟨Nat.zero_le _, same_upd nD, upd_same⟩ (fun i H' _ ⟨_, s, _⟩ => s.seq ha) ?_ (fun H' ⟨_, s, h⟩ => hd H' s h)
  intro i x H' hi ⟨hle, s, h⟩
  have hlt := (List.getElem?_eq_some_iff.mp hi).1
  refine ⟨hw x, ?_⟩
  unfold tYes
  dsimp only
  rw [if_pos rfl]
  refine he i x H' _ hi s ⟨_, h, ?_, hlt, same_over s nD, ?_⟩
  · rw [List.length_map, List.length_range, sizeLine_eq]
    omega
  · rw [upd_same, List.range_succ, List.map_append]
    rfl
/-- .. over a range -/
theorem lc_funR {n : Nat} {te : TE} {j : Nat} {σ : St} {H1 : Hp} {D : Addr} {Qd : Hp → Prop} (f : Nat → V) (nD : H1 D = none) (hz : n ≤ 1000) (hw : ∀ x, wipe ((wipe σ [j]).set j (some x)) [j] = wipe σ [j])
    (he : ∀ i H' Q, i < n → Same H1 H' → Q (f i) H' → te ((wipe σ [j]).set j (some (.int (0 + (i : Int))))) H' Q) (hd : ∀ H', Same H1 H' → H' D = some (.lst ((List.range n).map f)) → Qd H') :
    ∃ W : Nat → Nat → Hp → Prop, (∃ m, W 0 m (upd H1 D (.lst []))) ∧ ∀ i m H, W i m H →
      ((Itr 0 n).stop i H ∧ Qd H) ∨ ((Itr 0 n).go i H ∧ ∃ Nx : Hp → Prop, (∀ H', Nx H' → ∃ m', m' < m ∧ W (i + 1) m' H') ∧ ∀ x H', (Itr 0 n).yld i H x H' → (gName j) x (wipe σ [j]) H' fun σ2 H2 => wipe σ2 [j] = wipe σ [j] ∧ tYes σ2 H2 fun b H3 =>
        if b = true then te σ2 H3 fun y H4 => ∃ acc, H4 D = some (.lst acc) ∧ acc.length < sizeLine ∧ Nx (upd H4 D (.lst (acc ++ [y]))) else Nx H3) := by
  refine lc_range (lo := 0) (n := n) (fun i H' => i ≤ n ∧ Same H1 H' ∧ H' D = some (.lst ((List.range i).map f))) ⟨Nat.zero_le _, same_upd nD, upd_same⟩ ?_ (fun H' ⟨_, s, h⟩ => hd H' s h)
  intro i H' hlt ⟨hle, s, h⟩
  refine ⟨hw _, ?_⟩
  unfold tYes
  dsimp only
  rw [if_pos rfl]
  refine he i H' _ hlt s ⟨_, h, ?_, hlt, same_over s nD, ?_⟩
  · rw [List.length_map, List.length_range, sizeLine_eq]
    omega
  · rw [upd_same, List.range_succ, List.map_append]
    rfl
theorem map_range_const {α : Type} (x : α) (n : Nat) : (List.range n).map (fun _ => x) = List.replicate n x := by
  induction n with
  | zero => rfl
  | succ n ih => rw [List.range_succ, List.map_append, ih, List.replicate_succ']; rfl
end K0
/-! data -/
namespace K1
open PySem L2
mutual
/-- a value that is data: lists are tracked or written, dicts empty -/
inductive DQ (K : PySem.W.Frag) (H : Hp) : V → PyData → Prop
  | non : DQ K H .non .none
  | bl (b : Bool) : DQ K H (.bl b) (.bool b)
  | int (i : Int) : DQ K H (.int i) (.int i)
  | str (x : Str) (h : x.length ≤ 1000) : DQ K H (.str x) (.str x)
  | lst {a : Addr} {xs : List V} {ds : List PyData} : SqL K H a xs → DQs K H xs ds → DQ K H (.ref a) (.list ds)
  | tup {a : Addr} {xs : List V} {ds : List PyData} : SqT K H a xs → DQs K H xs ds → DQ K H (.ref a) (.tuple ds)
  | dct {a : Addr} : H a = some (.dK []) → DQ K H (.ref a) (.dict [])
inductive DQs (K : PySem.W.Frag) (H : Hp) : List V → List PyData → Prop
  | nil : DQs K H [] []
  | cons {v : V} {vs : List V} {d : PyData} {ds : List PyData} : DQ K H v d → DQs K H vs ds → DQs K H (v :: vs) (d :: ds)
end
mutual
theorem DQ.same {K : PySem.W.Frag} {H H' : Hp} (s : Same H H') : ∀ (d : PyData) (v : V), DQ K H v d → DQ K H' v d
  | .none, _, h => by
    cases h
    exact .non
  | .bool b, _, h => by
    cases h
    exact .bl b
  | .int i, _, h => by
    cases h
    exact .int i
  | .str x, _, h => by
    cases h with
    | str _ h => exact .str x h
  | .list ds, _, h => by
    cases h with
    | lst h1 h2 => exact .lst (s.seq h1) (DQs.same s ds _ h2)
  | .tuple ds, _, h => by
    cases h with
    | tup h1 h2 => exact .tup (K0.seqT_same s h1) (DQs.same s ds _ h2)
  | .dict [], _, h => by
    cases h with
    | dct h => exact .dct (s _ _ h)
  | .dict (_ :: _), _, h => by cases h
theorem DQs.same {K : PySem.W.Frag} {H H' : Hp} (s : Same H H') : ∀ (ds : List PyData) (vs : List V), DQs K H vs ds → DQs K H' vs ds
  | [], _, h => by
    cases h
    exact .nil
  | d :: ds, _, h => by
    cases h with
    | cons h1 h2 => exact .cons (DQ.same s d _ h1) (DQs.same s ds _ h2)
end
theorem DQ.to {K : PySem.W.Frag} {H H' : Hp} {d : PyData} {v : V} (h : DQ K H v d) (s : Same H H') : DQ K H' v d := DQ.same s d v h
theorem DQs.len {K : PySem.W.Frag} {H : Hp} : ∀ {vs : List V} {ds : List PyData}, DQs K H vs ds → vs.length = ds.length
  | _, _, .nil => rfl
  | _, _, .cons _ t => by rw [List.length_cons, List.length_cons, t.len]
theorem DQs.get {K : PySem.W.Frag} {H : Hp} : ∀ {vs : List V} {ds : List PyData} {i : Nat} {d : PyData}, DQs K H vs ds → ds[i]? = some d → ∃ v, vs[i]? = some v ∧ DQ K H v d
  | _, _, i, d, .nil, h => by simp at h
  | _, _, 0, d, .cons r t, h => by
    simp at h
    subst h
    exact ⟨_, rfl, r⟩
  | _, _, i + 1, d, .cons r t, h => by
    obtain ⟨v, h1, h2⟩ := t.get (i := i) (d := d) (by simpa using h)
    exact ⟨v, by simpa using h1, h2⟩
/-- the name of its type -/
def tyD : PyData → String
  | .none => "NoneType"
  | .bool _ => "bool"
  | .int _ => "int"
  | .str _ => "str"
  | .list _ => "list"
  | .tuple _ => "tuple"
  | .dict _ => "dict"
def isInt : PyData → Bool
  | .int _ => true
  | .bool _ => true
  | _ => false
def isBool : PyData → Bool
  | .bool _ => true
  | _ => false
def isStr : PyData → Bool
  | .str _ => true
  | _ => false
def isTup : PyData → Bool
  | .tuple _ => true
  | _ => false
theorem kit_int (d : PyData) : kitB (tyD d) "int" = some (isInt d) := by cases d <;> (simp only [tyD, isInt]; decide +kernel)
theorem kit_bool (d : PyData) : kitB (tyD d) "bool" = some (isBool d) := by cases d <;> (simp only [tyD, isBool]; decide +kernel)
theorem kit_str (d : PyData) : kitB (tyD d) "str" = some (isStr d) := by cases d <;> (simp only [tyD, isStr]; decide +kernel)
theorem kit_tup (d : PyData) : kitB (tyD d) "tuple" = some (isTup d) := by cases d <;> (simp only [tyD, isTup]; decide +kernel)
theorem tyX_of {K : PySem.W.Frag} {H : Hp} {v : V} {d : PyData} (h : DQ K H v d) : TyX K H v (.type (tyD d)) := by
  cases h with
  | non => exact .base .non
  | bl b => exact .base (.bl b)
  | int i => exact .base (.int i)
  | str x _ => exact .base (.str x)
  | lst h _ =>
    rcases h with (h | ⟨o, h⟩) | ⟨o, its, n, h1, h2, _⟩
    · exact .base (.lst h)
    · exact .base (.frz h)
    · exact .kList h1 h2
  | tup h _ =>
    rcases h with (h | ⟨o, h⟩) | ⟨o, its, n, h1, h2, _⟩
    · exact .base (.tup h)
    · exact .fTuple h
    · exact .kTuple h1 h2
  | dct h => exact .base (.dK h)
theorem isi_ask {K : PySem.W.Frag} {H : Hp} {v : V} {d : PyData} {n : String} {b : Bool} {Q : VK} (h : DQ K H v d) (e : kitB (tyD d) n = some b) (q : Q (.bl b) H) : rIsi K [v, .ty n] H Q :=
  ⟨v, .ty n, .type (tyD d), .type n, b, rfl, .ty n, tyX_of h, kit_ty e, q⟩
def numD : PyData → Bool
  | .int _ => true
  | _ => false
def fromD (lo hi : Int) : PyData → Bool
  | .int i => decide (lo ≤ i) && decide (i ≤ hi)
  | _ => false
def tupD (n : Nat) : PyData → Bool
  | .tuple ds => decide (ds.length = n)
  | _ => false
def holdsD : PyData → Bool
  | .str x => x == "block" || x == "let" || x == "sum" || x == "product"
  | _ => false
/-- a question of one value of data -/
def spD (K : PySem.W.Frag) (f : PyData → Bool) : Sp := fun vs H Q _ => ∃ v d, vs = [v] ∧ DQ K H v d ∧ ∀ H', Same H H' → Q (.bl (f d)) H'
def spFrom (K : PySem.W.Frag) : Sp := fun vs H Q _ => ∃ v d lo hi, vs = [v, .int lo, .int hi] ∧ DQ K H v d ∧ ∀ H', Same H H' → Q (.bl (fromD lo hi d)) H'
def top (i : Nat) : Stmt := PySem.Challenge.pw_sharedscopes_k68_spans_and_items_of_text.main.body.getD i (.Pass ⟨0, 0, 0, 0⟩)
abbrev s_is_number : Stmt := top 1
abbrev s_is_from : Stmt := top 2
/-- the built-ins' names are not the module's -/
structure Bi (mg : Str → Option Value) : Prop where
  isi : mg "isinstance" = none
  int : mg "int" = none
  bool : mg "bool" = none
  str : mg "str" = none
  tuple : mg "tuple" = none
  len : mg "len" = none
  all : mg "all" = none
/-- a def of the text, called by its name -/
structure Dn (K : PySem.W.Frag) (mg : Str → Option Value) (x : Str) (ps : List Str) (st : Stmt) (g : Addr) (fd : FuncData) : Prop where
  fn : Fun K x x st g fd
  bn : Binds K fd ps []
  mg : mg x = some (.ref g)
theorem DQ.item {K : PySem.W.Frag} {H : Hp} {v : V} {ds : List PyData} {i : Nat} {d : PyData} (h : DQ K H v (.tuple ds)) (hi : ds[i]? = some d) : ∃ a xs u, v = .ref a ∧ SqT K H a xs ∧ atI xs (i : Int) = some u ∧ DQ K H u d := by
  cases h with
  | tup h1 h2 =>
    obtain ⟨u, e, q⟩ := h2.get hi
    exact ⟨_, _, u, rfl, h1, atI_nat e, q⟩
/-- isinstance(v, a built-in type), of data -/
def rIsiD (K : PySem.W.Frag) : List V → Hp → VK → Prop := fun xs H Q => ∃ v d n b, xs = [v, .ty n] ∧ DQ K H v d ∧ kitB (tyD d) n = some b ∧ Q (.bl b) H
theorem call_isiD {X : Cx} : CallR X (.builtin "isinstance") (rIsiD X.K) := by
  intro pins s σ H xs us Q I r ⟨v, d, n, b, e, hd, hk, q⟩
  subst e
  exact call_isi pins s σ H _ us Q I r (isi_ask hd hk q)
section
variable {P : Program} {w : World} {K : PySem.W.Frag} {mg : Str → Option Value} {base : Heap}
theorem sc_number : FnScope ["value"] ["value"] (defScope s_is_number) := ⟨rfl, rfl, rfl, by decide +kernel, rfl, by decide +kernel, by decide +kernel⟩
theorem ok_number {f : Addr} {fd : FuncData} (F : Fun K "is_number" "is_number" s_is_number f fd) (B : Bi mg) : FnOk P w K mg base CX0 1 f fd ["value"] (spD K numD) := by
  refine F.ok sc_number (fun vs H Q E h => ?_) (fun cdv A outer s H vs Q E hr h => ?_)
  · obtain ⟨v, d, rfl, _⟩ := h
    rfl
  · obtain ⟨v, d, rfl, hd, k⟩ := h
    refine ⟨_, pss_one (ps_ret (pe_and (pe_callB call_isiD (by rfl) B.isi (by decide +kernel) (pa_cons (pv 0) (pa_cons (pe_bltn (v := .ty "int") (by rfl) B.int (by decide +kernel) rfl) pa_nil)))
      (pe_one (pe_not (pe_callB call_isiD (by rfl) B.isi (by decide +kernel) (pa_cons (pv 0) (pa_cons (pe_bltn (v := .ty "bool") (by rfl) B.bool (by decide +kernel) rfl) pa_nil))))))), ?_⟩
    refine ⟨_, rfl, v, d, _, _, rfl, hd, kit_int d, _, rfl, ?_⟩
    have k' := k H (Same.refl H)
    cases hd with
    | int i => exact iteT ⟨_, rfl, _, _, _, _, rfl, .int i, kit_bool _, _, rfl, k'⟩
    | bl b => exact iteT ⟨_, rfl, _, _, _, _, rfl, .bl b, kit_bool _, _, rfl, k'⟩
    | _ => exact iteF k'
theorem sc_from : FnScope ["value", "least", "most"] ["value", "least", "most"] (defScope s_is_from) := ⟨rfl, rfl, rfl, by decide +kernel, rfl, by decide +kernel, by decide +kernel⟩
theorem ok_from {f g : Addr} {fd fg : FuncData} (F : Fun K "is_from" "is_from" s_is_from f fd) (B : Bi mg) (D : Dn K mg "is_number" ["value"] s_is_number g fg) : FnOk P w K mg base CX0 2 f fd ["value", "least", "most"] (spFrom K) := by
  have G : FnOk P w K mg base CX0 1 g fg _ (spD K numD) := ok_number D.fn B
  refine F.ok sc_from (fun vs H Q E h => ?_) (fun cdv A outer s H vs Q E hr h => ?_)
  · obtain ⟨v, d, lo, hi, rfl, _⟩ := h
    rfl
  · obtain ⟨v, d, lo, hi, rfl, hd, k⟩ := h
    refine ⟨_, pss_one (ps_ret (pe_and (pe_call G hr rfl D.mg D.fn.kp D.bn .nil pass0 (pa_cons (pv 0) pa_nil)) (pe_one (pe_chain op_le op_le (pv 1) (pv 0) (pv 2))))), ?_⟩
    refine ⟨_, rfl, v, d, rfl, hd, fun H1 S1 => ⟨_, rfl, ?_⟩⟩
    have k' := k H1 S1
    cases hd with
    | int i =>
      refine iteT ⟨_, rfl, _, rfl, _, _, rfl, rfl, _, rfl, ?_⟩
      have e : fromD lo hi (.int i) = (decide (lo ≤ i) && decide (i ≤ hi)) := rfl
      rw [e] at k'
      refine ite2 (fun h => ?_) (fun h => ?_)
      · rw [h, Bool.true_and] at k'
        exact ⟨_, rfl, _, _, rfl, rfl, k'⟩
      · rw [Bool.eq_false_iff.mpr h, Bool.false_and] at k'
        exact k'
    | _ => exact iteF k'
end
theorem dec_len {a b : Nat} : decide (V.int (a : Int) = V.int (b : Int)) = decide (a = b) := by
  by_cases h : a = b
  · subst h
    rw [decide_eq_true rfl, decide_eq_true rfl]
  · rw [decide_eq_false h, decide_eq_false fun z => h ?_]
    injection z with z
    omega
/-- a comprehension over a text's signs -/
theorem lc_funS {z : Str} {te : TE} {j : Nat} {σ : St} {H1 : Hp} {D : Addr} {Qd : Hp → Prop} (f : Nat → V) (nD : H1 D = none) (hz : z.cps.size ≤ 1000) (hw : ∀ x, wipe ((wipe σ [j]).set j (some x)) [j] = wipe σ [j])
    (he : ∀ i c H' Q, z.cps[i]? = some c → Same H1 H' → Q (f i) H' → te ((wipe σ [j]).set j (some (.str ⟨#[c]⟩))) H' Q) (hd : ∀ H', Same H1 H' → H' D = some (.lst ((List.range z.cps.size).map f)) → Qd H') :
    ∃ W : Nat → Nat → Hp → Prop, (∃ m, W 0 m (upd H1 D (.lst []))) ∧ ∀ i m H, W i m H →
      ((Its z).stop i H ∧ Qd H) ∨ ((Its z).go i H ∧ ∃ Nx : Hp → Prop, (∀ H', Nx H' → ∃ m', m' < m ∧ W (i + 1) m' H') ∧ ∀ x H', (Its z).yld i H x H' → (gName j) x (wipe σ [j]) H' fun σ2 H2 => wipe σ2 [j] = wipe σ [j] ∧ tYes σ2 H2 fun b H3 =>
        if b = true then te σ2 H3 fun y H4 => ∃ acc, H4 D = some (.lst acc) ∧ acc.length < sizeLine ∧ Nx (upd H4 D (.lst (acc ++ [y]))) else Nx H3) := by
  refine lc_it (walk_str (z := z)) (fun i H' => i ≤ z.cps.size ∧ Same H1 H' ∧ H' D = some (.lst ((List.range i).map f))) ⟨Nat.zero_le _, K0.same_upd nD, upd_same⟩ (fun _ _ _ _ => trivial) ?_ (fun H' ⟨_, s, h⟩ => hd H' s h)
  rintro i x H2 H' hlt ⟨hle, s, h⟩ ⟨rfl, c, hc, rfl⟩
  refine ⟨hw _, ?_⟩
  unfold tYes
  dsimp only
  rw [if_pos rfl]
  refine he i c _ _ hc s ⟨_, h, ?_, hlt, K0.same_over s nD, ?_⟩
  · rw [List.length_map, List.length_range, sizeLine_eq]
    omega
  · rw [upd_same, List.range_succ, List.map_append]
    rfl
def ask {α : Type} (p : α → Bool) : Option α → Bool
  | some x => p x
  | none => true
theorem all_range {α : Type} (p : α → Bool) : ∀ (l : List α), ((List.range l.length).map fun i => ask p l[i]?).all id = l.all p := by
  intro l
  rw [Bool.eq_iff_iff]
  simp only [List.all_map, List.all_eq_true, List.mem_range, Function.comp, id]
  constructor
  · intro h x hx
    obtain ⟨i, hi, e⟩ := List.mem_iff_getElem.mp hx
    have z := h i hi
    rw [List.getElem?_eq_getElem hi] at z
    rw [e] at z
    exact z
  · intro h i hi
    rw [List.getElem?_eq_getElem hi]
    exact h _ (List.getElem_mem hi)
theorem in_holders (x : Str) : inV (.str x) [.str "block", .str "let", .str "sum", .str "product"] = (x == "block" || x == "let" || x == "sum" || x == "product") := by
  have c : ∀ y : Str, eqV (.str y) (.str x) = (x == y) := fun y => by
    show (y == x) = (x == y)
    rw [Bool.eq_iff_iff, beq_iff_eq, beq_iff_eq]
    exact ⟨Eq.symm, Eq.symm⟩
  unfold inV
  rw [List.any_cons, List.any_cons, List.any_cons, List.any_cons, List.any_nil, c, c, c, c, Bool.or_false, Bool.or_assoc, Bool.or_assoc]
theorem dec_str {x y : Str} : decide (V.str x = V.str y) = decide (x = y) := by
  by_cases h : x = y
  · rw [h, decide_eq_true rfl, decide_eq_true rfl]
  · rw [decide_eq_false h, decide_eq_false fun z => h (V.str.inj z)]
mutual
/-- data without dicts, for the hand layer's rules of == -/
theorem DQ.dp {K : PySem.W.Frag} {H : Hp} : ∀ (d : PyData) (v : V), d.hasDict = false → DQ K H v d → Dp K H v d
  | .none, _, _, h => by
    cases h
    exact .non
  | .bool b, _, _, h => by
    cases h
    exact .bl b
  | .int i, _, _, h => by
    cases h
    exact .int i
  | .str x, _, _, h => by
    cases h
    exact .str x
  | .list ds, _, n, h => by
    cases h with
    | lst h1 h2 => exact .lst h1 (DQs.dp ds _ n h2)
  | .tuple ds, _, n, h => by
    cases h with
    | tup h1 h2 => exact .tup h1 (DQs.dp ds _ n h2)
  | .dict _, _, n, _ => by cases n
theorem DQs.dp {K : PySem.W.Frag} {H : Hp} : ∀ (ds : List PyData) (vs : List V), PyData.hasDictAll ds = false → DQs K H vs ds → DpAll K H vs ds
  | [], _, _, h => by
    cases h
    exact .nil
  | d :: ds, _, n, h => by
    have z : (d.hasDict || PyData.hasDictAll ds) = false := n
    rw [Bool.or_eq_false_iff] at z
    cases h with
    | cons h1 h2 => exact .cons (DQ.dp d _ z.1 h1) (DQs.dp ds _ z.2 h2)
end
end K1
namespace K1
open PySem L2
def s_init : Stmt := match top 4 with
  | .ClassDef (body := b) .. => b.getD 0 (.Pass ⟨0, 0, 0, 0⟩)
  | s => s
/-- an error class of the program that tells: told -/
structure Er (K : PySem.W.Frag) (mg : Str → Option Value) (x : Str) (C fI : Addr) : Prop where
  mg : mg x = some (.ref C)
  ox : OexC K C
  xf : XfC K C
  noN : PySem.W.findIn K (.ref C) "told" = some none
  iC : PySem.W.findIn K (.ref C) "__init__" = some (some (.ref fI))
  tI : PySem.W.typeIn K (.ref fI) = some (.type "function")
  te : PySem.W.exmOne K (.ref C) (.ref C) = some true
  ini : ∃ fd, Fun K "__init__" "ScopeError.__init__" s_init fI fd ∧ Binds K fd ["self", "told"] []
def spIni (K : PySem.W.Frag) : Sp := fun vs H Q _ => ∃ (a C : Addr) (v : V), vs = [.ref a, v] ∧ OexC K C ∧ PySem.W.findIn K (.ref C) "told" = some none ∧ H a = some (exo a C none) ∧ ∀ dx, H dx = none → dx ≠ a → Q .non (upd (upd H dx (exd dx [("told", v)])) a (exo a C (some dx)))
section
variable {P : Program} {w : World} {K : PySem.W.Frag} {mg : Str → Option Value} {base : Heap}
theorem sc_init : FnScope ["self", "told"] ["self", "told"] (defScope s_init) := ⟨rfl, rfl, rfl, by decide +kernel, rfl, by decide +kernel, by decide +kernel⟩
theorem ok_init {f : Addr} {fd : FuncData} (F : Fun K "__init__" "ScopeError.__init__" s_init f fd) : FnOk P w K mg base CX0 1 f fd ["self", "told"] (spIni K) := by
  refine F.ok sc_init (fun vs H Q E h => ?_) (fun cdv A outer s H vs Q E hr h => ?_)
  · obtain ⟨a, C, v, rfl, _⟩ := h
    rfl
  · obtain ⟨a, C, v, rfl, T, hno, ha, k⟩ := h
    exact ⟨_, pss_one (ps_ost (pv 0) (pv 1)), _, rfl, _, rfl, a, C, rfl, T, hno, .inl ⟨ha, k⟩⟩
def up (t : TA) : TA := fun σ H Q => ∃ Q0 : List V → Hp → Prop, t σ H Q0 ∧ ∀ vs H1, Q0 vs H1 → Q vs H1
theorem pa_up {X : Cx} {es : List Expr} {t : TA} (h : PA X es t) : PA X es (up t) := ⟨fun pos pins s σ H Q I ⟨Q0, q, k⟩ => wpAny_mono (h.run pos pins s σ H Q0 I q) (fun us s1 ⟨vs, H1, I1, r, z⟩ => ⟨vs, H1, I1, r, k _ _ z⟩) fun _ _ z => z⟩
/-- X(e), to be raised -/
def tErr (C : Addr) (ta : TA) : St → Hp → XK → Prop := fun σ H Q => ta σ H fun vs H1 => ∃ v, vs = [v] ∧ ∀ H2 d, Same H1 H2 → H2 d = some (.xd [("told", v)]) → Q (.ref C) (some d) H2
theorem pmk_err {X : Cx} {x : Str} {C fI : Addr} {e : Expr} {ta : TA} {p pos : Pos} {k : Nat} (R : Er X.K X.mg x C fI) (hr : Room k X.A) (hk : 2 ≤ k) (ha : PA X [e] ta) (hg : Gl X x := by rfl) (hdb : (x == ("__debug__" : Str)) = false := by decide)
    (he : starEach (e :: []) X.env = (false, eval e X.env) :: starEach [] X.env := by rfl) (hpl : (backTo pos (starEach [] X.env)).any (·.1) = false := by rfl) : PMk X (.Call (.Name x p) [e] [] pos) (tErr C ta) := by
  obtain ⟨fd, F, hb⟩ := R.ini
  have G : FnOk X.prog X.w X.K X.mg X.base CX0 1 fI fd ["self", "told"] (spIni X.K) := ok_init F
  have M := pmk_oex (p := p) (dvs := []) R.ox R.iC R.tI G (hr.mono hk) hb .nil (fun _ _ _ _ _ _ _ h => h.elim) hg R.mg (pa_up ha) hdb he hpl
  intro pins s σ H Q I h
  refine M pins s σ H Q I ⟨_, h, fun vs H1 ⟨v, ev, q⟩ => ?_⟩
  subst ev
  refine ⟨(by show 1 ≤ 1000; decide), fun a na => ⟨a, C, v, rfl, R.ox, R.noN, upd_same, fun dx nd ne => ⟨rfl, dx, [("told", v)], upd_same, ?_, ?_, ?_⟩⟩⟩
  · rw [upd_ne ne, upd_same]
  · rw [upd_ne ne] at nd
    exact nd
  · have nd' : H1 dx = none := by
      rw [upd_ne ne] at nd
      exact nd
    refine q _ dx (fun b u hb => ?_) upd_same
    have h1 : b ≠ a := ne_of_none hb na
    have h2 : b ≠ dx := ne_of_none hb nd'
    rw [upd_ne h2, del_ne h1, upd_ne h1, upd_ne h2, upd_ne h1]
    exact hb

/-- nothing, or the error of the class at C that tells v -/
def okOr (C : Addr) (c : Bool) (v : V) (H : Hp) (E : XK) (k : Prop) : Prop := (c = true → k) ∧ (c = false → ∀ H' d, Same H H' → H' d = some (.xd [("told", v)]) → E (.ref C) (some d) H')
def spChk (K : PySem.W.Frag) (C : Addr) (f : PyData → Bool) : Sp := fun vs H Q E => ∃ v d, vs = [v] ∧ DQ K H v d ∧ okOr C (f d) v H E (∀ H', Same H H' → Q .non H')
/-- a def that may raise, called by its name -/
def ClX (P : Program) (w : World) (K : PySem.W.Frag) (mg : Str → Option Value) (base : Heap) (k : Nat) (x : Str) (ps : List Str) (sp : Sp) : Prop :=
  ∃ g fd, FnOk P w K mg base (L2.CX P w) k g fd ps sp ∧ mg x = some (.ref g) ∧ PySem.W.keepIn K (.ref g) = true ∧ Binds K fd ps []
theorem Dn.clX {k : Nat} {x : Str} {ps : List Str} {st : Stmt} {g : Addr} {fd : FuncData} {sp : Sp} (D : Dn K mg x ps st g fd) (F : FnOk P w K mg base (L2.CX P w) k g fd ps sp) : ClX P w K mg base k x ps sp :=
  ⟨g, fd, F, D.mg, D.fn.kp, D.bn⟩
theorem pe_clX {X : Cx} {k m : Nat} {W : WX} {x : Str} {ps : List Str} {sp : Sp} {e : Expr} {es : List Expr} {t : TA} {p pos : Pos} (C : ClX X.prog X.w X.K X.mg X.base k x ps sp) (hr : Room m X.A) (tk : Takes X W) (hk : k ≤ m) (ha : PA X (e :: es) t) (hg : Gl X x := by rfl) (hdb : (x == ("__debug__" : Str)) = false := by decide)
    (he : starEach (e :: es) X.env = (false, eval e X.env) :: starEach es X.env := by rfl) (hpl : (backTo pos (starEach es X.env)).any (·.1) = false := by rfl) : PE X (.Call (.Name x p) (e :: es) [] pos) (tCallS sp (WE W) t) := by
  obtain ⟨g, fd, F, hm, hk', hb⟩ := C
  exact pe_callS F (hr.mono hk) hg hm hk' hb (fun σ => passAt tk σ) ha hdb he hpl
end
end K1
namespace K1
open PySem L2 PySem.Spec PyProof.Rows
/-! ### a def that is called where nothing is being shown: repr of lists and tuples is told in it -/
structure FnG (P : Program) (w : World) (K : PySem.W.Frag) (mg : Str → Option Value) (base : Heap) (k : Nat) (f : Addr) (fd : FuncData) (ps : List Str) (sp : Sp) : Prop where
  len : ∀ vs H Q E, sp vs H Q E → vs.length = ps.length
  run : ∀ (A : Around) (outer : List Env) (s : Shared) (H : Hp) (args : Args) (us : List Value) (vs : List V) (Q : VK) (E : XK), A.guards = some [] → Room k A → Env0 P w K mg base A outer s H → BindsTo s fd args (ps.zip us) → Vals vs us → sp vs H Q E →
    codeAny (model P w) A (.call (.ref f) args) (CR CX0 outer P w H s Q E) s
section
variable {P : Program} {w : World} {K : PySem.W.Frag} {mg : Str → Option Value} {base : Heap}
theorem okG {x qual : Str} {st : Stmt} {f : Addr} {fd : FuncData} {N ps : List Str} {k : Nat} {sp : Sp} (F : Fun K x qual st f fd) (S : FnScope N ps (defScope st)) (len : ∀ vs H Q E, sp vs H Q E → vs.length = ps.length)
    (hbody : ∀ (cdv : Value) (A : Around) (outer : List Env) (s : Shared) (H : Hp) (vs : List V) (Q : VK) (E : XK), A.guards = some [] → Room k (A.deeper (envOfC qual (defScope st) s.heap.objs.size f cdv)) → sp vs H Q E →
      ∃ t, PSs (cxOf CX0 P w K mg base N qual (defScope st) f cdv A outer s H E).nox (defBody st) t ∧ t { nx := fun _ H' => Q .non H', rt := Q } (start N vs) H) : FnG P w K mg base (k + 1) f fd ps sp := by
  obtain ⟨oc, od, kV, doc, pm, an, cdv, ct, osl, rfl, lk, hcd⟩ := F.ex
  refine ⟨len, fun A outer s H args us vs Q E hg hr e0 hb r h => ?_⟩
  obtain ⟨t, ht, q⟩ := hbody cdv A outer s H vs Q E hg (hr.deeper _) h
  exact run_at lk hcd S (len _ _ _ _ h) hr e0 hb r ⟨t, ht.nox, q⟩
end
def ClG (P : Program) (w : World) (K : PySem.W.Frag) (mg : Str → Option Value) (base : Heap) (k : Nat) (x : Str) (ps : List Str) (sp : Sp) : Prop :=
  ∃ g fd, FnG P w K mg base k g fd ps sp ∧ mg x = some (.ref g) ∧ PySem.W.keepIn K (.ref g) = true ∧ Binds K fd ps []
theorem pe_clG {X : Cx} {k m : Nat} {x : Str} {ps : List Str} {sp : Sp} {e : Expr} {es : List Expr} {t : TA} {p pos : Pos} (C : ClG X.prog X.w X.K X.mg X.base k x ps sp) (hgd : X.A.guards = some []) (hr : Room m X.A) (hk : k ≤ m) (ha : PA X (e :: es) t) (hg : Gl X x := by rfl) (hdb : (x == ("__debug__" : Str)) = false := by decide)
    (he : starEach (e :: es) X.env = (false, eval e X.env) :: starEach es X.env := by rfl) (hpl : (backTo pos (starEach es X.env)).any (·.1) = false := by rfl) : PE X (.Call (.Name x p) (e :: es) [] pos) (tCall sp [] E0 t) := by
  obtain ⟨g, fd, F, hm, hk', hb⟩ := C
  refine ⟨fun pins s σ H Q I h => wpAny_Call_Name_kw (ld_glob I hg hm ?_ hdb)⟩
  refine PySem.W.callWith_K (h₀ := X.base) I.ok.mod.kin hk' (thn (ha.run pos pins s σ H _ I h) fun us s1 hh => ?_) he hpl
  obtain ⟨vs, H1, I1, r, q⟩ := hh
  rw [List.append_nil] at q
  have hl : us.length = ps.length := r.length.symm.trans (F.len _ _ _ _ q)
  have hb' := hb s1 us I1.kIn (by rw [List.append_nil]; exact hl)
  rw [List.append_nil] at hb'
  refine ⟨I1.kIn, wpAny_call (codeAny_mono (F.run X.A X.stack s1 H1 ⟨us, []⟩ us vs Q E0 hgd (hr.mono hk) I1.env0 hb' r q) fun o s' z => ?_)⟩
  cases o with
  | error e => exact (show False from z).elim
  | ok fl =>
    cases fl with
    | ret u => exact I1.after z
    | next => exact z.elim
    | brk => exact z.elim
    | cont => exact z.elim
end K1
namespace K1
open PySem L2 PySem.Spec PyProof.Rows
abbrev SuiteT := Addr → Value → Option Addr → TS
/-- the ends of a suite whose name, in slot i, is taken away behind it -/
def gone (i : Nat) (D : Ends) : Ends := { nx := fun σ H => D.nx (σ.set i none) H, rt := D.rt, bk := fun σ H => D.bk (σ.set i none) H, ct := fun σ H => D.ct (σ.set i none) H }
/-- what the clauses 'except x as n' wish, one behind the other: slot i is n's -/
def wEach (K : PySem.W.Frag) (i : Nat) (Wo : WX) (D : Ends) : List (Value × SuiteT) → WX
  | [] => Wo
  | (c, ts) :: r => fun cls d σ H => ∃ b, PySem.W.exmOne K cls c = some b ∧ (b = true → ∀ a, H a = none → ts a cls d (gone i D) (σ.set i (some (.ref a))) H) ∧ (b = false → wEach K i Wo D r cls d σ H)
inductive Clauses (X : Cx) (n : Str) : List ExceptHandler → List (Value × SuiteT) → Prop
  | nil : Clauses X n [] []
  | cons {x : Str} {c : Value} {ts : SuiteT} {st : Stmt} {sts : List Stmt} {np hp : Pos} {hds : List ExceptHandler} {l : List (Value × SuiteT)} (nm : Names X x c)
      (su : ∀ (a : Addr) (oe : Obj) (cls : Value) (d : Option Addr) (pn : List (Addr × Obj)), Zc cls d oe → (∃ vs, oe.data = .fields vs) → PSs (X.suite a ((a, oe) :: pn)) (st :: sts) (ts a cls d)) (r : Clauses X n hds l) :
      Clauses X n (.ExceptHandler (some (.Name x np)) (some n) (st :: sts) hp :: hds) ((c, ts) :: l)
section
variable {X : Cx} {n : Str} {i : Nat} {Wo : WX}
/-- an exception that has come to the clauses -/
theorem clauses_run {pins : List (Addr × Obj)} {σ : L2.St} {H : Hp} {D : Ends} {a : Addr} {B : Heap} {sI : Shared} {cls : Value} {d : Option Addr} (ok : X.Ok) (hs : X.stack = X.env :: X.outer) (hf : X.env.frame = some X.env.locals) (hN : X.N.Nodup) (hi : X.N[i]? = some n) (hln : X.env.kindOf n = some .local) (tk : Takes X Wo)
    (J : Inv X pins σ H sI) (nb : ∀ b o, sI.heap.get? b = some o → b ∉ frs X.stack → B.get? b = some o) (na : H a = none) :
    ∀ {hds : List ExceptHandler} {l : List (Value × SuiteT)}, Clauses X n hds l → ∀ {s : Shared}, HandSPX.FlyingZ B (X.env :: X.outer) a (Zc cls d) s.heap → sI.heap.UpToSlots s.heap → s.os = sI.os → AllBare s.gens → wEach X.K i Wo D l cls d σ H →
      wpAny (model X.prog X.w) X.A (handleBy (.ref a) X.env hds) (SP X pins D) X.xe s := by
  intro hds l C
  induction C with
  | nil =>
    intro s fl up os ag w
    refine wpAny_handleBy_nil ?_
    obtain ⟨_, _, _, oe, vs, T, oT, ts', he, hz, hd, h1, hr⟩ := id fl
    unfold PySem.passOn
    refine wpAny_bind (wpAny_field he hd h1 ?_)
    rw [if_neg (show ¬ ((Value.ref T == Value.none) = true) from by simp)]
    have away : wpAny (model X.prog X.w) X.A (setFlight (.ref a) X.env.frame) (fun _ s4 => wpAny (model X.prog X.w) X.A (throw (.ref a) : Sem Flow) (SP X pins D) X.xe s4) X.xe s := by
      rw [hf]
      exact HandSPX.setFlight_upZ fl fun h4 fl4 up4 => wpAny_throw (tk _ _ ⟨a, B, sI, pins, σ, H, cls, d, rfl, J, nb, up.trans up4, .inr (.inr (by rw [hs]; exact fl4)), na, os, ag, w⟩)
    first
      | exact wpAny_bind (wpAny_pure (wpAny_bind away))
      | exact wpAny_bind away
  | @cons x c ts st sts np hp hds2 l2 nm su _ ih =>
    intro s fl up os ag w
    obtain ⟨b, hb1, yes, no⟩ := w
    obtain ⟨oe, vs, he, hz, hd⟩ := fl.there
    have Jl : Inv X pins σ H s := J.landed nb fl.1 up os ag
    have notIn : ∀ {h : Heap} {o : Obj} {us : Array Value}, h.FunFrames B (X.env :: X.outer) → h.get? a = some o → o.data = .fields us → a ∉ frs (X.env :: X.outer) := fun ff e dd hm => by
      obtain ⟨_, o', e', z⟩ := ff.mem hm
      rw [e] at e'
      cases e'
      exact z _ dd
    have nfr := notIn fl.2.2.1 he hd
    have nL : a ≠ X.env.locals := fun z => nfr (List.mem_filterMap.mpr ⟨X.env, List.mem_cons_self, by rw [hf, z]⟩)
    have nF : a ∉ X.fs := fun hm => by
      obtain ⟨e, he', q⟩ := List.mem_filterMap.mp hm
      exact nfr (List.mem_filterMap.mpr ⟨e, List.mem_cons_of_mem _ he', q⟩)
    have S3 := Jl.suite he hd na nL nF
    have LT : PySem.W.Looks (model X.prog X.w) s.heap (typeOf (.ref a)) cls := fun A Q E s' k q => wpAny_typeOf_ref (k _ _ he) (by rw [hz.1]; exact q)
    have LM := PySem.W.exm_one (M := model X.prog X.w) Jl.kIn LT hb1
    refine wpAny_handleBy_cons (codeAny_handlers_test ?_) (by intro q; cases q)
    have look : ∀ {Q : Value → Shared → Prop} {E : Value → Shared → Prop}, Q c s → wpAny (model X.prog X.w) (X.A.mark (some (.ref a))) (eval (.Name x np) X.env) Q E s := fun q => by
      obtain ⟨hg, hdbg, hm | ⟨hm, hv, hnn⟩⟩ := nm
      · exact ld_glob (X := X.suite a ((a, oe) :: (X.pn ++ pins))) S3 hg hm q hdbg
      · exact ld_blt (X := X.suite a ((a, oe) :: (X.pn ++ pins))) S3 hg hm hv q hnn hdbg
    refine look (LM.here ?_)
    cases b with
    | false => exact ih fl up os ag (no rfl)
    | true =>
      refine codeAny_handlers_suite_as ?_
      refine HandSPX.lands_againZ fl fun h4 fl4 up4 => ?_
      have J4 : Inv X pins σ H { s with heap := h4 } := J.landed nb fl4.1 (up.trans up4) os ag
      obtain ⟨oe4, vs4, he4, hz4, hd4⟩ := fl4.there
      have S4 := J4.suite he4 hd4 na nL nF
      refine store_ok (X := X.suite a ((a, oe4) :: (X.pn ++ pins))) (v := .ref a) S4 hN hi (.inl hln) rfl (fun s5 S5 => ?_) (.inr hln)
      refine wpAny_mono ((su a oe4 cls d (X.pn ++ pins) hz4 ⟨_, hd4⟩).run [] s5 _ H _ S5 (yes rfl a na)) (fun f s6 z => ?_) fun _ _ z => False.elim z
      have last : ∀ {σ6 : L2.St} {H6 : Hp} {Q : Shared → Prop}, Inv (X.suite a ((a, oe4) :: (X.pn ++ pins))) [] σ6 H6 s6 → (∀ s7, Inv X pins (σ6.set i none) H6 s7 → Q s7) →
          wpAny (model X.prog X.w) X.A (do bindName X.env n .none; unbindBehindTheSuite X.env n hp) (fun _ s7 => Q s7) X.xe s6 := fun S6 q => gone_ok (S6.unsuite ok) hN hi hln q
      cases f with
      | next =>
        obtain ⟨σ6, H6, S6, q⟩ := z
        exact last S6 fun s7 J7 => ⟨_, _, J7, q⟩
      | brk =>
        obtain ⟨σ6, H6, S6, q⟩ := z
        exact last S6 fun s7 J7 => ⟨_, _, J7, q⟩
      | cont =>
        obtain ⟨σ6, H6, S6, q⟩ := z
        exact last S6 fun s7 J7 => ⟨_, _, J7, q⟩
      | ret u =>
        obtain ⟨v6, σ6, H6, S6, r6, q⟩ := z
        exact last S6 fun s7 J7 => ⟨_, _, _, J7, r6, q⟩
/-- try: body, then clauses that name the exception -/
theorem ps_try_each {body : List Stmt} {h₀ : ExceptHandler} {hds : List ExceptHandler} {l : List (Value × SuiteT)} {pos : Pos} {tb : WX → TS} (hs : X.stack = X.env :: X.outer) (hf : X.env.frame = some X.env.locals) (hN : X.N.Nodup) (hi : X.N[i]? = some n) (hln : X.env.kindOf n = some .local) (tk : Takes X Wo)
    (hb : ∀ (W : WX) (pn : List (Addr × Obj)) (xe : Value → Shared → Prop), Takes (X.tr pn xe) W → PassesOwn (model X.prog X.w) X.A X.env xe → PSs (X.tr pn xe) body (tb W)) (C : Clauses X n (h₀ :: hds) l) :
    PS X (.Try body (h₀ :: hds) [] [] pos) (fun D σ H => tb (wEach X.K i Wo D l) D σ H) := by
  refine ⟨fun pins s σ H D I h => ?_⟩
  have ok := I.ok
  refine wpAny_Try_except (wpAny_mono ((hb (wEach X.K i Wo D l) (X.pn ++ pins) (fun e s₁ => wpAny (model X.prog X.w) X.A (noteFrame e X.env) (fun _ s₂ => wpAny (model X.prog X.w) X.A (setFlight e none) (fun _ s₃ =>
    wpAny (model X.prog X.w) X.A (handleBy e X.env (h₀ :: hds)) (SP X pins D) X.xe s₃) X.xe s₂) X.xe s₁) (fun u s' xx => ?_) PassesOwn.looking).run [] s σ H D (I.toTry _) h) (fun f s1 z => ?_) (fun e s1 z => z))
  · obtain ⟨a, B, sI, pins', σ', H', cls, d, rfl, J', nb, up, sky, na, os, ag, w⟩ := xx
    refine Sky.land Zc.steady (by rw [ok.frames, hs]) hf (by rw [← hs]; exact sky) fun h3 fl3 up3 => ?_
    exact clauses_run ok hs hf hN hi hln tk (J'.ofTry ok) nb na C fl3 (up.trans up3) os ag w
  · cases f with
    | next =>
      obtain ⟨σ', H', J', q⟩ := z
      exact wpAny_execs_nil ⟨σ', H', J'.ofTry ok, q⟩
    | brk =>
      obtain ⟨σ', H', J', q⟩ := z
      exact ⟨σ', H', J'.ofTry ok, q⟩
    | cont =>
      obtain ⟨σ', H', J', q⟩ := z
      exact ⟨σ', H', J'.ofTry ok, q⟩
    | ret u =>
      obtain ⟨v, σ', H', J', r, q⟩ := z
      exact ⟨v, σ', H', J'.ofTry ok, r, q⟩
end
end K1
namespace K1
open PySem L2
mutual
def noList : PyData → Bool
  | .list _ => false
  | .tuple ds => noListAll ds
  | .dict ps => ps.isEmpty
  | _ => true
def noListAll : List PyData → Bool
  | [] => true
  | d :: ds => noList d && noListAll ds
end
section
variable {X : Cx} {pins : List (Addr × Obj)} {σ : St} {H : Hp} {s : Shared}
theorem dct_reads {a : Addr} (I : Inv X pins σ H s) (h : H a = some (.dK [])) : ∃ as, PySem.Reads s.heap (.ref a) (.dict []) as ∧ sysModules ∉ as := by
  have z : ObjOk X.prog X.w H s.heap a (.dK []) := I.hok a _ h
  obtain ⟨_, hs, vs, hkv, o, es, ep, ho, hx, hd, hk, hp, _⟩ := z
  cases hkv
  generalize hl : es.toList = el at hp
  cases hp
  have hr := PySem.Reads.dict (kvs := []) (as := []) (bs := []) ho hx.1 hd (by rw [hl]; exact .nil) (by rw [hl]; exact .nil)
  refine ⟨_, hr, fun hm => ?_⟩
  have hm2 : sysModules = a := by simpa using hm
  rw [hm2] at hs
  exact absurd hs (by simp)
mutual
theorem DQ.reads (I : Inv X pins σ H s) : ∀ (d : PyData) (v : V) (u : Value), DQ X.K H v d → RelV v u → ∃ as, PySem.Reads s.heap u d as ∧ (noList d = true → sysModules ∉ as)
  | .none, _, _, h, r => by
    cases h
    cases r
    exact ⟨_, .none, fun _ => List.not_mem_nil⟩
  | .bool b, _, _, h, r => by
    cases h
    cases r
    exact ⟨_, .bool b, fun _ => List.not_mem_nil⟩
  | .int i, _, _, h, r => by
    cases h
    obtain ⟨t, rfl⟩ := r
    exact ⟨_, .int i t, fun _ => List.not_mem_nil⟩
  | .str x, _, _, h, r => by
    cases h
    obtain ⟨t, rfl⟩ := r
    exact ⟨_, .str x t, fun _ => List.not_mem_nil⟩
  | .list ds, _, _, h, r => by
    cases h with
    | lst hs ha =>
      cases r
      obtain ⟨its, rv, ⟨o, n, ho, hc, _, hd⟩, _⟩ := I.list hs
      obtain ⟨as, hr, _⟩ := DQs.reads I ds _ its ha rv
      exact ⟨_, .list ho hc hd hr, fun z => Bool.noConfusion z⟩
  | .tuple ds, _, _, h, r => by
    cases h with
    | tup hs ha =>
      cases r
      obtain ⟨its, rv, ⟨o, ho, hc, n, hd⟩, _⟩ := I.tuple hs
      obtain ⟨as, hr, hn⟩ := DQs.reads I ds _ its ha rv
      exact ⟨_, .tuple ho hc hd hr, hn⟩
  | .dict [], _, _, h, r => by
    cases h with
    | dct h =>
      cases r
      obtain ⟨as, q, n⟩ := dct_reads I h
      exact ⟨as, q, fun _ => n⟩
  | .dict (_ :: _), _, _, h, _ => by cases h
theorem DQs.reads (I : Inv X pins σ H s) : ∀ (ds : List PyData) (vs : List V) (us : List Value), DQs X.K H vs ds → L2.Vals vs us → ∃ as, PySem.ReadsAll s.heap us ds as ∧ (noListAll ds = true → sysModules ∉ as)
  | [], _, _, h, r => by
    cases h
    cases r
    exact ⟨_, .nil, fun _ => List.not_mem_nil⟩
  | d :: ds, _, _, h, r => by
    cases h with
    | cons h1 h2 =>
      cases r with
      | cons r1 r2 =>
        obtain ⟨as, q1, n1⟩ := DQ.reads I d _ _ h1 r1
        obtain ⟨bs, q2, n2⟩ := DQs.reads I ds _ _ h2 r2
        refine ⟨_, .cons q1 q2, fun z => ?_⟩
        have z' : (noList d && noListAll ds) = true := z
        rw [Bool.and_eq_true] at z'
        rw [List.mem_append]
        exact fun hm => hm.elim (n1 z'.1) (n2 z'.2)
end
end
/-- repr of data -/
def rReprQ (K : PySem.W.Frag) : List V → Hp → VK → Prop := fun xs H Q => ∃ (v : V) (d : PyData), xs = [v] ∧ DQ K H v d ∧ (d.hasDict = true → noList d = true) ∧ d.showable = true ∧ d.depth ≤ 8 ∧ d.shown.length ≤ sizeLine ∧ Q (.str d.shown) H
theorem call_reprQ {X : Cx} (hg : X.A.guards = some []) (hu : X.A.units + 64 < cLine) : CallR X (.builtin "repr") (rReprQ X.K) := by
  intro pins s σ H xs us Q I r h
  obtain ⟨v, d, rfl, hD, hn, hsh, hdp, hsz, q⟩ := h
  obtain ⟨u, rfl, ru⟩ := vals1 r
  obtain ⟨as, hr, hsm⟩ := DQ.reads I d v u hD ru
  have hsm' : d.hasDict = true → sysModules ∉ as := fun z => hsm (hn z)
  cases hr with
  | none => exact PySem.P.repr_of_none ⟨.str _, H, I.tok _, ⟨_, rfl⟩, q⟩
  | bool b => exact PySem.P.repr_of_bool ⟨.str _, H, I.tok _, ⟨_, rfl⟩, q⟩
  | int i t => exact PySem.P.repr_of_int (of_decide_eq_true hsh) ⟨.str _, H, I.tok _, ⟨_, rfl⟩, q⟩
  | str x t => exact PySem.P.repr_of_str ⟨.str _, H, I.tok _, ⟨_, rfl⟩, q⟩ hsz
  | list a1 a2 a3 a4 => exact repr_of_reads' (PySem.Reads.list a1 a2 a3 a4) hsh hsm' hg (by omega) (fun _ _ e => e) (fun h' u tk hk => ⟨.str _, H, I.kept hk, ⟨_, rfl⟩, q⟩) hsz
  | tuple a1 a2 a3 a4 => exact repr_of_reads' (PySem.Reads.tuple a1 a2 a3 a4) hsh hsm' hg (by omega) (fun _ _ e => e) (fun h' u tk hk => ⟨.str _, H, I.kept hk, ⟨_, rfl⟩, q⟩) hsz
  | dict a1 a2 a3 a4 a5 => exact repr_of_reads' (PySem.Reads.dict a1 a2 a3 a4 a5) hsh hsm' hg (by omega) (fun _ _ e => e) (fun h' u tk hk => ⟨.str _, H, I.kept hk, ⟨_, rfl⟩, q⟩) hsz
def lenT (n : Nat) (t : TS) : TS := fun D σ H => σ.length = n → t D σ H
theorem pss_len {X : Cx} {sts : List Stmt} {t : TS} {n : Nat} (h : PSs X sts t) (hn : X.N.length = n) : PSs X sts (lenT n t) := ⟨fun pins s σ H D I q => h.run pins s σ H D I (q (I.len.trans hn))⟩
def tsNo : SuiteT := fun _ _ _ => tNever
/-- data that repr tells -/
structure Shows (K : PySem.W.Frag) (H : Hp) (v : V) (d : PyData) : Prop where
  dq : DQ K H v d
  nl : d.hasDict = true → noList d = true
  sh : d.showable = true
  dp : d.depth ≤ 8
  sz : d.shown.length ≤ sizeLine
theorem Shows.to {K : PySem.W.Frag} {H H' : Hp} {v : V} {d : PyData} (h : Shows K H v d) (s : Same H H') : Shows K H' v d := ⟨h.dq.to s, h.nl, h.sh, h.dp, h.sz⟩
end K1
/-! what the top has written -/
namespace K1
open PySem L2
def tabL : List (Nat × Str × List Str) := [(1, (("is_number" : Str), [("value" : Str)])),
  (2, (("is_from" : Str), [("value" : Str), ("least" : Str), ("most" : Str)])),
  (9, (("does_hold" : Str), [("kind" : Str)])),
  (15, (("written_end" : Str), [("text" : Str), ("at" : Str)])),
  (16, (("number_end" : Str), [("text" : Str), ("at" : Str)])),
  (17, (("_positive_end" : Str), [("text" : Str), ("at" : Str)])),
  (18, (("_stands" : Str), [("text" : Str), ("at" : Str), ("signs" : Str)])),
  (21, (("_head" : Str), [("text" : Str), ("at" : Str)])),
  (22, (("_bracket" : Str), [("text" : Str), ("at" : Str)])),
  (24, (("spans_of" : Str), [("text" : Str)])),
  (25, (("item_at" : Str), [("text" : Str), ("index" : Str)])),
  (27, (("_law_pool" : Str), [("_law_script" : Str), ("_law_k" : Str)])),
  (28, (("_law_take" : Str), [("_law_pool_here" : Str), ("_law_bound" : Str)])),
  (29, (("_law_one" : Str), [("_law_pool_here" : Str), ("_law_things" : Str)])),
  (30, (("_law_item" : Str), [("_law_pool_here" : Str), ("_law_deep" : Str), ("_law_names" : Str)])),
  (31, (("_law_program" : Str), [("_law_pool_here" : Str), ("_law_names" : Str)])),
  (32, (("_law_word" : Str), [("_law_item_here" : Str)])),
  (33, (("_law_text" : Str), [("_law_program_here" : Str)])),
  (34, (("_law_spans" : Str), [("_law_items" : Str), ("_law_path" : Str), ("_law_first" : Str)])),
  (35, (("_law_told" : Str), [("_law_text_here" : Str), ("_law_index" : Str)])),
  (36, (("law" : Str), [("_law_script" : Str)]))]
/-- the module's constants -/
structure Cn (K : PySem.W.Frag) (mg : Str → Option Value) : Prop where
  hol : ∃ a, mg "_HOLDERS" = some (.ref a) ∧ ∀ H, SqT K H a [.str "block", .str "let", .str "sum", .str "product"]
  let_ : ∃ t, mg "_LETTERS" = some (.str "abcdefghijklmnopqrstuvwxyz" t)
  fig : ∃ t, mg "_FIGURES" = some (.str "0123456789" t)
  ffig : ∃ t, mg "_FIRST_FIGURES" = some (.str "123456789" t)
  most : ∃ t, mg "_MOST_LETTERS" = some (.int 4 t)
/-- all that the top has written -/
structure All (K : PySem.W.Frag) (mg : Str → Option Value) : Prop where
  dn : ∀ i x ps, tabL.lookup i = some (x, ps) → ∃ g fd, Dn K mg x ps (top i) g fd
  bi : Bi mg
  cn : Cn K mg
/-- a def that keeps a promise, called by its name -/
def Cl (P : Program) (w : World) (K : PySem.W.Frag) (mg : Str → Option Value) (base : Heap) (k : Nat) (x : Str) (ps : List Str) (sp : Sp) : Prop :=
  ∃ g fd, FnOk P w K mg base CX0 k g fd ps sp ∧ mg x = some (.ref g) ∧ PySem.W.keepIn K (.ref g) = true ∧ Binds K fd ps []
theorem Dn.cl {P : Program} {w : World} {K : PySem.W.Frag} {mg : Str → Option Value} {base : Heap} {k : Nat} {x : Str} {ps : List Str} {st : Stmt} {g : Addr} {fd : FuncData} {sp : Sp} (D : Dn K mg x ps st g fd) (F : FnOk P w K mg base CX0 k g fd ps sp) : Cl P w K mg base k x ps sp :=
  ⟨g, fd, F, D.mg, D.fn.kp, D.bn⟩
theorem pe_cl {X : Cx} {k m : Nat} {x : Str} {ps : List Str} {sp : Sp} {e : Expr} {es : List Expr} {t : TA} {p pos : Pos} (C : Cl X.prog X.w X.K X.mg X.base k x ps sp) (hr : Room m X.A) (hk : k ≤ m) (ha : PA X (e :: es) t) (hg : Gl X x := by rfl) (hdb : (x == ("__debug__" : Str)) = false := by decide)
    (he : starEach (e :: es) X.env = (false, eval e X.env) :: starEach es X.env := by rfl) (hpl : (backTo pos (starEach es X.env)).any (·.1) = false := by rfl) : PE X (.Call (.Name x p) (e :: es) [] pos) (tCall sp [] E0 t) := by
  obtain ⟨g, fd, F, hm, hk', hb⟩ := C
  exact pe_call F (hr.mono hk) hg hm hk' hb .nil pass0 ha hdb he hpl
section
variable {P : Program} {w : World} {K : PySem.W.Frag} {mg : Str → Option Value} {base : Heap}
theorem cl_number (T : All K mg) : Cl P w K mg base 1 "is_number" ["value"] (spD K numD) := by
  obtain ⟨g, fd, D⟩ := T.dn 1 _ _ rfl
  exact D.cl (ok_number D.fn T.bi)
theorem cl_from (T : All K mg) : Cl P w K mg base 2 "is_from" ["value", "least", "most"] (spFrom K) := by
  obtain ⟨g, fd, D⟩ := T.dn 2 _ _ rfl
  obtain ⟨g1, fd1, D1⟩ := T.dn 1 _ _ rfl
  exact D.cl (ok_from D.fn T.bi D1)
end
end K1
/-! the law's drawing -/
namespace K1
open PySem L2
/-- a drawing source at p: two ints, the second one in its range -/
def Src (H : Hp) (p : Addr) : Prop := ∃ a b : Int, H p = some (.lst [.int a, .int b]) ∧ 0 ≤ b ∧ b < 2147483647
def spPool (K : PySem.W.Frag) : Sp := fun vs H Q _ => ∃ (a : Addr) (ns : List Int) (j : Nat), vs = [.ref a, .int (j : Int)] ∧ j ≤ 2 ∧ SqL K H a (ns.map V.int) ∧ ∀ (p : Addr) (A B : Int), H p = none → 0 ≤ B → B < 2147483647 → Q (.ref p) (upd H p (.lst [.int A, .int B]))
def spTake : Sp := fun vs H Q _ => ∃ (p : Addr) (t a b : Int), vs = [.ref p, .int t] ∧ H p = some (.lst [.int a, .int b]) ∧ 0 ≤ b ∧ b < 2147483647 ∧ 0 < t ∧ t.natAbs < 2 ^ 100 ∧
  ∀ r a' b' : Int, 0 ≤ r → r < t → 0 ≤ b' → b' < 2147483647 → Q (.int r) (upd H p (.lst [.int a', .int b']))
structure Nms (mg : Str → Option Value) : Prop where
  len : mg "len" = none
  max : mg "max" = none
  int : mg "int" = none
section
variable {P : Program} {w : World} {K : PySem.W.Frag} {mg : Str → Option Value} {base : Heap}
theorem sc_pool : FnScope ["_law_script", "_law_k", "_law_cell", "_law_big", "_law_mixed"] ["_law_script", "_law_k"] (defScope (top 27)) := ⟨rfl, rfl, rfl, by decide +kernel, rfl, by decide +kernel, by decide +kernel⟩
theorem cl_pool (TT : All K mg) (T : Nms mg) : Cl P w K mg base 1 "_law_pool" ["_law_script", "_law_k"] (spPool K) := by
  obtain ⟨g, fd, D⟩ := TT.dn 27 _ _ rfl
  refine D.cl (D.fn.ok sc_pool (fun vs H Q E h => ?_) (fun cdv A outer s H vs Q E hr h => ?_))
  · obtain ⟨a, ns, j, rfl, _⟩ := h
    rfl
  · obtain ⟨a, ns, j, rfl, hj, hS, k⟩ := h
    refine ⟨_, pss_cons (ps_set (i := 2) sc_pool.nd rfl (Or.inl rfl) pe_int)
      (pss_cons (ps_if (pt_cmpR op_lt (pv 1) (pe_callB call_len_seq (by rfl) T.len PySem.boot_len (pa_cons (pv 0) pa_nil)) (nomark _)) (pss_one (ps_set (i := 2) sc_pool.nd rfl (Or.inl rfl) (pe_ix ix_list (pv 0) (pv 1) (fun _ _ => rfl)))) pss_nil)
      (pss_cons (ps_set (i := 3) sc_pool.nd rfl (Or.inl rfl) (pe_callB (call_max2 rfl) (by rfl) T.max (by decide +kernel) (pa_cons (pe_callTy call_int1 (by rfl) T.int (by decide +kernel) (pa_cons (pv 2) pa_nil)) (pa_cons (pe_callTy call_int1 (by rfl) T.int (by decide +kernel) (pa_cons (pe_op op_sub (pe_un un_neg pe_int) (pv 2)) pa_nil)) pa_nil))))
      (pss_cons (ps_set (i := 4) sc_pool.nd rfl (Or.inl rfl) (pe_op op_modN (pe_callTy call_int1 (by rfl) T.int (by decide +kernel) (pa_cons (pe_op op_mul (pe_op op_add (pe_op op_add (pe_op op_add (pe_op op_modN (pe_callTy call_int1 (by rfl) T.int (by decide +kernel) (pa_cons (pv 3) pa_nil)) pe_int) (pe_op op_mul (pe_op op_mul pe_int (pv 1)) (pv 1))) (pe_op op_mul pe_int (pv 1))) pe_int) pe_int) pa_nil)) pe_int))
      (pss_one (ps_ret (pe_lst (pa_cons (pe_op op_mul (pv 3) (pe_callTy call_int1 (by rfl) T.int (by decide +kernel) (pa_cons (pe_cmpR op_ge (pv 3) (pe_op op_pow pe_int pe_int) (nomark _)) pa_nil))) (pa_cons (pv 4) pa_nil)))))))), ?_⟩
    refine ⟨_, rfl, _, rfl, a, _, rfl, .inl hS, _, _, rfl, rfl, _, rfl, ?_⟩
    have low : ∀ n : Int, ∃ m : Int, ∀ j' : Nat, j' ≤ 2 → True := fun _ => ⟨0, fun _ _ => trivial⟩
    refine ite2 (fun hlt => ?_) (fun hge => ?_)
    · obtain ⟨n, hn⟩ : ∃ n, ns[j]? = some n := by
        have h1 : j < ns.length := by
          rw [List.length_map] at hlt
          have := of_decide_eq_true hlt
          omega
        exact ⟨ns[j], List.getElem?_eq_getElem h1⟩
      have hn' : (ns.map V.int)[j]? = some (V.int n) := by
        rw [List.getElem?_map, hn]
        rfl
      refine ⟨_, rfl, _, rfl, a, _, _, V.int n, rfl, rfl, hS, atI_nat hn', ?_⟩
      obtain rfl | rfl | rfl : j = 0 ∨ j = 1 ∨ j = 2 := by omega
      all_goals
        refine ⟨_, rfl, .inl ⟨_, rfl, _, rfl, _, rfl, _, _, rfl, rfl, .inl ⟨_, rfl, _, _, rfl, ?_⟩⟩⟩
        refine ⟨_, rfl, .inl ⟨_, rfl, _, _, rfl, rfl, (by show (2147483629 : Int) ≠ 0; decide), _, rfl, _, _, rfl, rfl, .inl ⟨by decide, by decide⟩, _, rfl, _, _, rfl, rfl, .inl ⟨by decide, by decide⟩, _, _, rfl, rfl, _, rfl, _, _, rfl, rfl, .inl ⟨by decide, by decide⟩, _, _, rfl, rfl, _, _, rfl, rfl, _, _, rfl, rfl, .inr ⟨by decide, by decide⟩, .inl ⟨_, rfl, _, _, rfl, rfl, (by show (2147483647 : Int) ≠ 0; decide), ?_⟩⟩⟩
        refine ⟨_, rfl, _, rfl, _, _, rfl, rfl, ⟨by decide, by decide, by decide⟩, _, _, rfl, rfl, .inr ⟨_, rfl, _, _, rfl, rfl, .inr (K0.b01 _), _, rfl, (by show 2 ≤ sizeLine; decide), fun l hl => k l _ _ hl (K0.fmod_nn _ (by decide)) (K0.fmod_lt _ (by decide))⟩⟩
    · obtain rfl | rfl | rfl : j = 0 ∨ j = 1 ∨ j = 2 := by omega
      all_goals
        refine ⟨_, rfl, .inl ⟨_, rfl, _, rfl, _, rfl, _, _, rfl, rfl, .inl ⟨_, rfl, _, _, rfl, ?_⟩⟩⟩
        refine ⟨_, rfl, .inl ⟨_, rfl, _, _, rfl, rfl, (by show (2147483629 : Int) ≠ 0; decide), _, rfl, _, _, rfl, rfl, .inl ⟨by decide, by decide⟩, _, rfl, _, _, rfl, rfl, .inl ⟨by decide, by decide⟩, _, _, rfl, rfl, _, rfl, _, _, rfl, rfl, .inl ⟨by decide, by decide⟩, _, _, rfl, rfl, _, _, rfl, rfl, _, _, rfl, rfl, .inr ⟨by decide, by decide⟩, .inl ⟨_, rfl, _, _, rfl, rfl, (by show (2147483647 : Int) ≠ 0; decide), ?_⟩⟩⟩
        refine ⟨_, rfl, _, rfl, _, _, rfl, rfl, ⟨by decide, by decide, by decide⟩, _, _, rfl, rfl, .inr ⟨_, rfl, _, _, rfl, rfl, .inr (K0.b01 _), _, rfl, (by show 2 ≤ sizeLine; decide), fun l hl => k l _ _ hl (K0.fmod_nn _ (by decide)) (K0.fmod_lt _ (by decide))⟩⟩
theorem sc_take : FnScope ["_law_pool_here", "_law_bound", "_law_result"] ["_law_pool_here", "_law_bound"] (defScope (top 28)) := ⟨rfl, rfl, rfl, by decide +kernel, rfl, by decide +kernel, by decide +kernel⟩
theorem cl_take (TT : All K mg) (T : Nms mg) : Cl P w K mg base 1 "_law_take" ["_law_pool_here", "_law_bound"] spTake := by
  obtain ⟨g, fd, D⟩ := TT.dn 28 _ _ rfl
  refine D.cl (D.fn.ok sc_take (fun vs H Q E h => ?_) (fun cdv A outer s H vs Q E hr h => ?_))
  · obtain ⟨p, t, a, b, rfl, _⟩ := h
    rfl
  · obtain ⟨p, t, a, b, rfl, hp, b0, b1, t0, t1, k⟩ := h
    refine ⟨_, pss_cons (ps_if (pt_cmpR op_gt (pe_ix ix_list (pv 0) pe_int (fun _ _ => rfl)) pe_int (nomark _))
        (pss_cons (ps_set (i := 2) sc_take.nd rfl (Or.inl rfl) (pe_op op_modN (pe_callTy call_int1 (by rfl) T.int (by decide +kernel) (pa_cons (pe_ix ix_list (pv 0) pe_int (fun _ _ => rfl)) pa_nil)) (pv 1)))
        (pss_cons (ps_asg (pe_op op_fdivW (pe_ix ix_list (pv 0) pe_int (fun _ _ => rfl)) (pv 1)) (pg_sub (pv 0) pe_int set_list))
        (pss_one (ps_ret (pv 2))))) pss_nil)
      (pss_cons (ps_asg (pe_op op_modN (pe_callTy call_int1 (by rfl) T.int (by decide +kernel) (pa_cons (pe_op op_add (pe_op op_mul (pe_ix ix_list (pv 0) pe_int (fun _ _ => rfl)) pe_int) pe_int) pa_nil)) pe_int) (pg_sub (pv 0) pe_int set_list))
      (pss_one (ps_ret (pe_op op_modN (pe_callTy call_int1 (by rfl) T.int (by decide +kernel) (pa_cons (pe_op op_fdiv (pe_op op_modN (pe_callTy call_int1 (by rfl) T.int (by decide +kernel) (pa_cons (pe_op op_mul (pe_ix ix_list (pv 0) pe_int (fun _ _ => rfl)) (pe_ix ix_list (pv 0) pe_int (fun _ _ => rfl))) pa_nil)) pe_int) pe_int) pa_nil)) (pv 1))))), ?_⟩
    refine ⟨_, rfl, p, _, _, .int a, rfl, rfl, SqL.of hp, atI_nat (j := 0) rfl, _, _, rfl, rfl, _, rfl, ?_⟩
    refine ite2 (fun hlt => ?_) (fun hge => ?_)
    · refine ⟨_, rfl, p, _, _, .int a, rfl, rfl, SqL.of hp, atI_nat (j := 0) rfl, .inl ⟨_, rfl, _, rfl, _, _, rfl, rfl, (by omega), ?_⟩⟩
      refine ⟨_, rfl, p, _, _, .int a, rfl, rfl, SqL.of hp, atI_nat (j := 0) rfl, _, rfl, _, _, rfl, rfl, wide_div t0 t1 (by decide) (by decide), _, rfl, p, _, _, 0, rfl, rfl, hp, rfl, ?_⟩
      exact ⟨_, rfl, k _ _ _ (K0.fmod_nn _ t0) (K0.fmod_lt _ t0) b0 b1⟩
    · refine ⟨_, rfl, p, _, _, .int b, rfl, rfl, SqL.of hp, atI_nat (j := 1) rfl, _, _, rfl, rfl, .inr ⟨by decide, by decide⟩, _, _, rfl, rfl, .inl ⟨_, rfl, _, _, rfl, rfl, (by show (2147483647 : Int) ≠ 0; decide), _, rfl, p, _, _, 1, rfl, rfl, hp, rfl, ?_⟩⟩
      have c0 := K0.fmod_nn (b * 39373 + 7) (b := 2147483647) (by decide)
      have c1 := K0.fmod_lt (b * 39373 + 7) (b := 2147483647) (by decide)
      refine ⟨_, rfl, p, _, _, _, rfl, rfl, SqL.of upd_same, atI_nat (j := 1) rfl, _, rfl, p, _, _, _, rfl, rfl, SqL.of upd_same, atI_nat (j := 1) rfl, _, _, rfl, rfl, .inl ⟨by omega, by omega⟩, .inl ⟨_, rfl, _, _, rfl, rfl, (by show (2147483629 : Int) ≠ 0; decide), _, _, rfl, rfl, ⟨by decide, by decide⟩, .inl ⟨_, rfl, _, rfl, _, _, rfl, rfl, (by omega), ?_⟩⟩⟩
      exact k _ _ _ (K0.fmod_nn _ t0) (K0.fmod_lt _ t0) c0 c1
end
/-- all but the source -/
def hid (p : Addr) (H : Hp) : Hp := fun b => if b = p then none else H b
theorem hid_ne {p b : Addr} {H : Hp} (h : b ≠ p) : hid p H b = H b := if_neg h
theorem hid_at {p b : Addr} {H : Hp} {u : HO} (h : hid p H b = some u) : b ≠ p ∧ H b = some u := by
  unfold hid at h
  by_cases e : b = p
  · rw [if_pos e] at h
    cases h
  · rw [if_neg e] at h
    exact ⟨e, h⟩
theorem hid_same (p : Addr) (H : Hp) : Same (hid p H) H := fun b u e => (hid_at e).2
/-- drawn from the source at p; all else stands -/
structure Bt (p : Addr) (H H' : Hp) : Prop where
  same : Same (hid p H) (hid p H')
  src : Src H' p
theorem Bt.refl {p : Addr} {H : Hp} (h : Src H p) : Bt p H H := ⟨Same.refl _, h⟩
theorem Bt.trans {p : Addr} {H H1 H2 : Hp} (a : Bt p H H1) (b : Bt p H1 H2) : Bt p H H2 := ⟨a.same.trans b.same, b.src⟩
theorem Bt.at {p b : Addr} {H H' : Hp} {u : HO} (h : Bt p H H') (n : b ≠ p) (e : H b = some u) : H' b = some u := (hid_at (h.same b u (by rw [hid_ne n]; exact e))).2
/-- something new beside the source -/
theorem Bt.new {p q : Addr} {H H' : Hp} {o : HO} (h : Bt p H H') (n : H' q = none) : Bt p H (upd H' q o) := by
  obtain ⟨a, b, e, r⟩ := h.src
  have nq : p ≠ q := ne_of_none e n
  refine ⟨h.same.trans fun c u hc => ?_, a, b, by rw [upd_ne nq]; exact e, r⟩
  obtain ⟨c1, c2⟩ := hid_at hc
  rw [hid_ne c1, upd_ne (ne_of_none c2 n)]
  exact c2
theorem Bt.put {p : Addr} {H H' : Hp} (h : Bt p H H') {a b : Int} (b0 : 0 ≤ b) (b1 : b < 2147483647) : Bt p H (upd H' p (.lst [.int a, .int b])) := by
  refine ⟨h.same.trans fun c u hc => ?_, a, b, upd_same, b0, b1⟩
  obtain ⟨c1, c2⟩ := hid_at hc
  rw [hid_ne c1, upd_ne c1]
  exact c2
/-- what is grown, nothing else being changed -/
theorem Bt.grow {p : Addr} {H H1 H2 : Hp} (h : Bt p H H1) (s : Same H1 H2) : Bt p H H2 := by
  obtain ⟨a, b, e, r⟩ := h.src
  refine ⟨h.same.trans fun c u hc => ?_, a, b, s _ _ e, r⟩
  obtain ⟨c1, c2⟩ := hid_at hc
  rw [hid_ne c1]
  exact s _ _ c2
/-- .. of the draws -/
def spTakeB : Sp := fun vs H Q _ => ∃ (p : Addr) (t : Int), vs = [.ref p, .int t] ∧ Src H p ∧ 0 < t ∧ t.natAbs < 2 ^ 100 ∧ ∀ (r : Int) H', 0 ≤ r → r < t → Bt p H H' → Q (.int r) H'
def spOne (K : PySem.W.Frag) : Sp := fun vs H Q _ => ∃ (p l : Addr) (us : List V) (ds : List PyData), vs = [.ref p, .ref l] ∧ Src H p ∧ SqL K (hid p H) l us ∧ DQs K (hid p H) us ds ∧ 0 < ds.length ∧ ds.length < 2 ^ 60 ∧
  ∀ H' u d, d ∈ ds → Bt p H H' → DQ K (hid p H') u d → Q u H'
section
variable {P : Program} {w : World} {K : PySem.W.Frag} {mg : Str → Option Value} {base : Heap}
theorem cl_takeB (TT : All K mg) (T : Nms mg) : Cl P w K mg base 1 "_law_take" ["_law_pool_here", "_law_bound"] spTakeB := by
  obtain ⟨g, fd, F, h⟩ := cl_take (P := P) (w := w) (base := base) TT T
  refine ⟨g, fd, F.imp fun vs H Q E q => ?_, h⟩
  obtain ⟨p, t, e, ⟨a, b, hp, b0, b1⟩, t0, t1, k⟩ := q
  exact ⟨p, t, a, b, e, hp, b0, b1, t0, t1, fun r a' b' r0 r1 c0 c1 => k r _ r0 r1 ((Bt.refl ⟨a, b, hp, b0, b1⟩).put c0 c1)⟩
theorem sc_one : FnScope ["_law_pool_here", "_law_things"] ["_law_pool_here", "_law_things"] (defScope (top 29)) := ⟨rfl, rfl, rfl, by decide +kernel, rfl, by decide +kernel, by decide +kernel⟩
theorem cl_one (TT : All K mg) (T : Nms mg) : Cl P w K mg base 2 "_law_one" ["_law_pool_here", "_law_things"] (spOne K) := by
  obtain ⟨g, fd, D⟩ := TT.dn 29 _ _ rfl
  refine D.cl (D.fn.ok sc_one (fun vs H Q E h => ?_) (fun cdv A outer s H vs Q E hr h => ?_))
  · obtain ⟨p, l, us, ds, rfl, _⟩ := h
    rfl
  · obtain ⟨p, l, us, ds, rfl, hsrc, hl, hd, h0, h1, k⟩ := h
    refine ⟨_, pss_one (ps_ret (pe_ix ix_list (pv 1) (pe_cl (cl_takeB TT T) hr (by decide) (pa_cons (pv 0) (pa_cons (pe_callB call_len_seq (by rfl) T.len PySem.boot_len (pa_cons (pv 1) pa_nil)) pa_nil))) (fun _ _ => rfl))), ?_⟩
    have hlen := hd.len
    refine ⟨_, rfl, _, rfl, _, rfl, l, us, rfl, .inl ((hid_same p H).seq hl), p, _, rfl, hsrc, by omega, by omega, fun r H' r0 r1 bt => ?_⟩
    obtain ⟨i, rfl⟩ : ∃ i : Nat, r = (i : Int) := ⟨r.toNat, by omega⟩
    have hi : i < ds.length := by omega
    obtain ⟨u, hu, hq⟩ := hd.get (i := i) (List.getElem?_eq_getElem hi)
    exact ⟨l, us, _, u, rfl, rfl, (hid_same p H').seq (bt.same.seq hl), atI_nat hu, k H' u _ (List.getElem_mem hi) bt (hq.to bt.same)⟩
end
theorem Dn.clG {P : Program} {w : World} {K : PySem.W.Frag} {mg : Str → Option Value} {base : Heap} {k : Nat} {x : Str} {ps : List Str} {st : Stmt} {g : Addr} {fd : FuncData} {sp : Sp} (D : Dn K mg x ps st g fd) (F : FnG P w K mg base k g fd ps sp) : ClG P w K mg base k x ps sp :=
  ⟨g, fd, F, D.mg, D.fn.kp, D.bn⟩
/-- what has come since -/
def nw (H H' : Hp) : Hp := fun b => match H b with
  | none => H' b
  | some _ => none
theorem nw_at {H H' : Hp} {b : Addr} {u : HO} (h : nw H H' b = some u) : H b = none ∧ H' b = some u := by
  unfold nw at h
  cases e : H b with
  | none =>
    rw [e] at h
    exact ⟨rfl, h⟩
  | some x =>
    rw [e] at h
    cases h
theorem nw_of {H H' : Hp} {b : Addr} {u : HO} (n : H b = none) (h : H' b = some u) : nw H H' b = some u := by
  unfold nw
  rw [n]
  exact h
theorem nw_in (H H' : Hp) : Same (nw H H') H' := fun b u e => (nw_at e).2
theorem nw_more {H H1 H2 : Hp} (s : Same H1 H2) : Same (nw H H1) (nw H H2) := fun b u e => nw_of (nw_at e).1 (s _ _ (nw_at e).2)
theorem old_none {H H1 : Hp} {b : Addr} (s : Same H H1) (n : H1 b = none) : H b = none := by
  cases e : H b with
  | none => rfl
  | some u =>
    rw [s b u e] at n
    cases n
theorem nw_less {H H1 H2 : Hp} (s : Same H H1) : Same (nw H1 H2) (nw H H2) := fun b u e => nw_of (old_none s (nw_at e).1) (nw_at e).2
theorem nw_hid {p : Addr} {H H' : Hp} (h : Src H p) : Same (nw H H') (hid p H') := fun b u e => by
  obtain ⟨x, y, z, _⟩ := h
  rw [hid_ne (Ne.symm (ne_of_none z (nw_at e).1))]
  exact (nw_at e).2
def tLit (K : PySem.W.Frag) (d : PyData) : TE := fun _ H Q => ∀ H' v, Same H H' → DQ K (nw H H') v d → Q v H'
def tLits (K : PySem.W.Frag) (ds : List PyData) : TA := fun _ H Q => ∀ H' vs, Same H H' → DQs K (nw H H') vs ds → Q vs H'
theorem DQs.to {K : PySem.W.Frag} {H H' : Hp} {vs : List V} {ds : List PyData} (h : DQs K H vs ds) (s : Same H H') : DQs K H' vs ds := DQs.same s ds vs h
/-- a list that is tracked, of written data -/
def tLstL (K : PySem.W.Frag) (ds : List PyData) : TE := fun _ H Q => ∀ H' p vs, Same H H' → H p = none → H' p = some (.lst vs) → DQs K (nw H H') vs ds → Q (.ref p) H'
section
variable {X : Cx}
theorem li_non {j pos} : PE X (.Constant .none j pos) (tLit X.K .none) := K0.pe_imp pe_non fun σ H Q q => q H _ (Same.refl _) .non
theorem li_bl {b j pos} : PE X (.Constant (.bool b) j pos) (tLit X.K (.bool b)) := K0.pe_imp pe_bl fun σ H Q q => q H _ (Same.refl _) (.bl b)
theorem li_int {i j pos} : PE X (.Constant (.int i) j pos) (tLit X.K (.int i)) := K0.pe_imp pe_int fun σ H Q q => q H _ (Same.refl _) (.int i)
theorem li_neg {i j p1 pos} : PE X (.UnaryOp .USub (.Constant (.int i) j p1) pos) (tLit X.K (.int (-i))) := K0.pe_imp (pe_un un_neg pe_int) fun σ H Q q => ⟨i, rfl, q H _ (Same.refl _) (.int _)⟩
theorem li_str {x j pos} (h : x.length ≤ 1000) : PE X (.Constant (.str x) j pos) (tLit X.K (.str x)) := K0.pe_imp pe_str fun σ H Q q => q H _ (Same.refl _) (.str x h)
theorem li_dct {pos} : PE X (.Dict [] [] pos) (tLit X.K (.dict [])) := K0.pe_imp pe_dnewK fun σ H Q q p np => q _ _ (K0.same_upd np) (.dct (nw_of np upd_same))
theorem las_nil : PA X [] (tLits X.K []) := K0.pa_imp pa_nil fun σ H Q q => q H [] (Same.refl _) .nil
theorem las_cons {e : Expr} {es : List Expr} {d : PyData} {ds : List PyData} (h : PE X e (tLit X.K d)) (hs : PA X es (tLits X.K ds)) (he : starEach (e :: es) X.env = (false, eval e X.env) :: starEach es X.env := by rfl) : PA X (e :: es) (tLits X.K (d :: ds)) :=
  K0.pa_imp (pa_cons h hs he) fun σ H Q q H1 v S1 h1 H2 vs S2 h2 => q H2 (v :: vs) (S1.trans S2) (.cons (h1.to (nw_more S2)) (h2.to (nw_less S1)))
theorem li_tup {es : List Expr} {ds : List PyData} {x1 pos} (h : PA X es (tLits X.K ds)) (hl : ds.length ≤ 1000) : PE X (.Tuple es x1 pos) (tLit X.K (.tuple ds)) :=
  K0.pe_imp (pe_tup h) fun σ H Q q H1 vs S1 h1 => ⟨by rw [h1.len, sizeLine_eq]; omega, fun p np => q _ _ (S1.trans (K0.same_upd np)) (.tup (.inl (.inl (nw_of (old_none S1 np) upd_same))) (h1.to (nw_more (K0.same_upd np))))⟩
theorem li_lst {es : List Expr} {ds : List PyData} {pos} (h : PA X es (tLits X.K ds)) (hl : ds.length ≤ 1000) : PE X (.List es pos) (tLit X.K (.list ds)) :=
  K0.pe_imp (pe_lst h) fun σ H Q q H1 vs S1 h1 => ⟨by rw [h1.len, sizeLine_eq]; omega, fun p np => q _ _ (S1.trans (K0.same_upd np)) (.lst (SqL.of (nw_of (old_none S1 np) upd_same)) (h1.to (nw_more (K0.same_upd np))))⟩
theorem li_list {es : List Expr} {ds : List PyData} {pos} (h : PA X es (tLits X.K ds)) (hl : ds.length ≤ 1000) : PE X (.List es pos) (tLstL X.K ds) :=
  K0.pe_imp (pe_lst h) fun σ H Q q H1 vs S1 h1 => ⟨by rw [h1.len, sizeLine_eq]; omega, fun p np => q _ p vs (S1.trans (K0.same_upd np)) (old_none S1 np) upd_same (h1.to (nw_more (K0.same_upd np)))⟩
end
theorem DQs.app {K : PySem.W.Frag} {H : Hp} : ∀ {vs us : List V} {ds es : List PyData}, DQs K H vs ds → DQs K H us es → DQs K H (vs ++ us) (ds ++ es)
  | _, _, _, _, .nil, k => k
  | _, _, _, _, .cons r t, k => .cons r (t.app k)
def cutD (ds : List PyData) (lo hi : Option Int) : List PyData := (ds.drop (HT.sIx ds.length 0 lo)).take (HT.sIx ds.length ds.length hi - HT.sIx ds.length 0 lo)
theorem DQs.drop {K : PySem.W.Frag} {H : Hp} : ∀ (n : Nat) {vs : List V} {ds : List PyData}, DQs K H vs ds → DQs K H (vs.drop n) (ds.drop n)
  | 0, _, _, h => h
  | n + 1, _, _, .nil => .nil
  | n + 1, _, _, .cons _ t => t.drop n
theorem DQs.take {K : PySem.W.Frag} {H : Hp} : ∀ (n : Nat) {vs : List V} {ds : List PyData}, DQs K H vs ds → DQs K H (vs.take n) (ds.take n)
  | 0, _, _, _ => .nil
  | n + 1, _, _, .nil => .nil
  | n + 1, _, _, .cons r t => .cons r (t.take n)
theorem hid_none {p q : Addr} {H : Hp} (n : H q = none) : hid p H q = none := by
  unfold hid
  by_cases e : q = p
  · rw [if_pos e]
  · rw [if_neg e]
    exact n
/-- small data: nested k deep at most, of weight W at most -/
structure Nice (k W : Nat) (d : PyData) : Prop where
  sh : d.showable = true
  dp : d.depth ≤ k
  lv : d.leavesShort 13 = true
  wt : d.weight ≤ W
theorem Nice.mono {k k' W W' : Nat} {d : PyData} (h : Nice k W d) (a : k ≤ k') (b : W ≤ W') : Nice k' W' d := ⟨h.sh, Nat.le_trans h.dp a, h.lv, Nat.le_trans h.wt b⟩
theorem nice_all {k W : Nat} : ∀ {ds : List PyData}, (∀ d ∈ ds, Nice k W d) → PyData.showableAll ds = true ∧ PyData.depthAll ds ≤ k ∧ PyData.leavesShortAll 13 ds = true ∧ PyData.weightAll ds ≤ ds.length * (W + 1)
  | [], _ => ⟨rfl, Nat.zero_le _, rfl, by simp [PyData.weightAll]⟩
  | d :: ds, h => by
    obtain ⟨h1, h2, h3, h4⟩ := nice_all fun e he => h e (List.mem_cons_of_mem _ he)
    have g := h d List.mem_cons_self
    refine ⟨?_, ?_, ?_, ?_⟩
    · show (d.showable && PyData.showableAll ds) = true
      rw [g.sh, h1]
      rfl
    · show max d.depth (PyData.depthAll ds) ≤ k
      exact Nat.max_le.mpr ⟨g.dp, h2⟩
    · show (d.leavesShort 13 && PyData.leavesShortAll 13 ds) = true
      rw [g.lv, h3]
      rfl
    · show d.weight + 1 + PyData.weightAll ds ≤ (ds.length + 1) * (W + 1)
      rw [Nat.succ_mul]
      have := g.wt
      omega
theorem Nice.tuple {k W : Nat} {ds : List PyData} (h : ∀ d ∈ ds, Nice k W d) : Nice (k + 1) (ds.length * (W + 1)) (.tuple ds) := by
  obtain ⟨h1, h2, h3, h4⟩ := nice_all h
  exact ⟨h1, Nat.succ_le_succ h2, h3, h4⟩
theorem Nice.list {k W : Nat} {ds : List PyData} (h : ∀ d ∈ ds, Nice k W d) : Nice (k + 1) (ds.length * (W + 1)) (.list ds) := by
  obtain ⟨h1, h2, h3, h4⟩ := nice_all h
  exact ⟨h1, Nat.succ_le_succ h2, h3, h4⟩
theorem nice_int {i : Int} (h : i.natAbs < 10000) : Nice 0 14 (.int i) := by
  have lg : i.natAbs.log2 < 14 := by
    by_cases z : i.natAbs = 0
    · rw [z]
      decide
    · exact (Nat.log2_lt z).mpr (by omega)
  refine ⟨?_, Nat.zero_le _, ?_, ?_⟩
  · show decide (i.natAbs.log2 < 1920) = true
    exact decide_eq_true (by omega)
  · show decide ((PyData.shown (.int i)).length ≤ 13) = true
    have e := int_text_length_le10 (a := i) (k := 4) (by decide) h
    refine decide_eq_true ?_
    show (Str.ofString (toString i)).length ≤ 13
    rw [PySem.ofString_length]
    omega
  · show (if i == 0 then 0 else i.natAbs.log2 + 1) ≤ 14
    split <;> omega
theorem nice_none : Nice 0 0 .none := ⟨rfl, Nat.le_refl _, rfl, Nat.le_refl _⟩
theorem nice_str {x : Str} {n : Nat} (h : x.length ≤ n) (hc : x.cps.toList.all (fun c => decide (c < 16 ^ 8)) = true) : Nice 0 n (.str x) := ⟨rfl, Nat.le_refl _, hc, h⟩
theorem shows_of {K : PySem.W.Frag} {H : Hp} {v : V} {d : PyData} {k W : Nat} (h : DQ K H v d) (n : Nice k W d) (hk : k ≤ 8) (hW : W ≤ 2 ^ 20) (p : d.hasDict = true → noList d = true) : Shows K H v d :=
  ⟨h, p, n.sh, Nat.le_trans n.dp hk, PyData.shown_fits (B := 13) (by decide) (by decide) n.lv (Nat.le_trans n.wt hW)⟩
/-- neither dicts nor lists -/
def Pure (d : PyData) : Prop := d.hasDict = false ∧ noList d = true
theorem pure_all : ∀ {ds : List PyData}, (∀ d ∈ ds, Pure d) → PyData.hasDictAll ds = false ∧ noListAll ds = true
  | [], _ => ⟨rfl, rfl⟩
  | d :: ds, h => by
    obtain ⟨h1, h2⟩ := pure_all fun e he => h e (List.mem_cons_of_mem _ he)
    obtain ⟨g1, g2⟩ := h d List.mem_cons_self
    refine ⟨?_, ?_⟩
    · show (d.hasDict || PyData.hasDictAll ds) = false
      rw [g1, h1]
      rfl
    · show (noList d && noListAll ds) = true
      rw [g2, h2]
      rfl
theorem Pure.tuple {ds : List PyData} (h : ∀ d ∈ ds, Pure d) : Pure (.tuple ds) := pure_all h
theorem pure_int (i : Int) : Pure (.int i) := ⟨rfl, rfl⟩
theorem pure_str (x : Str) : Pure (.str x) := ⟨rfl, rfl⟩
theorem pure_none : Pure .none := ⟨rfl, rfl⟩
end K1
/-! texts and their items: data -/
namespace K1
open PySem
def isLet (c : Nat) : Bool := decide (97 ≤ c) && decide (c ≤ 122)
def isFig (c : Nat) : Bool := decide (48 ≤ c) && decide (c ≤ 57)
def isFst (c : Nat) : Bool := decide (49 ≤ c) && decide (c ≤ 57)
/-- does a sign of that kind begin it -/
def sgM (p : Nat → Bool) : List Nat → Bool
  | c :: _ => p c
  | [] => false
def pE (S : List Nat) : Nat := if sgM isFst S = true then (if sgM isFig (S.drop 1) = true then 2 else 1) else 0
/-- the letters ahead, n at most -/
def lE : Nat → List Nat → Nat
  | n + 1, c :: r => if isLet c = true then lE n r + 1 else 0
  | _, _ => 0
def wE (S : List Nat) : Nat := if lE 4 S = 0 then 0 else lE 4 S + pE (S.drop (lE 4 S))
def nE (S : List Nat) : Nat := if sgM (fun c => c == 48) S = true then 1 else pE S
/-- the number that figures tell -/
def numL (l : List Nat) : Int := l.foldl (fun (a : Int) (c : Nat) => 10 * a + ((c : Int) - 48)) 0
def sO (l : List Nat) : Str := ⟨l.toArray⟩
/-- the head behind a bracket, and how many signs it has, the bracket, too -/
def brM (S : List Nat) : List PyData × Nat :=
  if sgM (fun c => c == 43) S = true then ([.str "sum"], 2) else if sgM (fun c => c == 42) S = true then ([.str "product"], 2)
  else if 0 < wE S ∧ (S.drop (wE S)).take 2 = [32, 61] then ([.str "let", .str (sO (S.take (wE S)))], wE S + 3) else ([.str "block"], 1)
def hdM (S : List Nat) : Option (List PyData × Nat) :=
  if sgM (fun c => c == 40) S = true then some (brM (S.drop 1)) else if sgM (fun c => c == 63) S = true then some ([.str "lost"], 1)
  else if 0 < wE S then some ([.str "use", .str (sO (S.take (wE S)))], wE S) else if 0 < nE S then some ([.str "number", .int (numL (S.take (nE S)))], nE S) else none
def holdH : List PyData → Bool
  | .str x :: _ => x == "block" || x == "let" || x == "sum" || x == "product"
  | _ => false
/-- a scan -/
structure Sc where
  paths : List (List Int)
  heads : List (List PyData)
  firsts : List Int
  behinds : List Int
  pos : Nat
  around : List Nat
  counts : List Nat
def Sc.count (S : Sc) : Nat := S.counts.getLast?.getD 0
def Sc.holder (S : Sc) : List Int := match S.around.getLast? with
  | some i => S.paths.getD i []
  | none => []
def Sc.add (S : Sc) (h : List PyData) (n : Nat) : Sc :=
  { paths := S.paths ++ [S.holder ++ [(S.count : Int)]], heads := S.heads ++ [h], firsts := S.firsts ++ [(S.pos : Int)], behinds := S.behinds ++ [((S.pos + n : Nat) : Int)], pos := S.pos + n,
    around := if holdH h = true then S.around ++ [S.heads.length] else S.around,
    counts := if holdH h = true then (S.counts.dropLast ++ [S.count + 1]) ++ [0] else S.counts.dropLast ++ [S.count + 1] }
def Sc.close (S : Sc) : Sc :=
  { S with pos := S.pos + 1, behinds := S.behinds.set (S.around.getLast?.getD 0) ((S.pos + 1 : Nat) : Int), around := S.around.dropLast, counts := S.counts.dropLast }
def blkH : List PyData → Bool
  | [.str x] => x == "block"
  | _ => false
def Sc.newB (S : Sc) : Bool := S.count == 0 && (match S.around.getLast? with
  | some i => blkH (S.heads.getD i [])
  | none => false)
def beginS (T : List Nat) (S : Sc) : Nat ⊕ Sc := match hdM (T.drop S.pos) with
  | none => .inl S.pos
  | some (h, n) => .inr (S.add h n)
def stepS (T : List Nat) (S : Sc) : Nat ⊕ Sc :=
  if T.getD S.pos 0 = 41 ∧ S.around ≠ [] then .inr S.close
  else if S.newB = true then beginS T S
  else if T.getD S.pos 0 = 32 then beginS T { S with pos := S.pos + 1 }
  else .inl S.pos
inductive Runs (T : List Nat) : Nat → Sc → Nat ⊕ Sc → Prop
  | fin {S : Sc} (h : T.length ≤ S.pos) : Runs T 0 S (if S.around = [] then .inr S else .inl S.pos)
  | bad {S : Sc} {e : Nat} (h : S.pos < T.length) (hs : stepS T S = .inl e) : Runs T 0 S (.inl e)
  | go {S S' : Sc} {n : Nat} {r : Nat ⊕ Sc} (h : S.pos < T.length) (hs : stepS T S = .inr S') (ht : Runs T n S' r) : Runs T (n + 1) S r
def sc0 : Sc := ⟨[], [], [], [], 0, [], [0]⟩
/-- steps that lead from one scan to another one -/
inductive Steps (T : List Nat) : Sc → Sc → Prop
  | nil {S : Sc} : Steps T S S
  | cons {S S1 S2 : Sc} (h : S.pos < T.length) (hs : stepS T S = .inr S1) (ht : Steps T S1 S2) : Steps T S S2
theorem Steps.trans {T : List Nat} {S1 S2 S3 : Sc} (a : Steps T S1 S2) (b : Steps T S2 S3) : Steps T S1 S3 := by
  induction a with
  | nil => exact b
  | cons h hs _ ih => exact .cons h hs (ih b)
theorem Steps.runs {T : List Nat} {S1 S2 : Sc} {r : Nat ⊕ Sc} {n : Nat} (a : Steps T S1 S2) (b : Runs T n S2 r) : ∃ m, Runs T m S1 r := by
  induction a with
  | nil => exact ⟨n, b⟩
  | cons h hs _ ih =>
    obtain ⟨m, q⟩ := ih b
    exact ⟨m + 1, .go h hs q⟩
/-! ### items -/
inductive It
  | leaf (h : List PyData) (w : List Nat)
  | node (h : List PyData) (o : List Nat) (b : Bool) (l : List It)
mutual
def It.word : It → List Nat
  | .leaf _ w => w
  | .node _ o b l => o ++ ((if b = true then (gapped l).drop 1 else gapped l) ++ [41])
def gapped : List It → List Nat
  | [] => []
  | x :: r => 32 :: (x.word ++ gapped r)
end
mutual
def It.dat : It → PyData
  | .leaf h _ => .tuple h
  | .node h _ _ l => .tuple (h ++ [.tuple (datL l)])
def datL : List It → List PyData
  | [] => []
  | x :: r => x.dat :: datL r
end
mutual
/-- the rows of an item with that path, from a sign on -/
def It.rows (p : List Int) (at_ : Nat) : It → List (List Int × Int × Int)
  | .leaf _ w => [(p, (at_ : Int), ((at_ + w.length : Nat) : Int))]
  | .node h o b l => (p, (at_ : Int), ((at_ + (It.node h o b l).word.length : Nat) : Int)) :: rowsL p 0 (at_ + o.length + if b = true then 0 else 1) l
/-- .. of those in a holder, from the k-th on -/
def rowsL (p : List Int) (k : Nat) (at_ : Nat) : List It → List (List Int × Int × Int)
  | [] => []
  | x :: r => x.rows (p ++ [(k : Int)]) at_ ++ rowsL p (k + 1) (at_ + x.word.length + 1) r
end
mutual
def It.hds : It → List (List PyData)
  | .leaf h _ => [h]
  | .node h _ _ l => h :: hdsL l
def hdsL : List It → List (List PyData)
  | [] => []
  | x :: r => x.hds ++ hdsL r
end
/-- what stands behind an item -/
def Delim (rest : List Nat) : Prop := rest = [] ∨ (∃ r, rest = 32 :: r) ∨ ∃ r, rest = 41 :: r
/-- .. and does not make a let of the name ahead -/
def Delim2 (rest : List Nat) : Prop := (∃ c r, rest = 32 :: c :: r ∧ c ≠ 61) ∨ ∃ r, rest = 41 :: r
structure LeafOk (h : List PyData) (w : List Nat) : Prop where
  hd : ∀ rest, Delim rest → hdM (w ++ rest) = some (h, w.length)
  br : ∀ rest, Delim2 rest → brM (w ++ rest) = ([.str "block"], 1)
  no : holdH h = false
  st : ∃ c r, w = c :: r ∧ c ≠ 32 ∧ c ≠ 41 ∧ c ≠ 61
inductive NodeOk : List PyData → List Nat → Bool → Prop
  | block : NodeOk [.str "block"] [40] true
  | other {h : List PyData} {o : List Nat} (hd : ∀ rest, hdM (o ++ rest) = some (h, o.length)) (yes : holdH h = true) (nb : blkH h = false) (st : ∃ r, o = 40 :: r) : NodeOk h o false
inductive Gd : Nat → It → Prop
  | leaf {n : Nat} {h : List PyData} {w : List Nat} (k : LeafOk h w) : Gd n (.leaf h w)
  | node {n : Nat} {h : List PyData} {o : List Nat} {b : Bool} {l : List It} (k : NodeOk h o b) (hl : l.length ≤ 3) (hc : ∀ x ∈ l, Gd n x) : Gd (n + 1) (.node h o b l)
theorem NodeOk.yes {h : List PyData} {o : List Nat} {b : Bool} (k : NodeOk h o b) : holdH h = true := by
  cases k with
  | block => decide +kernel
  | other _ y _ _ => exact y
theorem NodeOk.st {h : List PyData} {o : List Nat} {b : Bool} (k : NodeOk h o b) : ∃ r, o = 40 :: r := by
  cases k with
  | block => exact ⟨[], rfl⟩
  | other _ _ _ s => exact s
theorem Gd.st {n : Nat} {x : It} (g : Gd n x) : ∃ c r, x.word = c :: r ∧ c ≠ 32 ∧ c ≠ 41 ∧ c ≠ 61 := by
  cases g with
  | leaf k => exact k.st
  | @node n h o b l k _ _ =>
    obtain ⟨r, rfl⟩ := k.st
    exact ⟨40, _, rfl, by decide, by decide, by decide⟩
/-- the first item of a block: its bracket is a block's -/
theorem br_word {n : Nat} {x : It} (g : Gd n x) {rest : List Nat} (d : Delim2 rest) : brM (x.word ++ rest) = ([.str "block"], 1) := by
  cases g with
  | leaf k => exact k.br rest d
  | @node n h o b l k _ _ =>
    obtain ⟨r, rfl⟩ := k.st
    rfl
theorem br_end (rest : List Nat) : brM (41 :: rest) = ([.str "block"], 1) := rfl
theorem drop_add {T w r : List Nat} {p : Nat} (h : T.drop p = w ++ r) : T.drop (p + w.length) = r := by
  rw [← List.drop_drop, h, List.drop_left]
theorem drop_get {T r : List Nat} {p c : Nat} (h : T.drop p = c :: r) : p < T.length ∧ T.getD p 0 = c ∧ T.drop (p + 1) = r := by
  have hl : p < T.length := by
    by_cases q : p < T.length
    · exact q
    · rw [List.drop_eq_nil_of_le (by omega)] at h
      cases h
  refine ⟨hl, ?_, ?_⟩
  · rw [List.drop_eq_getElem_cons hl] at h
    rw [List.getD_eq_getElem?_getD, List.getElem?_eq_getElem hl]
    exact (List.cons.inj h).1
  · rw [List.drop_eq_getElem_cons hl] at h
    exact (List.cons.inj h).2
structure Wf (S : Sc) : Prop where
  lp : S.paths.length = S.heads.length
  lf : S.firsts.length = S.heads.length
  lb : S.behinds.length = S.heads.length
  ne : S.counts ≠ []
  ar : ∀ i ∈ S.around, i < S.heads.length
/-- .. with these rows and heads more, all being closed again -/
def Sc.more (S : Sc) (rs : List (List Int × Int × Int)) (hs : List (List PyData)) (p k : Nat) : Sc :=
  { paths := S.paths ++ rs.map (·.1), heads := S.heads ++ hs, firsts := S.firsts ++ rs.map (·.2.1), behinds := S.behinds ++ rs.map (·.2.2), pos := p, around := S.around, counts := S.counts.dropLast ++ [S.count + k] }
theorem more_count (S : Sc) (rs : List (List Int × Int × Int)) (hs : List (List PyData)) (p k : Nat) : (S.more rs hs p k).count = S.count + k := by
  show ((S.counts.dropLast ++ [S.count + k]).getLast?).getD 0 = S.count + k
  rw [List.getLast?_append]
  rfl
theorem more_holder {S : Sc} (W : Wf S) (rs : List (List Int × Int × Int)) (hs : List (List PyData)) (p k : Nat) : (S.more rs hs p k).holder = S.holder := by
  show (match S.around.getLast? with | some i => (S.paths ++ rs.map (fun q : List Int × Int × Int => q.1)).getD i [] | none => []) = _
  unfold Sc.holder
  cases e : S.around.getLast? with
  | none => rfl
  | some i =>
    have hi := W.ar i (List.mem_of_getLast? e)
    show (S.paths ++ rs.map (fun q : List Int × Int × Int => q.1)).getD i [] = S.paths.getD i []
    rw [List.getD_eq_getElem?_getD, List.getD_eq_getElem?_getD, List.getElem?_append_left (by rw [W.lp]; exact hi)]
theorem more_newB {S : Sc} (W : Wf S) {rs : List (List Int × Int × Int)} {hs : List (List PyData)} {p k : Nat} (h : S.newB = false ∨ 0 < k) : (S.more rs hs p k).newB = false := by
  unfold Sc.newB
  rw [more_count]
  rcases h with h | h
  · unfold Sc.newB at h
    cases e : S.around.getLast? with
    | none =>
      show ((S.count + k == 0) && (match S.around.getLast? with | some i => blkH ((S.heads ++ hs).getD i []) | none => false)) = false
      rw [e]
      simp
    | some i =>
      have hi := W.ar i (List.mem_of_getLast? e)
      rw [e] at h
      show ((S.count + k == 0) && (match S.around.getLast? with | some i => blkH ((S.heads ++ hs).getD i []) | none => false)) = false
      rw [e]
      have z : (S.heads ++ hs).getD i [] = S.heads.getD i [] := by
        rw [List.getD_eq_getElem?_getD, List.getD_eq_getElem?_getD, List.getElem?_append_left hi]
      dsimp only at h ⊢
      rw [z]
      by_cases q : S.count = 0
      · rw [q] at h ⊢
        cases k with
        | zero => exact h
        | succ k => simp
      · have q' : (S.count + k == 0) = false := by simp; omega
        rw [q']
        rfl
  · have q' : (S.count + k == 0) = false := by simp; omega
    rw [q']
    rfl
theorem more_wf {S : Sc} (W : Wf S) {rs : List (List Int × Int × Int)} {hs : List (List PyData)} {p k : Nat} (h : rs.length = hs.length) : Wf (S.more rs hs p k) where
  lp := by show (S.paths ++ rs.map (·.1)).length = (S.heads ++ hs).length; rw [List.length_append, List.length_append, List.length_map, W.lp, h]
  lf := by show (S.firsts ++ rs.map (·.2.1)).length = (S.heads ++ hs).length; rw [List.length_append, List.length_append, List.length_map, W.lf, h]
  lb := by show (S.behinds ++ rs.map (·.2.2)).length = (S.heads ++ hs).length; rw [List.length_append, List.length_append, List.length_map, W.lb, h]
  ne := by show S.counts.dropLast ++ [S.count + k] ≠ []; simp
  ar := fun i hi => by
    show i < (S.heads ++ hs).length
    rw [List.length_append]
    have := W.ar i hi
    omega
theorem more_more {S : Sc} (rs rs' : List (List Int × Int × Int)) (hs hs' : List (List PyData)) (p p' k k' : Nat) : ((S.more rs hs p k).more rs' hs' p' k') = S.more (rs ++ rs') (hs ++ hs') p' (k + k') := by
  have c := more_count S rs hs p k
  unfold Sc.more at c ⊢
  simp only [List.map_append, List.append_assoc, List.dropLast_concat, c, Nat.add_assoc]
theorem more_nil {S : Sc} (W : Wf S) : S.more [] [] S.pos 0 = S := by
  have q : S.counts.dropLast ++ [S.count] = S.counts := by
    unfold Sc.count
    rw [List.getLast?_eq_some_getLast W.ne]
    exact List.dropLast_concat_getLast W.ne
  unfold Sc.more
  simp only [List.map_nil, List.append_nil, Nat.add_zero]
  rw [q]
mutual
theorem It.len_hds (p : List Int) (a : Nat) : ∀ x : It, (x.rows p a).length = x.hds.length
  | .leaf _ _ => by simp [It.rows, It.hds]
  | .node h o b l => by
    rw [It.rows, It.hds, List.length_cons, List.length_cons, len_hdsL]
theorem len_hdsL (p : List Int) (k a : Nat) : ∀ l : List It, (rowsL p k a l).length = (hdsL l).length
  | [] => by simp [rowsL, hdsL]
  | x :: r => by
    rw [rowsL, hdsL, List.length_append, List.length_append, It.len_hds, len_hdsL]
end
end K1
/-! a text of items is scanned as it was written -/
namespace K1
open PySem
theorem begin_of {T : List Nat} {S : Sc} {w r : List Nat} {h : List PyData} (hT : T.drop S.pos = w ++ r) (hh : hdM (w ++ r) = some (h, w.length)) : beginS T S = .inr (S.add h w.length) := by
  unfold beginS
  rw [hT, hh]
theorem gapped_delim (l : List It) {rest : List Nat} (d : Delim rest) : Delim (gapped l ++ rest) := by
  cases l with
  | nil => rw [gapped]; exact d
  | cons x r => exact .inr (.inl ⟨_, by rw [gapped]; rfl⟩)
theorem gapped_delim2 {n : Nat} (l : List It) (hl : ∀ x ∈ l, Gd n x) (rest : List Nat) : Delim2 (gapped l ++ 41 :: rest) := by
  cases l with
  | nil => exact .inr ⟨rest, by rw [gapped]; rfl⟩
  | cons x r =>
    obtain ⟨c, w, e, _, _, h⟩ := (hl x List.mem_cons_self).st
    refine .inl ⟨c, w ++ gapped r ++ 41 :: rest, ?_, h⟩
    rw [gapped, e]
    rfl
theorem add_leaf {S : Sc} {h : List PyData} {n : Nat} (hh : holdH h = false) : S.add h n = S.more [(S.holder ++ [(S.count : Int)], (S.pos : Int), ((S.pos + n : Nat) : Int))] [h] (S.pos + n) 1 := by
  unfold Sc.add Sc.more
  rw [hh]
  rfl
/-- behind the opening of a holder -/
theorem add_open {S : Sc} {h : List PyData} {n : Nat} (W : Wf S) (hh : holdH h = true) : Wf (S.add h n) ∧ (S.add h n).holder = S.holder ++ [(S.count : Int)] ∧ (S.add h n).count = 0 ∧ (S.add h n).around = S.around ++ [S.heads.length] ∧ (S.add h n).heads = S.heads ++ [h] := by
  have ea : (S.add h n).around = S.around ++ [S.heads.length] := by unfold Sc.add; rw [hh]; rfl
  have ec : (S.add h n).counts = (S.counts.dropLast ++ [S.count + 1]) ++ [0] := by unfold Sc.add; rw [hh]; rfl
  refine ⟨⟨?_, ?_, ?_, ?_, ?_⟩, ?_, ?_, ea, rfl⟩
  · show (S.paths ++ [_]).length = (S.heads ++ [h]).length
    rw [List.length_append, List.length_append, W.lp]; rfl
  · show (S.firsts ++ [_]).length = (S.heads ++ [h]).length
    rw [List.length_append, List.length_append, W.lf]; rfl
  · show (S.behinds ++ [_]).length = (S.heads ++ [h]).length
    rw [List.length_append, List.length_append, W.lb]; rfl
  · rw [ec]; simp
  · intro i hi
    rw [ea] at hi
    show i < (S.heads ++ [h]).length
    rw [List.length_append]
    rcases List.mem_append.mp hi with q | q
    · have := W.ar i q
      omega
    · rw [List.mem_singleton.mp q]
      exact Nat.lt_succ_self _
  · unfold Sc.holder
    rw [ea, List.getLast?_append]
    show (S.paths ++ [S.holder ++ [(S.count : Int)]]).getD S.heads.length [] = _
    rw [List.getD_eq_getElem?_getD, ← W.lp, List.getElem?_append_right (Nat.le_refl _), Nat.sub_self]
    rfl
  · unfold Sc.count
    rw [ec, List.getLast?_append]
    rfl
theorem open_newB {S : Sc} {h : List PyData} {n : Nat} (W : Wf S) (hh : holdH h = true) : (S.add h n).newB = blkH h := by
  obtain ⟨_, _, h3, h4, h5⟩ := add_open (n := n) W hh
  unfold Sc.newB
  rw [h3, h4, h5, List.getLast?_append]
  show (true && blkH ((S.heads ++ [h]).getD S.heads.length [])) = _
  rw [List.getD_eq_getElem?_getD, List.getElem?_append_right (Nat.le_refl _), Nat.sub_self]
  rfl
/-- the holder is closed behind its items -/
theorem close_of {S : Sc} {h : List PyData} {n p k : Nat} {rs : List (List Int × Int × Int)} {hs : List (List PyData)} (W : Wf S) (hh : holdH h = true) :
    ((S.add h n).more rs hs p k).close = S.more ((S.holder ++ [(S.count : Int)], (S.pos : Int), ((p + 1 : Nat) : Int)) :: rs) (h :: hs) (p + 1) 1 := by
  obtain ⟨_, _, h3, h4, h5⟩ := add_open (n := n) W hh
  have ec : (S.add h n).counts = (S.counts.dropLast ++ [S.count + 1]) ++ [0] := by unfold Sc.add; rw [hh]; rfl
  have lb := W.lb
  unfold Sc.close Sc.more
  dsimp only
  rw [h4, h5, ec, List.getLast?_append, List.dropLast_concat, List.dropLast_concat, List.dropLast_concat]
  show Sc.mk ((S.paths ++ [S.holder ++ [(S.count : Int)]]) ++ rs.map (·.1)) ((S.heads ++ [h]) ++ hs) ((S.firsts ++ [(S.pos : Int)]) ++ rs.map (·.2.1)) (((S.behinds ++ [((S.pos + n : Nat) : Int)]) ++ rs.map (·.2.2)).set S.heads.length ((p + 1 : Nat) : Int)) (p + 1) S.around (S.counts.dropLast ++ [S.count + 1]) = _
  have e : ((S.behinds ++ [((S.pos + n : Nat) : Int)]) ++ rs.map (·.2.2)).set S.heads.length ((p + 1 : Nat) : Int) = S.behinds ++ (((p + 1 : Nat) : Int) :: rs.map (·.2.2)) := by
    rw [← lb, List.append_assoc, List.set_append_right _ _ (Nat.le_refl _), Nat.sub_self]
    rfl
  rw [e]
  simp only [List.append_assoc, List.singleton_append, List.map_cons]
theorem word_node (h : List PyData) (o : List Nat) (b : Bool) (l : List It) : (It.node h o b l).word = o ++ ((if b = true then (gapped l).drop 1 else gapped l) ++ [41]) := by rw [It.word]
mutual
/-- an item, from its first sign on -/
theorem scan_item {n : Nat} {T : List Nat} : ∀ (x : It), Gd n x → ∀ (S : Sc) (rest : List Nat), Wf S → T.drop S.pos = x.word ++ rest → Delim rest → ∃ S1, beginS T S = .inr S1 ∧ Steps T S1 (S.more (x.rows (S.holder ++ [(S.count : Int)]) S.pos) x.hds (S.pos + x.word.length) 1)
  | .leaf h w, g, S, rest, W, hT, d => by
    cases g with
    | leaf k =>
      rw [It.word] at hT
      refine ⟨_, begin_of hT (k.hd rest d), ?_⟩
      rw [add_leaf k.no, It.rows, It.hds, It.word]
      exact .nil
  | .node h o b l, g, S, rest, W, hT, d => by
    cases g with
    | @node n _ _ _ _ k hl hc =>
      obtain ⟨W1, h2, h3, h4, h5⟩ := add_open (n := o.length) W k.yes
      have hTo : T.drop S.pos = o ++ (((if b = true then (gapped l).drop 1 else gapped l) ++ [41]) ++ rest) := by rw [hT, word_node, List.append_assoc]
      have hTi := drop_add hTo
      rw [List.append_assoc] at hTi
      have ar : (S.add h o.length).around ≠ [] := by rw [h4]; simp
      -- the items, and the end
      have fin : ∀ (rs : List (List Int × Int × Int)) (p : Nat), T.drop p = 41 :: rest → p + 1 = S.pos + (It.node h o b l).word.length → rs = rowsL (S.holder ++ [(S.count : Int)]) 0 (S.pos + o.length + if b = true then 0 else 1) l → ∀ k', Steps T (S.add h o.length) ((S.add h o.length).more rs (hdsL l) p k') →
          Steps T (S.add h o.length) (S.more ((It.node h o b l).rows (S.holder ++ [(S.count : Int)]) S.pos) (It.node h o b l).hds (S.pos + (It.node h o b l).word.length) 1) := by
        intro rs p hp ep er k' st
        obtain ⟨g1, g2, g3⟩ := drop_get hp
        refine st.trans (.cons (S1 := ((S.add h o.length).more rs (hdsL l) p k').close) g1 ?_ ?_)
        · unfold stepS
          rw [if_pos ⟨g2, ar⟩]
        · rw [close_of W k.yes, It.rows, It.hds, ← ep, er]
          exact .nil
      cases k with
      | block =>
        refine ⟨_, begin_of (w := [40]) hTo (by
          show some (brM _) = _
          cases l with
          | nil => rw [show (if true = true then List.drop 1 (gapped []) else gapped []) = [] from by rw [gapped]; rfl]; rfl
          | cons x r =>
            have e : (if true = true then List.drop 1 (gapped (x :: r)) else gapped (x :: r)) = x.word ++ gapped r := by rw [gapped]; rfl
            show some (brM _) = _
            rw [e]
            show some (brM ((x.word ++ gapped r ++ [41]) ++ rest)) = _
            rw [List.append_assoc, List.append_assoc, br_word (hc x List.mem_cons_self) (by
              have z := gapped_delim2 r (fun y hy => hc y (List.mem_cons_of_mem _ hy)) rest
              exact z)]
            rfl), ?_⟩
        have W1' : Wf (S.add [.str "block"] 1) := W1
        have nB : (S.add [.str "block"] 1).newB = true := by
          rw [open_newB W (by decide +kernel)]
          decide +kernel
        cases l with
        | nil =>
          have e : (if true = true then List.drop 1 (gapped []) else gapped []) = [] := by rw [gapped]; rfl
          rw [e] at hTi
          refine fin [] (S.pos + 1) hTi ?_ (by rw [rowsL]) 0 ?_
          · rw [word_node, e]
            rfl
          · have z := more_nil W1
            rw [hdsL]
            have z' : (S.add [.str "block"] [40].length).more [] [] (S.pos + 1) 0 = S.add [.str "block"] [40].length := z
            rw [z']
            exact .nil
        | cons x r =>
          have e : (if true = true then List.drop 1 (gapped (x :: r)) else gapped (x :: r)) = x.word ++ gapped r := by rw [gapped]; rfl
          rw [e, List.append_assoc] at hTi
          have gx := hc x List.mem_cons_self
          obtain ⟨S2, b1, b2⟩ := scan_item x gx (S.add [.str "block"] 1) (gapped r ++ ([41] ++ rest)) W1' hTi (gapped_delim r (.inr (.inr ⟨rest, rfl⟩)))
          obtain ⟨c, w, ew, c1, c2, c3⟩ := gx.st
          have hT1 : T.drop (S.pos + 1) = c :: (w ++ (gapped r ++ ([41] ++ rest))) := by
            have q := hTi
            rw [ew] at q
            exact q
          obtain ⟨g1, g2, g3⟩ := drop_get hT1
          have W2 := more_wf (S := S.add [.str "block"] 1) W1' (rs := x.rows ((S.add [.str "block"] 1).holder ++ [((S.add [.str "block"] 1).count : Int)]) (S.pos + 1)) (hs := x.hds) (p := S.pos + 1 + x.word.length) (k := 1) (It.len_hds _ _ x)
          have st2 := scan_list r (fun y hy => hc y (List.mem_cons_of_mem _ hy)) _ ([41] ++ rest) (.inr (.inr ⟨rest, rfl⟩)) W2 (more_newB W1' (.inr (by decide))) (by
            show T.drop (S.pos + 1 + x.word.length) = _
            have q := drop_add hTi
            exact q)
          refine fin (x.rows ((S.add [.str "block"] 1).holder ++ [((S.add [.str "block"] 1).count : Int)]) (S.pos + 1) ++ rowsL (S.holder ++ [(S.count : Int)]) 1 (S.pos + 1 + x.word.length + 1) r) (S.pos + 1 + x.word.length + (gapped r).length) ?_ ?_ ?_ (1 + r.length) ?_
          · have q := drop_add (drop_add hTi)
            exact q
          · rw [word_node, e]
            simp only [List.length_append, List.length_cons, List.length_nil]
            omega
          · rw [rowsL]
            show x.rows ((S.add [.str "block"] 1).holder ++ [((S.add [.str "block"] 1).count : Int)]) (S.pos + 1) ++ _ = _
            have h2' : (S.add [.str "block"] 1).holder = S.holder ++ [(S.count : Int)] := h2
            have h3' : (S.add [.str "block"] 1).count = 0 := h3
            rw [h2', h3']
            rfl
          · refine .cons (S1 := S2) g1 ?_ (b2.trans ?_)
            · unfold stepS
              have ng : ¬ (T.getD (S.add [.str "block"] 1).pos 0 = 41 ∧ (S.add [.str "block"] 1).around ≠ []) := fun q => c2 (g2.symm.trans q.1)
              show (if T.getD (S.add [.str "block"] 1).pos 0 = 41 ∧ (S.add [.str "block"] 1).around ≠ [] then _ else _) = _
              rw [if_neg ng]
              show (if (S.add [.str "block"] 1).newB = true then beginS T (S.add [.str "block"] 1) else _) = _
              rw [if_pos nB]
              exact b1
            · rw [hdsL]
              rw [more_holder W1', more_more] at st2
              have h2' : (S.add [.str "block"] 1).holder = S.holder ++ [(S.count : Int)] := h2
              rw [more_count] at st2
              have h3' : (S.add [.str "block"] 1).count = 0 := h3
              rw [h2', h3'] at st2 ⊢
              exact st2
      | other hd yes nb st =>
        refine ⟨_, begin_of hTo (hd _), ?_⟩
        have nB : (S.add h o.length).newB = false := by
          rw [open_newB W yes]
          exact nb
        have hTi' : T.drop (S.add h o.length).pos = gapped l ++ ([41] ++ rest) := hTi
        have st2 := scan_list l hc (S.add h o.length) ([41] ++ rest) (.inr (.inr ⟨rest, rfl⟩)) W1 nB hTi'
        refine fin (rowsL (S.holder ++ [(S.count : Int)]) 0 (S.pos + o.length + 1) l) (S.pos + o.length + (gapped l).length) ?_ ?_ rfl l.length ?_
        · have q := drop_add hTi'
          exact q
        · rw [word_node]
          simp only [List.length_append, List.length_cons, List.length_nil, Bool.false_eq_true, if_false]
          omega
        · rw [h2, h3] at st2
          exact st2
/-- the items of a holder, from the k-th on, each behind a blank -/
theorem scan_list {n : Nat} {T : List Nat} : ∀ (l : List It), (∀ x ∈ l, Gd n x) → ∀ (S : Sc) (rest : List Nat), Delim rest → Wf S → S.newB = false → T.drop S.pos = gapped l ++ rest →
    Steps T S (S.more (rowsL S.holder S.count (S.pos + 1) l) (hdsL l) (S.pos + (gapped l).length) l.length)
  | [], _, S, rest, d, W, nB, hT => by
    have z : S.more (rowsL S.holder S.count (S.pos + 1) []) (hdsL []) (S.pos + (gapped []).length) 0 = S := by
      rw [rowsL, hdsL, gapped]
      exact more_nil W
    show Steps T S (S.more (rowsL S.holder S.count (S.pos + 1) []) (hdsL []) (S.pos + (gapped []).length) 0)
    rw [z]
    exact .nil
  | x :: r, hl, S, rest, d, W, nB, hT => by
    have gx := hl x List.mem_cons_self
    have hT0 : T.drop S.pos = 32 :: (x.word ++ (gapped r ++ rest)) := by
      rw [hT, gapped]
      show 32 :: ((x.word ++ gapped r) ++ rest) = _
      rw [List.append_assoc]
    obtain ⟨g1, g2, g3⟩ := drop_get hT0
    have W' : Wf { S with pos := S.pos + 1 } := ⟨W.lp, W.lf, W.lb, W.ne, W.ar⟩
    obtain ⟨S2, b1, b2⟩ := scan_item x gx { S with pos := S.pos + 1 } _ W' g3 (gapped_delim r d)
    have W2 := more_wf W' (rs := x.rows (S.holder ++ [(S.count : Int)]) (S.pos + 1)) (hs := x.hds) (p := S.pos + 1 + x.word.length) (k := 1) (It.len_hds _ _ x)
    have st2 := scan_list r (fun y hy => hl y (List.mem_cons_of_mem _ hy)) _ rest d W2 (more_newB W' (.inr (by decide))) (by
      show T.drop (S.pos + 1 + x.word.length) = _
      exact drop_add g3)
    refine .cons (S1 := S2) g1 ?_ (b2.trans ?_)
    · unfold stepS
      rw [if_neg (fun q => by have := g2.symm.trans q.1; exact absurd this (by decide)), if_neg (by rw [nB]; exact Bool.false_ne_true), if_pos g2]
      exact b1
    · rw [more_holder W', more_more, more_count] at st2
      have e1 : rowsL S.holder S.count (S.pos + 1) (x :: r) = x.rows (S.holder ++ [(S.count : Int)]) (S.pos + 1) ++ rowsL S.holder (S.count + 1) (S.pos + 1 + x.word.length + 1) r := by rw [rowsL]
      have e2 : hdsL (x :: r) = x.hds ++ hdsL r := by rw [hdsL]
      have e3 : S.pos + (gapped (x :: r)).length = S.pos + 1 + x.word.length + (gapped r).length := by
        rw [gapped]
        simp only [List.length_append, List.length_cons]
        omega
      have e4 : (x :: r).length = 1 + r.length := by rw [List.length_cons, Nat.add_comm]
      rw [e1, e2, e3, e4]
      exact st2
end
/-- the text of a program -/
def textM (l : List It) : List Nat := (gapped l).drop 1
theorem sc0_wf : Wf sc0 := ⟨rfl, rfl, rfl, by show [0] ≠ []; simp, fun i hi => by cases hi⟩
/-- what its scan ends with -/
def endM (l : List It) : Sc := sc0.more (rowsL [] 0 0 l) (hdsL l) (textM l).length l.length
/-- the scan of a text of items, perhaps with something behind it -/
theorem scan_steps {n : Nat} (x : It) (r : List It) (g : ∀ y ∈ x :: r, Gd n y) (rest : List Nat) (d : Delim rest) : ∃ S1, beginS (textM (x :: r) ++ rest) sc0 = .inr S1 ∧ Steps (textM (x :: r) ++ rest) S1 (endM (x :: r)) := by
  have eT : textM (x :: r) = x.word ++ gapped r := by unfold textM; rw [gapped]; rfl
  have hT : (textM (x :: r) ++ rest).drop sc0.pos = x.word ++ (gapped r ++ rest) := by rw [eT, List.append_assoc]; rfl
  obtain ⟨S1, b1, b2⟩ := scan_item x (g x List.mem_cons_self) sc0 _ sc0_wf hT (gapped_delim r d)
  refine ⟨S1, b1, b2.trans ?_⟩
  have W2 := more_wf sc0_wf (rs := x.rows (sc0.holder ++ [(sc0.count : Int)]) sc0.pos) (hs := x.hds) (p := sc0.pos + x.word.length) (k := 1) (It.len_hds _ _ x)
  have st2 := scan_list r (fun y hy => g y (List.mem_cons_of_mem _ hy)) _ rest d W2 (more_newB sc0_wf (.inr (by decide))) (drop_add hT)
  rw [more_holder sc0_wf, more_more, more_count] at st2
  have e1 : rowsL [] 0 0 (x :: r) = x.rows ([] ++ [((0 : Nat) : Int)]) 0 ++ rowsL [] (0 + 1) (0 + x.word.length + 1) r := by rw [rowsL]
  have e2 : hdsL (x :: r) = x.hds ++ hdsL r := by rw [hdsL]
  unfold endM
  rw [e1, e2, eT, List.length_append, List.length_cons, Nat.add_comm r.length 1]
  have st3 := st2
  show Steps _ _ _
  have z : (0 : Nat) + x.word.length = x.word.length := Nat.zero_add _
  have z2 : sc0.pos + x.word.length + (gapped r).length = x.word.length + (gapped r).length := by show 0 + _ + _ = _; omega
  show Steps _ (sc0.more _ _ (sc0.pos + x.word.length) 1) _
  rw [← z2]
  exact st3
theorem begin_none {T : List Nat} {S : Sc} (h : T.drop S.pos = []) : beginS T S = .inl S.pos := by
  unfold beginS
  rw [h]
  rfl
theorem runs_ok {n : Nat} (x : It) (r : List It) (g : ∀ y ∈ x :: r, Gd n y) : ∃ S1 m, beginS (textM (x :: r)) sc0 = .inr S1 ∧ Runs (textM (x :: r)) m S1 (.inr (endM (x :: r))) := by
  obtain ⟨S1, b1, b2⟩ := scan_steps x r g [] (.inl rfl)
  rw [List.append_nil] at b1 b2
  obtain ⟨m, q⟩ := b2.runs (.fin (S := endM (x :: r)) (Nat.le_refl _))
  exact ⟨S1, m, b1, q⟩
theorem runs_bad {n : Nat} (x : It) (r : List It) (g : ∀ y ∈ x :: r, Gd n y) : ∃ S1 m, beginS (textM (x :: r) ++ [32]) sc0 = .inr S1 ∧ Runs (textM (x :: r) ++ [32]) m S1 (.inl ((textM (x :: r)).length + 1)) := by
  obtain ⟨S1, b1, b2⟩ := scan_steps x r g [32] (.inr (.inl ⟨[], rfl⟩))
  have hp : (endM (x :: r)).pos = (textM (x :: r)).length := rfl
  have hT : (textM (x :: r) ++ [32]).drop (endM (x :: r)).pos = 32 :: [] := by rw [hp, List.drop_left]
  obtain ⟨g1, g2, g3⟩ := drop_get hT
  obtain ⟨m, q⟩ := b2.runs (.bad (S := endM (x :: r)) (e := (textM (x :: r)).length + 1) g1 (by
    unfold stepS
    rw [if_neg (fun q => by have := g2.symm.trans q.1; exact absurd this (by decide)), if_neg (by rw [show (endM (x :: r)).newB = false from more_newB sc0_wf (.inr (by rw [List.length_cons]; omega))]; exact Bool.false_ne_true), if_pos g2]
    exact begin_none g3))
  exact ⟨S1, m, b1, q⟩
theorem begin_blank : beginS [32] sc0 = .inl 0 := rfl
end K1
set_option maxHeartbeats 4000000
/-! the signs of a text -/
namespace K1
open PySem L2
theorem dec_pos {p n : Nat} : decide ((p : Int) < ((n : Nat) : Int)) = decide (p < n) := by
  by_cases h : p < n
  · rw [decide_eq_true h, decide_eq_true (by omega)]
  · rw [decide_eq_false h, decide_eq_false (by omega)]
theorem sg_at {f : Nat → Bool} {T : List Nat} {p c : Nat} (h : T[p]? = some c) : sgM f (T.drop p) = f c := by
  obtain ⟨hl, e⟩ := List.getElem?_eq_some_iff.mp h
  rw [List.drop_eq_getElem_cons hl, e]
  rfl
theorem sg_end {f : Nat → Bool} {T : List Nat} {p : Nat} (h : ¬ p < T.length) : sgM f (T.drop p) = false := by
  rw [List.drop_eq_nil_of_le (by omega)]
  rfl
theorem len_cps (z : Str) : z.cps.toList.length = z.length := by simp [Str.length]
theorem sizeL {n m : Nat} (h : n ≤ m) (h2 : m ≤ 16777216 := by decide) : n ≤ sizeLine := by rw [sizeLine_eq]; omega
theorem dec_len' {a b : Nat} : decide (V.int (a : Int) = V.int (b : Int)) = decide (a = b) := dec_len
def spStands : Sp := fun vs H Q _ => ∃ (z : Str) (p : Nat) (sg : Str) (f : Nat → Bool), vs = [.str z, .int (p : Int), .str sg] ∧ z.length ≤ 2000 ∧ (∀ c : Nat, decide (c ∈ sg.cps.toList) = f c) ∧ Q (.bl (sgM f (z.cps.toList.drop p))) H
/-- an index within a text -/
def spEnd (g : List Nat → Nat) : Sp := fun vs H Q _ => ∃ (z : Str) (p : Nat), vs = [.str z, .int (p : Int)] ∧ z.length ≤ 2000 ∧ Q (.int ((p + g (z.cps.toList.drop p) : Nat) : Int)) H
theorem mem_let (c : Nat) : decide (c ∈ ("abcdefghijklmnopqrstuvwxyz" : Str).cps.toList) = isLet c := by
  rw [show ("abcdefghijklmnopqrstuvwxyz" : Str).cps.toList = [97, 98, 99, 100, 101, 102, 103, 104, 105, 106, 107, 108, 109, 110, 111, 112, 113, 114, 115, 116, 117, 118, 119, 120, 121, 122] from by decide +kernel, Bool.eq_iff_iff]
  unfold isLet
  simp only [decide_eq_true_eq, Bool.and_eq_true, List.mem_cons, List.not_mem_nil, or_false]
  omega
theorem mem_fig (c : Nat) : decide (c ∈ ("0123456789" : Str).cps.toList) = isFig c := by
  rw [show ("0123456789" : Str).cps.toList = [48, 49, 50, 51, 52, 53, 54, 55, 56, 57] from by decide +kernel, Bool.eq_iff_iff]
  unfold isFig
  simp only [decide_eq_true_eq, Bool.and_eq_true, List.mem_cons, List.not_mem_nil, or_false]
  omega
theorem mem_fst (c : Nat) : decide (c ∈ ("123456789" : Str).cps.toList) = isFst c := by
  rw [show ("123456789" : Str).cps.toList = [49, 50, 51, 52, 53, 54, 55, 56, 57] from by decide +kernel, Bool.eq_iff_iff]
  unfold isFst
  simp only [decide_eq_true_eq, Bool.and_eq_true, List.mem_cons, List.not_mem_nil, or_false]
  omega
theorem mem_zero (c : Nat) : decide (c ∈ ("0" : Str).cps.toList) = (c == 48) := by
  rw [show ("0" : Str).cps.toList = [48] from by decide +kernel, Bool.eq_iff_iff]
  simp
section
variable {P : Program} {w : World} {K : PySem.W.Frag} {mg : Str → Option Value} {base : Heap}
theorem sc_stands : FnScope ["text", "at", "signs"] ["text", "at", "signs"] (defScope (top 18)) := ⟨rfl, rfl, rfl, by decide +kernel, rfl, by decide +kernel, by decide +kernel⟩
theorem cl_stands (T : All K mg) : Cl P w K mg base 1 "_stands" ["text", "at", "signs"] spStands := by
  obtain ⟨g, fd, D⟩ := T.dn 18 _ _ rfl
  refine D.cl (D.fn.ok sc_stands (fun vs H Q E h => ?_) (fun cdv A outer s H vs Q E hr h => ?_))
  · obtain ⟨z, p, sg, f, rfl, _⟩ := h
    rfl
  · obtain ⟨z, p, sg, f, rfl, hz, hf, k⟩ := h
    refine ⟨_, pss_one (ps_ret (pe_and (pe_cmpR op_lt (pv 1) (pe_callB call_len_str (by rfl) T.bi.len PySem.boot_len (pa_cons (pv 0) pa_nil)) (nomark _)) (pe_one (pe_cmpR op_in_sign (pe_ix ix_str (pv 0) (pv 1) (fun _ _ => rfl)) (pv 2) rfl)))), ?_⟩
    refine ⟨_, rfl, _, rfl, z, rfl, sizeL hz, _, _, rfl, rfl, _, rfl, ?_⟩
    by_cases hp : p < z.cps.toList.length
    · rw [dec_pos, ← len_cps, decide_eq_true hp]
      have hc : z.cps.toList[p]? = some z.cps.toList[p] := List.getElem?_eq_getElem hp
      refine iteT ⟨_, rfl, _, rfl, z, _, _, rfl, rfl, sizeL hz, atI_nat hc, _, rfl, _, _, rfl, rfl, ?_⟩
      rw [hf, ← sg_at (f := f) hc]
      exact k
    · rw [dec_pos, ← len_cps, decide_eq_false hp]
      rw [sg_end hp] at k
      exact iteF k
theorem sc_pend : FnScope ["text", "at"] ["text", "at"] (defScope (top 17)) := ⟨rfl, rfl, rfl, by decide +kernel, rfl, by decide +kernel, by decide +kernel⟩
theorem cl_pend (T : All K mg) : Cl P w K mg base 2 "_positive_end" ["text", "at"] (spEnd pE) := by
  obtain ⟨g, fd, D⟩ := T.dn 17 _ _ rfl
  refine D.cl (D.fn.ok sc_pend (fun vs H Q E h => ?_) (fun cdv A outer s H vs Q E hr h => ?_))
  · obtain ⟨z, p, rfl, _⟩ := h
    rfl
  · obtain ⟨z, p, rfl, hz, k⟩ := h
    obtain ⟨tF, hF⟩ := T.cn.ffig
    obtain ⟨tG, hG⟩ := T.cn.fig
    refine ⟨_, pss_cons (ps_if (pt_not (pt_val (pe_cl (cl_stands T) hr (by decide) (pa_cons (pv 0) (pa_cons (pv 1) (pa_cons (pe_glob (v := .str "123456789") rfl hF ⟨_, rfl⟩) pa_nil)))))) (pss_one (ps_ret (pv 1))) pss_nil)
      (pss_one (ps_ret (pe_ifExp (pt_val (pe_cl (cl_stands T) hr (by decide) (pa_cons (pv 0) (pa_cons (pe_op op_add (pv 1) pe_int) (pa_cons (pe_glob (v := .str "0123456789") rfl hG ⟨_, rfl⟩) pa_nil))))) (pe_op op_add (pv 1) pe_int) (pe_op op_add (pv 1) pe_int)))), ?_⟩
    refine ⟨_, rfl, _, rfl, z, p, _, isFst, rfl, hz, mem_fst, _, rfl, ?_⟩
    unfold pE at k
    cases e : sgM isFst (z.cps.toList.drop p) with
    | false =>
      rw [e, if_neg Bool.false_ne_true, Nat.add_zero] at k
      exact iteT ⟨_, rfl, k⟩
    | true =>
      rw [e, if_pos rfl, List.drop_drop] at k
      refine iteF ⟨_, rfl, _, rfl, _, _, rfl, rfl, z, p + 1, _, isFig, rfl, hz, mem_fig, _, rfl, ?_⟩
      cases e2 : sgM isFig (z.cps.toList.drop (p + 1)) with
      | true =>
        rw [e2, if_pos rfl] at k
        exact iteT ⟨_, rfl, _, _, rfl, rfl, k⟩
      | false =>
        rw [e2, if_neg Bool.false_ne_true] at k
        exact iteF ⟨_, rfl, _, _, rfl, rfl, k⟩
theorem sc_nend : FnScope ["text", "at"] ["text", "at"] (defScope (top 16)) := ⟨rfl, rfl, rfl, by decide +kernel, rfl, by decide +kernel, by decide +kernel⟩
theorem cl_nend (T : All K mg) : Cl P w K mg base 3 "number_end" ["text", "at"] (spEnd nE) := by
  obtain ⟨g, fd, D⟩ := T.dn 16 _ _ rfl
  refine D.cl (D.fn.ok sc_nend (fun vs H Q E h => ?_) (fun cdv A outer s H vs Q E hr h => ?_))
  · obtain ⟨z, p, rfl, _⟩ := h
    rfl
  · obtain ⟨z, p, rfl, hz, k⟩ := h
    refine ⟨_, pss_one (ps_ret (pe_ifExp (pt_val (pe_cl (cl_stands T) hr (by decide) (pa_cons (pv 0) (pa_cons (pv 1) (pa_cons pe_str pa_nil))))) (pe_op op_add (pv 1) pe_int) (pe_cl (cl_pend T) hr (by decide) (pa_cons (pv 0) (pa_cons (pv 1) pa_nil))))), ?_⟩
    refine ⟨_, rfl, _, rfl, z, p, _, fun c => c == 48, rfl, hz, mem_zero, _, rfl, ?_⟩
    unfold nE at k
    cases e : sgM (fun c => c == 48) (z.cps.toList.drop p) with
    | true =>
      rw [e, if_pos rfl] at k
      exact iteT ⟨_, rfl, _, _, rfl, rfl, k⟩
    | false =>
      rw [e, if_neg Bool.false_ne_true] at k
      exact iteF ⟨_, rfl, _, rfl, z, p, rfl, hz, k⟩
theorem lE_step {n : Nat} {S : List Nat} : lE (n + 1) S = if sgM isLet S = true then lE n (S.drop 1) + 1 else 0 := by
  cases S with
  | nil => rfl
  | cons c r => rfl
theorem sc_wend : FnScope ["text", "at", "behind"] ["text", "at"] (defScope (top 15)) := ⟨rfl, rfl, rfl, by decide +kernel, rfl, by decide +kernel, by decide +kernel⟩
theorem cl_wend (T : All K mg) : Cl P w K mg base 3 "written_end" ["text", "at"] (spEnd wE) := by
  obtain ⟨g, fd, D⟩ := T.dn 15 _ _ rfl
  refine D.cl (D.fn.ok sc_wend (fun vs H Q E h => ?_) (fun cdv A outer s H vs Q E hr h => ?_))
  · obtain ⟨z, p, rfl, _⟩ := h
    rfl
  · obtain ⟨z, p, rfl, hz, k⟩ := h
    obtain ⟨tL, hL⟩ := T.cn.let_
    obtain ⟨tM, hM⟩ := T.cn.most
    refine ⟨_, pss_cons (ps_set (i := 2) sc_wend.nd rfl (Or.inl rfl) (pv 1))
      (pss_cons (ps_while PassesOwn.never (PW.pt (pw_and (pt_cmpR op_lt (pv 2) (pe_op op_add (pv 1) (pe_glob (v := .int 4) rfl hM ⟨_, rfl⟩)) (nomark _)) (pw_and1 (pt_val (pe_cl (cl_stands T) hr (by decide) (pa_cons (pv 0) (pa_cons (pv 2) (pa_cons (pe_glob (v := .str "abcdefghijklmnopqrstuvwxyz") rfl hL ⟨_, rfl⟩) pa_nil))))))))
          (pss_one (ps_aug (i := 2) sc_wend.nd rfl (Or.inl rfl) pe_int ip_add)))
      (pss_one (ps_ret (pe_ifExp (pt_cmpR op_eq (pv 2) (pv 1) (nomark _)) (pv 2) (pe_cl (cl_pend T) hr (by decide) (pa_cons (pv 0) (pa_cons (pv 2) pa_nil))))))), ?_⟩
    refine ⟨_, rfl, ?_⟩
    refine ⟨fun m σ H' => ∃ j : Nat, m = 4 - j ∧ j ≤ 4 ∧ σ = [some (.str z), some (.int (p : Int)), some (.int ((p + j : Nat) : Int))] ∧ H' = H ∧ lE 4 (z.cps.toList.drop p) = j + lE (4 - j) (z.cps.toList.drop (p + j)), ⟨4, 0, rfl, by decide, rfl, rfl, by rw [Nat.zero_add, Nat.add_zero]⟩, ?_⟩
    rintro m σ H' ⟨j, rfl, hj, rfl, rfl, hl⟩
    refine ⟨_, rfl, _, rfl, _, _, rfl, rfl, _, _, rfl, rfl, _, rfl, ?_⟩
    have hlt : decide (((p + j : Nat) : Int) < (p : Int) + 4) = decide (j < 4) := by
      by_cases h : j < 4
      · rw [decide_eq_true h, decide_eq_true (by omega)]
      · rw [decide_eq_false h, decide_eq_false (by omega)]
    rw [hlt]
    by_cases j4 : j < 4
    · rw [decide_eq_true j4]
      refine iteT ⟨_, rfl, _, rfl, z, p + j, _, isLet, rfl, hz, mem_let, _, rfl, ?_⟩
      have es : 4 - j = (4 - (j + 1)) + 1 := by omega
      rw [es, lE_step (n := 4 - (j + 1)) (S := z.cps.toList.drop (p + j)), List.drop_drop] at hl
      cases e : sgM isLet (z.cps.toList.drop (p + j)) with
      | true =>
        rw [e, if_pos rfl] at hl
        refine iteT ⟨fun σ' H2 => σ' = [some (.str z), some (.int (p : Int)), some (.int ((p + (j + 1) : Nat) : Int))] ∧ H2 = H', fun σ' H2 q => ⟨4 - (j + 1), by omega, j + 1, rfl, j4, q.1, q.2, by rw [hl, Nat.add_assoc p j 1]; omega⟩, _, rfl, _, _, rfl, rfl, ?_⟩
        exact ⟨rfl, rfl⟩
      | false =>
        have hz0 : (if sgM isLet (z.cps.toList.drop (p + j)) = true then lE (4 - (j + 1)) (z.cps.toList.drop (p + j + 1)) + 1 else 0) = 0 := by rw [e, if_neg Bool.false_ne_true]
        refine iteF ?_
        refine ⟨_, rfl, _, rfl, rfl, _, rfl, ?_⟩
        unfold wE at k
        rw [hl, hz0, Nat.add_zero] at k
        rw [dec_len']
        by_cases j0 : j = 0
        · rw [if_pos j0] at k
          subst j0
          rw [decide_eq_true (by omega)]
          exact iteT ⟨_, rfl, k⟩
        · rw [if_neg j0, ← Nat.add_assoc] at k
          rw [decide_eq_false (by omega)]
          refine iteF ⟨_, rfl, _, rfl, z, p + j, rfl, hz, ?_⟩
          rw [List.drop_drop] at k
          exact k
    · have hz0 : lE (4 - j) (z.cps.toList.drop (p + j)) = 0 := by
        rw [show 4 - j = 0 from by omega]
        rfl
      rw [decide_eq_false j4]
      refine iteF ?_
      refine ⟨_, rfl, _, rfl, rfl, _, rfl, ?_⟩
      unfold wE at k
      rw [hl, hz0, Nat.add_zero] at k
      rw [dec_len']
      by_cases j0 : j = 0
      · rw [if_pos j0] at k
        subst j0
        rw [decide_eq_true (by omega)]
        exact iteT ⟨_, rfl, k⟩
      · rw [if_neg j0, ← Nat.add_assoc] at k
        rw [decide_eq_false (by omega)]
        refine iteF ⟨_, rfl, _, rfl, z, p + j, rfl, hz, ?_⟩
        rw [List.drop_drop] at k
        exact k
end
end K1
set_option maxHeartbeats 4000000
/-! the head of an item -/
namespace K1
open PySem L2
theorem cut_nat {z : Str} {a b : Nat} : cutS z (some (a : Int)) (some (b : Int)) = sO ((z.cps.toList.drop a).take (b - a)) := by
  unfold cutS sO
  rw [HT.sIx_nat, HT.sIx_nat]
  have hl := len_cps z
  congr 2
  by_cases h : a ≤ z.length
  · rw [Nat.min_eq_left h]
    by_cases h2 : b ≤ z.length
    · rw [Nat.min_eq_left h2]
    · rw [Nat.min_eq_right (by omega)]
      rw [List.take_of_length_le (by rw [List.length_drop]; omega), List.take_of_length_le (by rw [List.length_drop]; omega)]
  · rw [List.drop_eq_nil_of_le (by omega), List.drop_eq_nil_of_le (by omega), List.take_nil, List.take_nil]
theorem sO_inj {a b : List Nat} (h : sO a = sO b) : a = b := by
  have z := congrArg (fun s : Str => s.cps.toList) h
  simpa [sO] using z
theorem str_sO (y : Str) : y = sO y.cps.toList := by
  show y = ⟨y.cps.toList.toArray⟩
  rw [Array.toArray_toList]
theorem sO_cps (l : List Nat) : (sO l).cps.toList = l := by simp [sO]
theorem sO_len (l : List Nat) : (sO l).length = l.length := by rw [← len_cps, sO_cps]
theorem part_is {l m : List Nat} {y : Str} (hy : y.cps.toList = m) : decide (V.str (sO l) = V.str y) = decide (l = m) := by
  rw [str_sO y, hy, dec_str]
  by_cases h : l = m
  · subst h
    rw [decide_eq_true rfl, decide_eq_true rfl]
  · rw [decide_eq_false h, decide_eq_false fun z => h (sO_inj z)]
theorem sign_is {S : List Nat} {c : Nat} {y : Str} (hy : y.cps.toList = [c]) : decide (V.str (sO (S.take 1)) = V.str y) = sgM (fun d => d == c) S := by
  rw [part_is hy]
  cases S with
  | nil => rfl
  | cons d r =>
    show decide ([d] = [c]) = (d == c)
    by_cases h : d = c
    · subst h; simp
    · have : (d == c) = false := by simpa using h
      rw [this, decide_eq_false fun z => h (List.cons.inj z).1]
theorem take_len_le {S : List Nat} {n m : Nat} (h : n ≤ m) : (S.take n).length ≤ m := by rw [List.length_take]; omega
theorem lE_le (n : Nat) : ∀ S, lE n S ≤ n := by
  induction n with
  | zero => intro S; cases S <;> exact Nat.le_refl _
  | succ n ih =>
    intro S
    rw [lE_step]
    split
    · have := ih (S.drop 1)
      omega
    · exact Nat.zero_le _
theorem pE_le (S : List Nat) : pE S ≤ 2 := by
  unfold pE
  split
  · split <;> omega
  · omega
theorem wE_le (S : List Nat) : wE S ≤ 6 := by
  unfold wE
  split
  · exact Nat.zero_le _
  · have := lE_le 4 S
    have := pE_le (S.drop (lE 4 S))
    omega
theorem nE_le (S : List Nat) : nE S ≤ 2 := by
  unfold nE
  split
  · decide
  · exact pE_le S
theorem num_one : ∀ i : Fin 10, PySem.intText? (sO [48 + i.val]) = some (numL [48 + i.val]) := by decide +kernel
theorem num_two : ∀ i j : Fin 10, PySem.intText? (sO [48 + i.val, 48 + j.val]) = some (numL [48 + i.val, 48 + j.val]) := by decide +kernel
theorem fig_of {c : Nat} (h : isFig c = true) : ∃ i : Fin 10, c = 48 + i.val := by
  unfold isFig at h
  simp only [Bool.and_eq_true, decide_eq_true_eq] at h
  exact ⟨⟨c - 48, by omega⟩, by show c = 48 + (c - 48); omega⟩
theorem fst_fig {c : Nat} (h : isFst c = true) : isFig c = true := by
  unfold isFst at h
  unfold isFig
  simp only [Bool.and_eq_true, decide_eq_true_eq] at h ⊢
  omega
theorem num_of {S : List Nat} (h : 0 < nE S) : PySem.intText? (sO (S.take (nE S))) = some (numL (S.take (nE S))) := by
  have one : ∀ c r, S = c :: r → isFig c = true → PySem.intText? (sO (S.take 1)) = some (numL (S.take 1)) := by
    rintro c r rfl hc
    obtain ⟨i, rfl⟩ := fig_of hc
    exact num_one i
  unfold nE at h ⊢
  cases S with
  | nil => exact absurd h (by decide)
  | cons c r =>
    cases e : sgM (fun c => c == 48) (c :: r) with
    | true =>
      rw [if_pos rfl]
      have hc : c = 48 := by simpa [sgM] using e
      exact one c r rfl (by rw [hc]; rfl)
    | false =>
      rw [e, if_neg Bool.false_ne_true] at h
      rw [if_neg Bool.false_ne_true]
      unfold pE at h ⊢
      cases e1 : sgM isFst (c :: r) with
      | false =>
        rw [e1, if_neg Bool.false_ne_true] at h
        exact absurd h (by decide)
      | true =>
        rw [if_pos rfl]
        have hc : isFig c = true := fst_fig e1
        cases e2 : sgM isFig ((c :: r).drop 1) with
        | false =>
          rw [if_neg Bool.false_ne_true]
          exact one c r rfl hc
        | true =>
          rw [if_pos rfl]
          cases r with
          | nil => cases e2
          | cons d r =>
            obtain ⟨i, rfl⟩ := fig_of hc
            obtain ⟨j, rfl⟩ := fig_of (show isFig d = true from e2)
            exact num_two i j
def spHolds : Sp := fun vs H Q _ => ∃ x : Str, vs = [.str x] ∧ Q (.bl (holdsD (.str x))) H
def spBr (K : PySem.W.Frag) : Sp := fun vs H Q _ => ∃ (z : Str) (p : Nat), vs = [.str z, .int (p : Int)] ∧ z.length ≤ 2000 ∧ ∀ H' t u, Same H H' → H' t = some (.tup [u, .int ((p + (brM (z.cps.toList.drop p)).2 : Nat) - 1 : Int)]) → DQ K (nw H H') u (.tuple (brM (z.cps.toList.drop p)).1) → Q (.ref t) H'
def hdPost (K : PySem.W.Frag) (C : Addr) (p : Nat) (H : Hp) (Q : VK) (E : XK) : Option (List PyData × Nat) → Prop
  | none => ∀ H' d, Same H H' → H' d = some (.xd [("told", .int (p : Int))]) → E (.ref C) (some d) H'
  | some (h, n) => ∀ H' t u, Same H H' → H' t = some (.tup [u, .int ((p + n : Nat) : Int)]) → DQ K (nw H H') u (.tuple h) → Q (.ref t) H'
def spHead (K : PySem.W.Frag) (C : Addr) : Sp := fun vs H Q E => ∃ (z : Str) (p : Nat), vs = [.str z, .int (p : Int)] ∧ z.length ≤ 2000 ∧ hdPost K C p H Q E (hdM (z.cps.toList.drop p))
/-- a written head and the place behind it -/
theorem pair_new {K : PySem.W.Frag} {H : Hp} {p q : Addr} {us : List V} {ds : List PyData} {x : V} (np : H p = none) (nq : (upd H p (.tup us)) q = none) (h : DQs K (fun _ => none) us ds) :
    Same H (upd (upd H p (.tup us)) q (.tup [.ref p, x])) ∧ (upd (upd H p (.tup us)) q (.tup [.ref p, x])) q = some (.tup [.ref p, x]) ∧ DQ K (nw H (upd (upd H p (.tup us)) q (.tup [.ref p, x]))) (.ref p) (.tuple ds) := by
  have hpq : p ≠ q := fun e => by rw [← e, upd_same] at nq; cases nq
  refine ⟨(K0.same_upd np).trans (K0.same_upd nq), upd_same, .tup (.inl (.inl (nw_of np (by rw [upd_ne hpq, upd_same])))) (h.to fun b u e => by cases e)⟩
section
variable {P : Program} {w : World} {K : PySem.W.Frag} {mg : Str → Option Value} {base : Heap}
theorem sc_holds : FnScope ["kind"] ["kind"] (defScope (top 9)) := ⟨rfl, rfl, rfl, by decide +kernel, rfl, by decide +kernel, by decide +kernel⟩
theorem cl_holds (T : All K mg) : Cl P w K mg base 1 "does_hold" ["kind"] spHolds := by
  obtain ⟨g, fd, D⟩ := T.dn 9 _ _ rfl
  refine D.cl (D.fn.ok sc_holds (fun vs H Q E h => ?_) (fun cdv A outer s H vs Q E hr h => ?_))
  · obtain ⟨x, rfl, _⟩ := h
    rfl
  · obtain ⟨x, rfl, k⟩ := h
    obtain ⟨aH, hH, tH⟩ := T.cn.hol
    refine ⟨_, (pss_one (ps_ret (pe_and (pe_callB call_isi (by rfl) T.bi.isi (by decide +kernel) (pa_cons (pv 0) (pa_cons (pe_bltn (v := .ty "str") (by rfl) T.bi.str (by decide +kernel) rfl) pa_nil))) (pe_one (pe_cmpR op_in_seq (pv 0) (pe_glob (v := .ref aH) rfl hH rfl) rfl))))), ?_⟩
    refine ⟨_, rfl, .str x, .ty "str", .type "str", .type "str", true, rfl, .ty "str", .base (.str x), kit_ty (by decide +kernel), _, rfl, iteT ⟨_, rfl, aH, _, rfl, .inr (tH H), rfl, ?_, ?_⟩⟩
    · rfl
    · rw [in_holders]
      exact k
theorem sc_br : FnScope ["text", "at", "sign", "behind"] ["text", "at"] (defScope (top 22)) := ⟨rfl, rfl, rfl, by decide +kernel, rfl, by decide +kernel, by decide +kernel⟩
theorem cl_br (T : All K mg) : Cl P w K mg base 4 "_bracket" ["text", "at"] (spBr K) := by
  obtain ⟨g, fd, D⟩ := T.dn 22 _ _ rfl
  refine D.cl (D.fn.ok sc_br (fun vs H Q E h => ?_) (fun cdv A outer s H vs Q E hr h => ?_))
  · obtain ⟨z, p, rfl, _⟩ := h
    rfl
  · obtain ⟨z, p, rfl, hz, k⟩ := h
    refine ⟨_, (pss_cons (ps_set (i := 2) sc_br.nd rfl (Or.inl rfl) (pe_slice sl_str (pv 0) (po_some (pv 1)) (po_some (pe_op op_add (pv 1) pe_int))))
      (pss_cons (ps_if (pt_cmpR op_eq (pv 2) pe_str (nomark _)) (pss_one (ps_ret (pe_tup (pa_cons (pe_tup (pa_cons pe_str pa_nil)) (pa_cons (pe_op op_add (pv 1) pe_int) pa_nil))))) pss_nil)
      (pss_cons (ps_if (pt_cmpR op_eq (pv 2) pe_str (nomark _)) (pss_one (ps_ret (pe_tup (pa_cons (pe_tup (pa_cons pe_str pa_nil)) (pa_cons (pe_op op_add (pv 1) pe_int) pa_nil))))) pss_nil)
      (pss_cons (ps_set (i := 3) sc_br.nd rfl (Or.inl rfl) (pe_cl (cl_wend T) hr (by decide) (pa_cons (pv 0) (pa_cons (pv 1) pa_nil))))
      (pss_cons (ps_if (PW.pt (pw_and (pt_cmpR op_gt (pv 3) (pv 1) (nomark _)) (pw_and1 (pt_cmpR op_eq (pe_slice sl_str (pv 0) (po_some (pv 3)) (po_some (pe_op op_add (pv 3) pe_int))) pe_str (nomark _))))) (pss_one (ps_ret (pe_tup (pa_cons (pe_tup (pa_cons pe_str (pa_cons (pe_slice sl_str (pv 0) (po_some (pv 1)) (po_some (pv 3))) pa_nil))) (pa_cons (pe_op op_add (pv 3) pe_int) pa_nil))))) pss_nil)
      (pss_one (ps_ret (pe_tup (pa_cons (pe_tup (pa_cons pe_str pa_nil)) (pa_cons (pv 1) pa_nil)))))))))), ?_⟩
    have c1 : ∀ q : Nat, (((q : Nat) : Int) + 1) = ((q + 1 : Nat) : Int) := fun q => by omega
    refine ⟨_, rfl, _, rfl, _, rfl, _, rfl, _, _, rfl, rfl, _, rfl, z, rfl, sizeL hz, ?_⟩
    rw [c1, cut_nat, Nat.add_sub_cancel_left]
    refine ⟨_, rfl, rfl, _, rfl, ?_⟩
    rw [sign_is (c := 43) (by decide +kernel)]
    unfold brM at k
    have s1 : 1 ≤ sizeLine := sizeL (by decide) (m := 1)
    have s2 : 2 ≤ sizeLine := sizeL (by decide) (m := 2)
    cases e1 : sgM (fun c => c == 43) (z.cps.toList.drop p) with
    | true =>
      rw [e1, if_pos rfl] at k
      refine iteT ⟨s1, fun a na => ⟨_, rfl, _, _, rfl, rfl, s2, fun b nb => ?_⟩⟩
      obtain ⟨q1, q2, q3⟩ := pair_new (x := .int ((p : Int) + 1)) (ds := [.str "sum"]) na nb (.cons (.str _ (by decide +kernel)) .nil)
      refine k _ b _ q1 ?_ q3
      rw [q2]
      congr 5
      omega
    | false =>
      rw [e1, if_neg Bool.false_ne_true] at k
      refine iteF ⟨_, rfl, rfl, _, rfl, ?_⟩
      rw [sign_is (c := 42) (by decide +kernel)]
      cases e2 : sgM (fun c => c == 42) (z.cps.toList.drop p) with
      | true =>
        rw [e2, if_pos rfl] at k
        refine iteT ⟨s1, fun a na => ⟨_, rfl, _, _, rfl, rfl, s2, fun b nb => ?_⟩⟩
        obtain ⟨q1, q2, q3⟩ := pair_new (x := .int ((p : Int) + 1)) (ds := [.str "product"]) na nb (.cons (.str _ (by decide +kernel)) .nil)
        refine k _ b _ q1 ?_ q3
        rw [q2]
        congr 5
        omega
      | false =>
        rw [e2, if_neg Bool.false_ne_true] at k
        refine iteF ⟨_, rfl, _, rfl, z, p, rfl, hz, ?_⟩
        refine ⟨_, rfl, _, rfl, _, _, rfl, rfl, _, rfl, ?_⟩
        have hgt : decide (((p : Nat) : Int) < ((p + wE (z.cps.toList.drop p) : Nat) : Int)) = decide (0 < wE (z.cps.toList.drop p)) := by
          rw [dec_pos]
          congr 1
          exact propext ⟨fun h => by omega, fun h => by omega⟩
        have blk : ¬ (0 < wE (z.cps.toList.drop p) ∧ ((z.cps.toList.drop p).drop (wE (z.cps.toList.drop p))).take 2 = [32, 61]) → tRet (tTup (tCons (tTup (tCons (tC (.str "block")) tNil)) (tCons (tVar 1) tNil))) { nx := fun _ H' => Q .non H', rt := Q } [some (.str z), some (.int (p : Int)), some (.str (sO ((z.cps.toList.drop p).take 1))), some (.int ((p + wE (z.cps.toList.drop p) : Nat) : Int))] H := by
          intro hn
          rw [if_neg hn] at k
          refine ⟨s1, fun a na => ⟨_, rfl, s2, fun b nb => ?_⟩⟩
          obtain ⟨q1, q2, q3⟩ := pair_new (x := .int (p : Int)) (ds := [.str "block"]) na nb (.cons (.str _ (by decide +kernel)) .nil)
          refine k _ b _ q1 ?_ q3
          rw [q2]
          congr 5
          omega
        by_cases h0 : 0 < wE (z.cps.toList.drop p)
        · have hgt' : decide (((p + wE (z.cps.toList.drop p) : Nat) : Int) > ((p : Nat) : Int)) = true := by rw [← decide_eq_true h0, ← hgt]
          rw [hgt']
          refine iteT ⟨_, rfl, _, rfl, _, rfl, _, rfl, _, _, rfl, rfl, _, rfl, z, rfl, sizeL hz, rfl, _, rfl, ?_⟩
          have c2 : (((p + wE (z.cps.toList.drop p) : Nat) : Int) + 2) = ((p + wE (z.cps.toList.drop p) + 2 : Nat) : Int) := by omega
          rw [c2, cut_nat, part_is (m := [32, 61]) (by decide +kernel), Nat.add_sub_cancel_left, ← List.drop_drop]
          by_cases h2 : ((z.cps.toList.drop p).drop (wE (z.cps.toList.drop p))).take 2 = [32, 61]
          · rw [decide_eq_true h2]
            rw [if_pos ⟨h0, h2⟩] at k
            refine iteT ⟨_, rfl, _, rfl, _, rfl, _, rfl, _, rfl, z, rfl, sizeL hz, s2, fun a na => ⟨_, rfl, _, _, rfl, rfl, s2, fun b nb => ?_⟩⟩
            rw [cut_nat, Nat.add_sub_cancel_left] at nb ⊢
            obtain ⟨q1, q2, q3⟩ := pair_new (x := .int (((p + wE (z.cps.toList.drop p) : Nat) : Int) + 2)) (ds := [.str "let", .str (sO ((z.cps.toList.drop p).take (wE (z.cps.toList.drop p))))]) na nb (.cons (.str _ (by decide +kernel)) (.cons (.str _ (by
              rw [sO_len]
              exact take_len_le (Nat.le_trans (wE_le _) (by decide)))) .nil))
            refine k _ b _ q1 ?_ q3
            rw [q2]
            congr 5
            omega
          · rw [decide_eq_false h2]
            exact iteF (blk fun q => h2 q.2)
        · have hgt' : decide (((p + wE (z.cps.toList.drop p) : Nat) : Int) > ((p : Nat) : Int)) = false := by rw [← decide_eq_false h0, ← hgt]
          rw [hgt']
          exact iteF (blk fun q => h0 q.1)
theorem sc_head : FnScope ["text", "at", "sign", "behind"] ["text", "at"] (defScope (top 21)) := ⟨rfl, rfl, rfl, by decide +kernel, rfl, by decide +kernel, by decide +kernel⟩
theorem cl_head {C fI : Addr} (T : All K mg) (R : Er K mg "BadText" C fI) : ClX P w K mg base 5 "_head" ["text", "at"] (spHead K C) := by
  obtain ⟨g, fd, D⟩ := T.dn 21 _ _ rfl
  refine D.clX (D.fn.okX sc_head (fun vs H Q E h => ?_) (fun cdv A outer s H vs Q E hr h => ?_))
  · obtain ⟨z, p, rfl, _⟩ := h
    rfl
  · obtain ⟨z, p, rfl, hz, k⟩ := h
    refine ⟨_, (pss_cons (ps_set (i := 2) sc_head.nd rfl (Or.inl rfl) (pe_slice sl_str (pv 0) (po_some (pv 1)) (po_some (pe_op op_add (pv 1) pe_int))))
      (pss_cons (ps_if (pt_cmpR op_eq (pv 2) pe_str (nomark _)) (pss_one (ps_ret (pe_cl (cl_br T) hr (by decide) (pa_cons (pv 0) (pa_cons (pe_op op_add (pv 1) pe_int) pa_nil))))) pss_nil)
      (pss_cons (ps_if (pt_cmpR op_eq (pv 2) pe_str (nomark _)) (pss_one (ps_ret (pe_tup (pa_cons (pe_tup (pa_cons pe_str pa_nil)) (pa_cons (pe_op op_add (pv 1) pe_int) pa_nil))))) pss_nil)
      (pss_cons (ps_set (i := 3) sc_head.nd rfl (Or.inl rfl) (pe_cl (cl_wend T) hr (by decide) (pa_cons (pv 0) (pa_cons (pv 1) pa_nil))))
      (pss_cons (ps_if (pt_cmpR op_gt (pv 3) (pv 1) (nomark _)) (pss_one (ps_ret (pe_tup (pa_cons (pe_tup (pa_cons pe_str (pa_cons (pe_slice sl_str (pv 0) (po_some (pv 1)) (po_some (pv 3))) pa_nil))) (pa_cons (pv 3) pa_nil))))) pss_nil)
      (pss_cons (ps_set (i := 3) sc_head.nd rfl (Or.inl rfl) (pe_cl (cl_nend T) hr (by decide) (pa_cons (pv 0) (pa_cons (pv 1) pa_nil))))
      (pss_cons (ps_if (pt_cmpR op_gt (pv 3) (pv 1) (nomark _)) (pss_one (ps_ret (pe_tup (pa_cons (pe_tup (pa_cons pe_str (pa_cons (pe_callTy call_int_str (by rfl) T.bi.int (by decide +kernel) (pa_cons (pe_slice sl_str (pv 0) (po_some (pv 1)) (po_some (pv 3))) pa_nil)) pa_nil))) (pa_cons (pv 3) pa_nil))))) pss_nil)
      (pss_one (ps_raise rfl (takes_of rfl rfl rfl rfl) (pmk_err R hr (by decide) (pa_cons (pv 1) pa_nil))))))))))), ?_⟩
    have c1 : ∀ q : Nat, (((q : Nat) : Int) + 1) = ((q + 1 : Nat) : Int) := fun q => by omega
    refine ⟨_, rfl, _, rfl, _, rfl, _, rfl, _, _, rfl, rfl, _, rfl, z, rfl, sizeL hz, ?_⟩
    rw [c1, cut_nat, Nat.add_sub_cancel_left]
    refine ⟨_, rfl, rfl, _, rfl, ?_⟩
    rw [sign_is (c := 40) (by decide +kernel)]
    have s1 : 1 ≤ sizeLine := sizeL (by decide) (m := 1)
    have s2 : 2 ≤ sizeLine := sizeL (by decide) (m := 2)
    unfold hdM at k
    cases e1 : sgM (fun c => c == 40) (z.cps.toList.drop p) with
    | true =>
      rw [e1, if_pos rfl] at k
      refine iteT ⟨_, rfl, _, rfl, _, _, rfl, rfl, z, p + 1, rfl, hz, fun H' t u S h1 h2 => ?_⟩
      rw [List.drop_drop] at k
      generalize brM (z.cps.toList.drop (p + 1)) = br at k h1 h2
      obtain ⟨hh, n⟩ := br
      refine k H' t u S ?_ h2
      rw [h1]
      congr 5
      show (((p + 1 + n : Nat) : Int) - 1) = ((p + n : Nat) : Int)
      omega
    | false =>
      rw [e1, if_neg Bool.false_ne_true] at k
      refine iteF ⟨_, rfl, rfl, _, rfl, ?_⟩
      rw [sign_is (c := 63) (by decide +kernel)]
      cases e2 : sgM (fun c => c == 63) (z.cps.toList.drop p) with
      | true =>
        rw [e2, if_pos rfl] at k
        refine iteT ⟨s1, fun a na => ⟨_, rfl, _, _, rfl, rfl, s2, fun b nb => ?_⟩⟩
        obtain ⟨q1, q2, q3⟩ := pair_new (x := .int ((p : Int) + 1)) (ds := [.str "lost"]) na nb (.cons (.str _ (by decide +kernel)) .nil)
        exact k _ b _ q1 q2 q3
      | false =>
        rw [e2, if_neg Bool.false_ne_true] at k
        refine iteF ⟨_, rfl, _, rfl, z, p, rfl, hz, ?_⟩
        refine ⟨_, rfl, _, rfl, _, _, rfl, rfl, _, rfl, ?_⟩
        have hgt : ∀ n : Nat, decide (((p + n : Nat) : Int) > ((p : Nat) : Int)) = decide (0 < n) := by
          intro n
          by_cases h : 0 < n
          · rw [decide_eq_true h, decide_eq_true (by omega)]
          · rw [decide_eq_false h, decide_eq_false (by omega)]
        rw [hgt]
        by_cases h0 : 0 < wE (z.cps.toList.drop p)
        · rw [if_pos h0] at k
          rw [decide_eq_true h0]
          refine iteT ⟨_, rfl, _, rfl, _, rfl, _, rfl, _, rfl, z, rfl, sizeL hz, s2, fun a na => ⟨_, rfl, s2, fun b nb => ?_⟩⟩
          rw [cut_nat, Nat.add_sub_cancel_left] at nb ⊢
          obtain ⟨q1, q2, q3⟩ := pair_new (x := .int ((p + wE (z.cps.toList.drop p) : Nat) : Int)) (ds := [.str "use", .str (sO ((z.cps.toList.drop p).take (wE (z.cps.toList.drop p))))]) na nb (.cons (.str _ (by decide +kernel)) (.cons (.str _ (by
              rw [sO_len]
              exact take_len_le (Nat.le_trans (wE_le _) (by decide)))) .nil))
          exact k _ b _ q1 q2 q3
        · rw [if_neg h0] at k
          rw [decide_eq_false h0]
          refine iteF ⟨_, rfl, _, rfl, z, p, rfl, hz, ?_⟩
          refine ⟨_, rfl, _, rfl, _, _, rfl, rfl, _, rfl, ?_⟩
          rw [hgt]
          by_cases h1 : 0 < nE (z.cps.toList.drop p)
          · rw [if_pos h1] at k
            rw [decide_eq_true h1]
            refine iteT ⟨_, rfl, _, rfl, _, rfl, _, rfl, _, rfl, z, rfl, sizeL hz, ?_⟩
            rw [cut_nat, Nat.add_sub_cancel_left]
            refine ⟨_, _, rfl, num_of h1, ?_, s2, fun a na => ⟨_, rfl, s2, fun b nb => ?_⟩⟩
            · rw [sO_len]
              exact take_len_le (Nat.le_trans (nE_le _) (by decide))
            · obtain ⟨q1, q2, q3⟩ := pair_new (x := .int ((p + nE (z.cps.toList.drop p) : Nat) : Int)) (ds := [.str "number", .int (numL ((z.cps.toList.drop p).take (nE (z.cps.toList.drop p))))]) na nb (.cons (.str _ (by decide +kernel)) (.cons (.int _) .nil))
              exact k _ b _ q1 q2 q3
          · rw [if_neg h1] at k
            rw [decide_eq_false h1]
            exact iteF ⟨_, rfl, _, rfl, fun H2 d2 S2 h2 => k H2 d2 S2 h2⟩
end
end K1
set_option maxHeartbeats 4000000
/-! rules: objects that are made and may raise, their methods; xs[-1] op= e; str of data -/
namespace K1
open PySem L2 PySem.Spec PyProof.Rows
section
variable {X : Cx} {CX : CXT} {k : Nat} {f C : Addr} {fd : FuncData} {ps : List Str} {sp : Sp} {x m : Str} {p pos apos : Pos} {e o : Expr} {es : List Expr} {ta : TE} {t : TA}
theorem run_fnA {A : Around} {E : XK} {pins : List (Addr × Obj)} {σ : L2.St} {H : Hp} {s : Shared} {Q : VK} {us : List Value} {vs : List V} (F : FnOk X.prog X.w X.K X.mg X.base CX k f fd ps sp) (hr : Room k A) (hfr : A.frames = X.A.frames) (hb : Binds X.K fd ps []) (hx : PassesAt CX X σ E)
    (I : Inv X pins σ H s) (r : Vals vs us) (h : sp vs H Q E) : wpAny (model X.prog X.w) A (call (.ref f) us) (EP X pins σ Q) X.xe s := by
  have hl : us.length = ps.length := by rw [← r.length]; exact F.len _ _ _ _ h
  have b := hb s us I.kIn (by rw [List.append_nil]; exact hl)
  rw [List.append_nil] at b
  have e0 : Env0 X.prog X.w X.K X.mg X.base A X.stack s H := by
    have e := I.env0
    exact ⟨by rw [hfr]; exact e.frames, e.mod, e.bs, e.bsz, e.funs, e.frf, e.hok, e.bare⟩
  refine wpAny_call (codeAny_mono (F.run A X.stack s H ⟨us, []⟩ us vs Q E hr e0 b r h) fun r s' hq => ?_)
  cases r with
  | error e => exact hx pins H s e s' I hq
  | ok fl =>
    cases fl with
    | ret u => exact I.after hq
    | next => exact False.elim hq
    | brk => exact False.elim hq
    | cont => exact False.elim hq
/-- a callee that is never to raise -/
theorem passN {σ : L2.St} : PassesAt (L2.CX X.prog X.w) X σ E0 := fun pins H s e s' I c => by
  obtain ⟨_, _, _, _, _, _, _, _, _, _, _, _, z⟩ := c
  exact z.elim
theorem run_makeS {E : XK} {dvs : List V} {ds : List Value} {pins : List (Addr × Obj)} {σ : L2.St} {H : Hp} {s : Shared} {Q : VK} {us : List Value} {vs : List V} (M : Mk X.K C f) (F : FnOk X.prog X.w X.K X.mg X.base CX k f fd ps sp) (hr : Room (k + 1) X.A) (hb : Binds X.K fd ps ds) (hd : Vals dvs ds)
    (hx : PassesAt CX X σ E) (I : Inv X pins σ H s) (r : Vals vs us)
    (h : ∀ x dx, H x = none → H dx = none → dx ≠ x → sp (.ref x :: (vs ++ dvs)) (upd (upd H dx (.own x)) x (.ins C dx [])) (fun v H2 => v = .non ∧ Q (.ref x) H2) E) :
    wpAny (model X.prog X.w) X.A (call (.ref C) us) (EP X pins σ Q) X.xe s := by
  have hq := h (s.heap.objs.size + 1) s.heap.objs.size (I.hok.fresh (Nat.le_succ _)) (I.hok.fresh (Nat.le_refl _)) (Nat.ne_of_lt (Nat.lt_succ_self _))
  have I2 := Inv.made (C := C) I
  have r2 : Vals (V.ref (s.heap.objs.size + 1) :: (vs ++ dvs)) (Value.ref (s.heap.objs.size + 1) :: (us ++ ds)) := .cons rfl (r.append hd)
  have hl : (Value.ref (s.heap.objs.size + 1) :: us ++ ds).length = ps.length := by
    have e := r2.length
    rw [F.len _ _ _ _ hq] at e
    exact e.symm
  refine wpAny_call (make_map (f := f) I.kIn M.makes M.init (beq_iff_eq.mp M.fn) (codeAny_mono (F.run _ X.stack _ _ ⟨Value.ref (s.heap.objs.size + 1) :: us, []⟩ (Value.ref (s.heap.objs.size + 1) :: (us ++ ds)) _ _ E (hr.make C us [])
    (I2.env0.make C us []) (hb _ (Value.ref (s.heap.objs.size + 1) :: us) I2.kIn hl) r2 hq) fun r s' hq' => ?_))
  cases r with
  | error e => exact hx pins _ _ e s' I2 hq'
  | ok fl =>
    cases fl with
    | ret u =>
      obtain ⟨v, H', I3, rv, ev, q3⟩ := I2.after hq'
      subst ev
      exact ⟨rv, ⟨V.ref (s.heap.objs.size + 1), H', I3, rfl, q3⟩⟩
    | next => exact False.elim hq'
    | brk => exact False.elim hq'
    | cont => exact False.elim hq'
def tMakeS (C : Addr) (sp : Sp) (dvs : List V) (E : L2.St → XK) (t : TA) : TE := fun σ H Q => t σ H fun vs H1 => ∀ x dx, H1 x = none → H1 dx = none → dx ≠ x →
  sp (.ref x :: (vs ++ dvs)) (upd (upd H1 dx (.own x)) x (.ins C dx [])) (fun v H2 => v = .non ∧ Q (.ref x) H2) (E σ)
theorem pe_makeS {E : L2.St → XK} {dvs : List V} {ds : List Value} (M : Mk X.K C f) (F : FnOk X.prog X.w X.K X.mg X.base CX k f fd ps sp) (hr : Room (k + 1) X.A) (hg : Gl X x) (hm : X.mg x = some (.ref C)) (hb : Binds X.K fd ps ds) (hd : Vals dvs ds) (hx : ∀ σ, PassesAt CX X σ (E σ))
    (ha : PA X (e :: es) t) (hdb : (x == ("__debug__" : Str)) = false := by decide) (he : starEach (e :: es) X.env = (false, eval e X.env) :: starEach es X.env := by rfl) (hpl : (backTo pos (starEach es X.env)).any (·.1) = false := by rfl) :
    PE X (.Call (.Name x p) (e :: es) [] pos) (tMakeS C sp dvs E t) := by
  refine ⟨fun pins s σ H Q I h => ?_⟩
  refine wpAny_Call_Name_kw (ld_glob I hg hm ?_ hdb)
  refine PySem.W.callWith_K (h₀ := X.base) I.ok.mod.kin M.kp (thn (ha.run pos pins s σ H _ I h) fun us s1 ⟨vs, H1, I1, r, q⟩ => ⟨I1.kIn, ?_⟩) he hpl
  exact run_makeS M F hr hb hd (hx σ) I1 r q
/-- o.m(e, ..), which may raise -/
def tMethS (C : Addr) (m : Str) (sp : Sp) (E : L2.St → XK) (ta : TE) (t : TA) : TE := fun σ H Q => ta σ H fun x H1 => ∃ a dx fs, x = .ref a ∧ H1 a = some (.ins C dx fs) ∧ fs.lookup m = none ∧ t σ H1 fun vs H2 => sp (x :: vs) H2 Q (E σ)
theorem pe_methS {X : Cx} {CX : CXT} {k : Nat} {f C : Addr} {fd : FuncData} {ps : List Str} {sp : Sp} {E : L2.St → XK} {m : Str} {pos apos : Pos} {e o : Expr} {es : List Expr} {ta : TE} {t : TA} {pl : Sem Bool} (he : PE X o ta) (c : Cls X.K C) (hm : Meth X.K C m f) (F : FnOk X.prog X.w X.K X.mg X.base CX k f fd ps sp) (hr : Room k X.A) (hb : Binds X.K fd ps []) (hx : ∀ σ, PassesAt CX X σ (E σ)) (ha : PA X (e :: es) t)
    (hst : starEach (e :: es) X.env = (false, eval e X.env) :: starEach es X.env := by rfl) (hpl : (backTo pos (starEach es X.env)).any (·.1) = false := by rfl)
    (ht : eval (.Call (.Attribute o m apos) (e :: es) [] pos) X.env = (do
      let ov ← eval o X.env
      standAt apos.atName
      let (f, first) ← holding [ov] (getMethod ov m pl)
      callWith pos f first (backTo pos (starEach (e :: es) X.env)) (backToKw pos (keywordEach [] X.env))) := by rfl) :
    PE X (.Call (.Attribute o m apos) (e :: es) [] pos) (tMethS C m sp E ta t) := by
  refine ⟨fun pins s σ H Q I h => ?_⟩
  refine PySem.W.methodCall_KW (pl := pl) (thn (he.run pins s σ H _ I h) fun u s1 ⟨x, H1, I1, rx, a, dx, fs, ex, ea, l, q⟩ => ?_) ht
  subst ex
  obtain rfl : u = Value.ref a := rx
  refine getmeth_ok I1 ea c hm l ?_
  refine PySem.W.callWith_K (first := [.ref a]) (h₀ := X.base) I.ok.mod.kin hm.kp (thn (ha.run pos pins s1 σ H1 _ I1 q) fun us s2 ⟨vs, H2, I2, r, q2⟩ => ⟨I2.kIn, ?_⟩) hst hpl
  exact run_fnA (us := .ref a :: us) (vs := .ref a :: vs) F hr rfl hb (hx σ) I2 (.cons rfl r) q2
end
theorem pe_methS0 {X : Cx} {CX : CXT} {k : Nat} {f C : Addr} {fd : FuncData} {ps : List Str} {sp : Sp} {E : L2.St → XK} {m : Str} {pos apos : Pos} {o : Expr} {ta : TE} {pl : Sem Bool} (he : PE X o ta) (c : Cls X.K C) (hm : Meth X.K C m f) (F : FnOk X.prog X.w X.K X.mg X.base CX k f fd ps sp) (hr : Room k X.A) (hb : Binds X.K fd ps []) (hx : ∀ σ, PassesAt CX X σ (E σ))
    (ht : eval (.Call (.Attribute o m apos) [] [] pos) X.env = (do
      let ov ← eval o X.env
      standAt apos.atName
      let (f, first) ← holding [ov] (getMethod ov m pl)
      callWith pos f first (backTo pos (starEach [] X.env)) (backToKw pos (keywordEach [] X.env))) := by rfl) :
    PE X (.Call (.Attribute o m apos) [] [] pos) (tMethS C m sp E ta tNil) := by
  refine ⟨fun pins s σ H Q I h => ?_⟩
  refine PySem.W.methodCall_KW (pl := pl) (thn (he.run pins s σ H _ I h) fun u s1 ⟨x, H1, I1, rx, a, dx, fs, ex, ea, l, q⟩ => ?_) ht
  subst ex
  obtain rfl : u = Value.ref a := rx
  refine getmeth_ok I1 ea c hm l ?_
  exact PySem.W.callWith_K0 (first := [.ref a]) I1.kIn hm.kp (by
    have z := run_fnA (us := [.ref a]) (vs := [.ref a]) F hr rfl hb (hx σ) I1 (.cons rfl .nil) q
    exact z)
/-- xs[i], i below nothing, to be written again -/
theorem pget_list {X : Cx} : PGet X (fun o i H Q => ∃ p xs k v, o = .ref p ∧ i = .int k ∧ SqL X.K H p xs ∧ k < 0 ∧ atI xs k = some v ∧ Q v H) := by
  intro pins s σ H o i ov iv Q I ro ri h
  obtain ⟨p, xs, k, z, rfl, rfl, hq, h0, he, q⟩ := h
  cases ro
  obtain ⟨t, rfl⟩ := ri
  obtain ⟨its, r, pl, hz⟩ := I.list hq
  obtain ⟨j, h1, h2, h3, h4, h5⟩ := atI_get he
  obtain ⟨w, ew, rw'⟩ := r.get h2
  have hl := r.length
  have hn := line63
  have hj : (k + (its.toArray.size : Int)).toNat = j := by
    rw [seqIndex_neg (by omega) h4] at h1
    rw [List.size_toArray, ← hl]
    exact Option.some.inj h1
  exact wpAny_getItem_list_neg pl.isList h0 (by rw [List.size_toArray] <;> omega) (by omega) (by rw [hj]; simpa using ew) ⟨z, H, I, rw', q⟩
/-- str of a tuple -/
def rStrT (K : PySem.W.Frag) : List V → Hp → VK → Prop := fun xs H Q => ∃ (v : V) (ds : List PyData), xs = [v] ∧ Shows K H v (.tuple ds) ∧ Q (.str (PyData.shown (.tuple ds))) H
theorem call_strT {X : Cx} (hg : X.A.guards = some []) (hu : X.A.units + 64 < cLine) : CallR X (.type "str") (rStrT X.K) := by
  intro pins s σ H xs us Q I r h
  obtain ⟨v, ds, rfl, S, q⟩ := h
  obtain ⟨u, rfl, ru⟩ := vals1 r
  obtain ⟨as, hr, hsm⟩ := DQ.reads I _ v u S.dq ru
  have hsm' : PyData.hasDict (.tuple ds) = true → sysModules ∉ as := fun z => hsm (S.nl z)
  have hdp := S.dp
  cases hr with
  | tuple a1 a2 a3 a4 => exact str_of_reads (PySem.Reads.tuple a1 a2 a3 a4) S.sh hsm' hg (by omega) (fun _ _ e => e) (fun h' u tk hk => ⟨.str _, H, I.kept hk, ⟨_, rfl⟩, q⟩) S.sz
end K1
set_option maxHeartbeats 4000000
/-! a scan that stands in the heap -/
namespace K1
open PySem L2
structure Ad where
  p : Addr
  a1 : Addr
  a2 : Addr
  a3 : Addr
  a4 : Addr
  a5 : Addr
  a6 : Addr
def Ad.L (a : Ad) : List Addr := [a.p, a.a1, a.a2, a.a3, a.a4, a.a5, a.a6]
theorem Ad.apart {a : Ad} (h : a.L.Nodup) : a.p ≠ a.a1 ∧ a.p ≠ a.a2 ∧ a.p ≠ a.a3 ∧ a.p ≠ a.a4 ∧ a.p ≠ a.a5 ∧ a.p ≠ a.a6 ∧ a.a1 ≠ a.a2 ∧ a.a1 ≠ a.a3 ∧ a.a1 ≠ a.a4 ∧ a.a1 ≠ a.a5 ∧ a.a1 ≠ a.a6 ∧ a.a2 ≠ a.a3 ∧ a.a2 ≠ a.a4 ∧ a.a2 ≠ a.a5 ∧ a.a2 ≠ a.a6 ∧ a.a3 ≠ a.a4 ∧ a.a3 ≠ a.a5 ∧ a.a3 ≠ a.a6 ∧ a.a4 ≠ a.a5 ∧ a.a4 ≠ a.a6 ∧ a.a5 ≠ a.a6 := by
  unfold Ad.L at h
  simp only [List.nodup_cons, List.mem_cons, List.not_mem_nil, or_false, not_or] at h
  obtain ⟨⟨h01, h02, h03, h04, h05, h06⟩, ⟨h12, h13, h14, h15, h16⟩, ⟨h23, h24, h25, h26⟩, ⟨h34, h35, h36⟩, ⟨h45, h46⟩, h56, _⟩ := h
  exact ⟨h01, h02, h03, h04, h05, h06, h12, h13, h14, h15, h16, h23, h24, h25, h26, h34, h35, h36, h45, h46, h56⟩

/-- all but those -/
def hidS (L : List Addr) (H : Hp) : Hp := fun b => if b ∈ L then none else H b
theorem hidS_at {L : List Addr} {H : Hp} {b : Addr} {u : HO} (h : hidS L H b = some u) : b ∉ L ∧ H b = some u := by
  unfold hidS at h
  by_cases e : b ∈ L
  · rw [if_pos e] at h
    cases h
  · rw [if_neg e] at h
    exact ⟨e, h⟩
theorem hidS_of {L : List Addr} {H : Hp} {b : Addr} {u : HO} (n : b ∉ L) (h : H b = some u) : hidS L H b = some u := by
  unfold hidS
  rw [if_neg n]
  exact h
theorem hidS_in (L : List Addr) (H : Hp) : Same (hidS L H) H := fun b u e => (hidS_at e).2
theorem hidS_more {L : List Addr} {H H' : Hp} (s : Same H H') : Same (hidS L H) (hidS L H') := fun b u e => hidS_of (hidS_at e).1 (s _ _ (hidS_at e).2)
theorem hidS_upd {L : List Addr} {H : Hp} {x : Addr} {o : HO} (h : x ∈ L) : hidS L (upd H x o) = hidS L H := by
  funext b
  unfold hidS
  by_cases e : b ∈ L
  · rw [if_pos e, if_pos e]
  · rw [if_neg e, if_neg e, upd_ne (fun q => e (by rw [q]; exact h))]
theorem hidS_nw {L : List Addr} {H H' : Hp} (h : ∀ b ∈ L, H b ≠ none) : Same (nw H H') (hidS L H') := fun b u e => hidS_of (fun q => h b q (nw_at e).1) (nw_at e).2
def pathD (l : List Int) : PyData := .tuple (l.map PyData.int)
def natV (n : Nat) : V := .int (n : Int)
/-- the attributes of a scan -/
def scF (a : Ad) (z : Str) (p : Nat) : List (Str × V) := [("paths", .ref a.a1), ("heads", .ref a.a2), ("firsts", .ref a.a3), ("behinds", .ref a.a4), ("_text", .str z), ("_at", natV p), ("_around", .ref a.a5), ("_counts", .ref a.a6)]
structure ScAt (K : PySem.W.Frag) (C : Addr) (H : Hp) (a : Ad) (z : Str) (S : Sc) : Prop where
  ob : ∃ dx, H a.p = some (.ins C dx (scF a z S.pos))
  l1 : ∃ vs, H a.a1 = some (.lst vs) ∧ DQs K (hidS a.L H) vs (S.paths.map pathD)
  l2 : ∃ vs, H a.a2 = some (.lst vs) ∧ DQs K (hidS a.L H) vs (S.heads.map PyData.tuple)
  l3 : H a.a3 = some (.lst (S.firsts.map V.int))
  l4 : H a.a4 = some (.lst (S.behinds.map V.int))
  l5 : H a.a5 = some (.lst (S.around.map natV))
  l6 : H a.a6 = some (.lst (S.counts.map natV))
  nd : a.L.Nodup
theorem ScAt.there {K : PySem.W.Frag} {C : Addr} {H : Hp} {a : Ad} {z : Str} {S : Sc} (A : ScAt K C H a z S) : ∀ b ∈ a.L, H b ≠ none := by
  obtain ⟨dx, h0⟩ := A.ob
  obtain ⟨v1, h1, _⟩ := A.l1
  obtain ⟨v2, h2, _⟩ := A.l2
  intro b hb e
  unfold Ad.L at hb
  simp only [List.mem_cons, List.not_mem_nil, or_false] at hb
  rcases hb with rfl | rfl | rfl | rfl | rfl | rfl | rfl
  · rw [h0] at e; cases e
  · rw [h1] at e; cases e
  · rw [h2] at e; cases e
  · rw [A.l3] at e; cases e
  · rw [A.l4] at e; cases e
  · rw [A.l5] at e; cases e
  · rw [A.l6] at e; cases e
theorem ScAt.same {K : PySem.W.Frag} {C : Addr} {H H' : Hp} {a : Ad} {z : Str} {S : Sc} (A : ScAt K C H a z S) (s : Same H H') : ScAt K C H' a z S := by
  obtain ⟨dx, h0⟩ := A.ob
  obtain ⟨v1, h1, d1⟩ := A.l1
  obtain ⟨v2, h2, d2⟩ := A.l2
  exact ⟨⟨dx, s _ _ h0⟩, ⟨v1, s _ _ h1, d1.to (hidS_more s)⟩, ⟨v2, s _ _ h2, d2.to (hidS_more s)⟩, s _ _ A.l3, s _ _ A.l4, s _ _ A.l5, s _ _ A.l6, A.nd⟩
theorem ScAt.pos {K : PySem.W.Frag} {C : Addr} {H : Hp} {a : Ad} {z : Str} {S : Sc} (A : ScAt K C H a z S) (q : Nat) : ∃ dx, H a.p = some (.ins C dx (scF a z S.pos)) ∧ ScAt K C (upd H a.p (.ins C dx (scF a z q))) a z { S with pos := q } := by
  obtain ⟨h01, h02, h03, h04, h05, h06, h12, h13, h14, h15, h16, h23, h24, h25, h26, h34, h35, h36, h45, h46, h56⟩ := Ad.apart A.nd
  have e : ∀ o, hidS a.L (upd H a.p o) = hidS a.L H := fun o => hidS_upd (by simp [Ad.L])
  obtain ⟨dx, h⟩ := A.ob
  exact ⟨dx, h, ⟨⟨dx, upd_same⟩, ⟨A.l1.choose, by rw [upd_ne (Ne.symm h01)]; exact A.l1.choose_spec.1, by rw [e]; exact A.l1.choose_spec.2⟩, ⟨A.l2.choose, by rw [upd_ne (Ne.symm h02)]; exact A.l2.choose_spec.1, by rw [e]; exact A.l2.choose_spec.2⟩, (by rw [upd_ne (Ne.symm h03)]; exact A.l3), (by rw [upd_ne (Ne.symm h04)]; exact A.l4), (by rw [upd_ne (Ne.symm h05)]; exact A.l5), (by rw [upd_ne (Ne.symm h06)]; exact A.l6), A.nd⟩⟩
theorem ScAt.path {K : PySem.W.Frag} {C : Addr} {H : Hp} {a : Ad} {z : Str} {S : Sc} (A : ScAt K C H a z S) {v : V} {l : List Int} (hv : DQ K (hidS a.L H) v (pathD l)) : ∃ vs, H a.a1 = some (.lst vs) ∧ vs.length = S.paths.length ∧ ScAt K C (upd H a.a1 (.lst (vs ++ [v]))) a z { S with paths := S.paths ++ [l] } := by
  obtain ⟨h01, h02, h03, h04, h05, h06, h12, h13, h14, h15, h16, h23, h24, h25, h26, h34, h35, h36, h45, h46, h56⟩ := Ad.apart A.nd
  have e : ∀ o, hidS a.L (upd H a.a1 o) = hidS a.L H := fun o => hidS_upd (by simp [Ad.L])
  obtain ⟨vs, g1, g2⟩ := A.l1
  exact ⟨vs, g1, by rw [g2.len, List.length_map], ⟨⟨A.ob.choose, by rw [upd_ne h01]; exact A.ob.choose_spec⟩, ⟨_, upd_same, by rw [e, List.map_append]; exact g2.app (.cons hv .nil)⟩, ⟨A.l2.choose, by rw [upd_ne (Ne.symm h12)]; exact A.l2.choose_spec.1, by rw [e]; exact A.l2.choose_spec.2⟩, (by rw [upd_ne (Ne.symm h13)]; exact A.l3), (by rw [upd_ne (Ne.symm h14)]; exact A.l4), (by rw [upd_ne (Ne.symm h15)]; exact A.l5), (by rw [upd_ne (Ne.symm h16)]; exact A.l6), A.nd⟩⟩
theorem ScAt.head {K : PySem.W.Frag} {C : Addr} {H : Hp} {a : Ad} {z : Str} {S : Sc} (A : ScAt K C H a z S) {v : V} {l : List PyData} (hv : DQ K (hidS a.L H) v (.tuple l)) : ∃ vs, H a.a2 = some (.lst vs) ∧ vs.length = S.heads.length ∧ ScAt K C (upd H a.a2 (.lst (vs ++ [v]))) a z { S with heads := S.heads ++ [l] } := by
  obtain ⟨h01, h02, h03, h04, h05, h06, h12, h13, h14, h15, h16, h23, h24, h25, h26, h34, h35, h36, h45, h46, h56⟩ := Ad.apart A.nd
  have e : ∀ o, hidS a.L (upd H a.a2 o) = hidS a.L H := fun o => hidS_upd (by simp [Ad.L])
  obtain ⟨vs, g1, g2⟩ := A.l2
  exact ⟨vs, g1, by rw [g2.len, List.length_map], ⟨⟨A.ob.choose, by rw [upd_ne h02]; exact A.ob.choose_spec⟩, ⟨A.l1.choose, by rw [upd_ne h12]; exact A.l1.choose_spec.1, by rw [e]; exact A.l1.choose_spec.2⟩, ⟨_, upd_same, by rw [e, List.map_append]; exact g2.app (.cons hv .nil)⟩, (by rw [upd_ne (Ne.symm h23)]; exact A.l3), (by rw [upd_ne (Ne.symm h24)]; exact A.l4), (by rw [upd_ne (Ne.symm h25)]; exact A.l5), (by rw [upd_ne (Ne.symm h26)]; exact A.l6), A.nd⟩⟩
theorem ScAt.first {K : PySem.W.Frag} {C : Addr} {H : Hp} {a : Ad} {z : Str} {S : Sc} (A : ScAt K C H a z S) (l : List Int) : ScAt K C (upd H a.a3 (.lst (l.map V.int))) a z { S with firsts := l } := by
  obtain ⟨h01, h02, h03, h04, h05, h06, h12, h13, h14, h15, h16, h23, h24, h25, h26, h34, h35, h36, h45, h46, h56⟩ := Ad.apart A.nd
  have e : ∀ o, hidS a.L (upd H a.a3 o) = hidS a.L H := fun o => hidS_upd (by simp [Ad.L])
  exact ⟨⟨A.ob.choose, by rw [upd_ne h03]; exact A.ob.choose_spec⟩, ⟨A.l1.choose, by rw [upd_ne h13]; exact A.l1.choose_spec.1, by rw [e]; exact A.l1.choose_spec.2⟩, ⟨A.l2.choose, by rw [upd_ne h23]; exact A.l2.choose_spec.1, by rw [e]; exact A.l2.choose_spec.2⟩, upd_same, (by rw [upd_ne (Ne.symm h34)]; exact A.l4), (by rw [upd_ne (Ne.symm h35)]; exact A.l5), (by rw [upd_ne (Ne.symm h36)]; exact A.l6), A.nd⟩
theorem ScAt.behind {K : PySem.W.Frag} {C : Addr} {H : Hp} {a : Ad} {z : Str} {S : Sc} (A : ScAt K C H a z S) (l : List Int) : ScAt K C (upd H a.a4 (.lst (l.map V.int))) a z { S with behinds := l } := by
  obtain ⟨h01, h02, h03, h04, h05, h06, h12, h13, h14, h15, h16, h23, h24, h25, h26, h34, h35, h36, h45, h46, h56⟩ := Ad.apart A.nd
  have e : ∀ o, hidS a.L (upd H a.a4 o) = hidS a.L H := fun o => hidS_upd (by simp [Ad.L])
  exact ⟨⟨A.ob.choose, by rw [upd_ne h04]; exact A.ob.choose_spec⟩, ⟨A.l1.choose, by rw [upd_ne h14]; exact A.l1.choose_spec.1, by rw [e]; exact A.l1.choose_spec.2⟩, ⟨A.l2.choose, by rw [upd_ne h24]; exact A.l2.choose_spec.1, by rw [e]; exact A.l2.choose_spec.2⟩, (by rw [upd_ne h34]; exact A.l3), upd_same, (by rw [upd_ne (Ne.symm h45)]; exact A.l5), (by rw [upd_ne (Ne.symm h46)]; exact A.l6), A.nd⟩
theorem ScAt.arnd {K : PySem.W.Frag} {C : Addr} {H : Hp} {a : Ad} {z : Str} {S : Sc} (A : ScAt K C H a z S) (l : List Nat) : ScAt K C (upd H a.a5 (.lst (l.map natV))) a z { S with around := l } := by
  obtain ⟨h01, h02, h03, h04, h05, h06, h12, h13, h14, h15, h16, h23, h24, h25, h26, h34, h35, h36, h45, h46, h56⟩ := Ad.apart A.nd
  have e : ∀ o, hidS a.L (upd H a.a5 o) = hidS a.L H := fun o => hidS_upd (by simp [Ad.L])
  exact ⟨⟨A.ob.choose, by rw [upd_ne h05]; exact A.ob.choose_spec⟩, ⟨A.l1.choose, by rw [upd_ne h15]; exact A.l1.choose_spec.1, by rw [e]; exact A.l1.choose_spec.2⟩, ⟨A.l2.choose, by rw [upd_ne h25]; exact A.l2.choose_spec.1, by rw [e]; exact A.l2.choose_spec.2⟩, (by rw [upd_ne h35]; exact A.l3), (by rw [upd_ne h45]; exact A.l4), upd_same, (by rw [upd_ne (Ne.symm h56)]; exact A.l6), A.nd⟩
theorem ScAt.cnt {K : PySem.W.Frag} {C : Addr} {H : Hp} {a : Ad} {z : Str} {S : Sc} (A : ScAt K C H a z S) (l : List Nat) : ScAt K C (upd H a.a6 (.lst (l.map natV))) a z { S with counts := l } := by
  obtain ⟨h01, h02, h03, h04, h05, h06, h12, h13, h14, h15, h16, h23, h24, h25, h26, h34, h35, h36, h45, h46, h56⟩ := Ad.apart A.nd
  have e : ∀ o, hidS a.L (upd H a.a6 o) = hidS a.L H := fun o => hidS_upd (by simp [Ad.L])
  exact ⟨⟨A.ob.choose, by rw [upd_ne h06]; exact A.ob.choose_spec⟩, ⟨A.l1.choose, by rw [upd_ne h16]; exact A.l1.choose_spec.1, by rw [e]; exact A.l1.choose_spec.2⟩, ⟨A.l2.choose, by rw [upd_ne h26]; exact A.l2.choose_spec.1, by rw [e]; exact A.l2.choose_spec.2⟩, (by rw [upd_ne h36]; exact A.l3), (by rw [upd_ne h46]; exact A.l4), (by rw [upd_ne h56]; exact A.l5), upd_same, A.nd⟩

theorem putF_at (a : Ad) (z : Str) (p q : Nat) : putF "_at" (natV q) (scF a z p) = scF a z q := by rfl
/-- the class as the top has made it -/
structure ScC (K : PySem.W.Frag) (mg : Str → Option Value) (C : Addr) : Prop where
  cl : Cls K C
  mg : mg "Scan" = some (.ref C)
  n1 : NoAttr K C "paths"
  n2 : NoAttr K C "heads"
  n3 : NoAttr K C "firsts"
  n4 : NoAttr K C "behinds"
  nT : NoAttr K C "_text"
  nA : NoAttr K C "_at"
  n5 : NoAttr K C "_around"
  n6 : NoAttr K C "_counts"
  ini : ∃ f fd, Fun K "__init__" "Scan.__init__" (inClass (top 20) 0) f fd ∧ Binds K fd ["self", "text"] [] ∧ Mk K C f
  run : ∃ f fd, Fun K "_run" "Scan._run" (inClass (top 20) 1) f fd ∧ Binds K fd ["self"] [] ∧ Meth K C "_run" f
  isn : ∃ f fd, Fun K "_is_in_new_block" "Scan._is_in_new_block" (inClass (top 20) 2) f fd ∧ Binds K fd ["self"] [] ∧ Meth K C "_is_in_new_block" f
  beg : ∃ f fd, Fun K "_begin" "Scan._begin" (inClass (top 20) 3) f fd ∧ Binds K fd ["self"] [] ∧ Meth K C "_begin" f
  clo : ∃ f fd, Fun K "_close" "Scan._close" (inClass (top 20) 4) f fd ∧ Binds K fd ["self"] [] ∧ Meth K C "_close" f
theorem look1 (a : Ad) (z : Str) (p : Nat) : (scF a z p).lookup ("paths" : Str) = some (.ref a.a1) := by rfl
theorem look2 (a : Ad) (z : Str) (p : Nat) : (scF a z p).lookup ("heads" : Str) = some (.ref a.a2) := by rfl
theorem look3 (a : Ad) (z : Str) (p : Nat) : (scF a z p).lookup ("firsts" : Str) = some (.ref a.a3) := by rfl
theorem look4 (a : Ad) (z : Str) (p : Nat) : (scF a z p).lookup ("behinds" : Str) = some (.ref a.a4) := by rfl
theorem lookT (a : Ad) (z : Str) (p : Nat) : (scF a z p).lookup ("_text" : Str) = some (.str z) := by rfl
theorem lookA (a : Ad) (z : Str) (p : Nat) : (scF a z p).lookup ("_at" : Str) = some (natV p) := by rfl
theorem look5 (a : Ad) (z : Str) (p : Nat) : (scF a z p).lookup ("_around" : Str) = some (.ref a.a5) := by rfl
theorem look6 (a : Ad) (z : Str) (p : Nat) : (scF a z p).lookup ("_counts" : Str) = some (.ref a.a6) := by rfl
theorem atI_end {xs : List V} {v : V} (h : xs.getLast? = some v) (hl : xs.length < 2 ^ 62) : atI xs (-1) = some v := by
  have ne : xs ≠ [] := fun e => by rw [e] at h; cases h
  have h0 : 0 < xs.length := List.length_pos_iff.mpr ne
  rw [List.getLast?_eq_getElem?] at h
  unfold atI
  have e : ixN xs.length (-1) = some (xs.length - 1) := by
    unfold ixN
    rw [if_neg (by decide)]
    rw [if_pos (by omega)]
    congr 1
    omega
  rw [e]
  exact h
end K1
set_option maxHeartbeats 4000000
/-! the methods of a scan -/
namespace K1
open PySem L2
/-- heads as they are found -/
def HdOk (h : List PyData) : Prop := (∃ x, h = [.str x] ∧ PyData.strOk x = true) ∨ (∃ x y, h = [.str x, .str y] ∧ PyData.strOk x = true ∧ PyData.strOk y = true ∧ y.length ≤ 6) ∨ ∃ x i, h = [.str x, .int i] ∧ PyData.strOk x = true
theorem let_mem : ∀ (n : Nat) (S : List Nat), ∀ c ∈ S.take (lE n S), c < 200
  | 0, S, c, h => by
    have : lE 0 S = 0 := by cases S <;> rfl
    rw [this] at h
    cases h
  | n + 1, [], c, h => by cases h
  | n + 1, d :: r, c, h => by
    have e : lE (n + 1) (d :: r) = if isLet d = true then lE n r + 1 else 0 := rfl
    by_cases q : isLet d = true
    · rw [e, if_pos q, List.take_succ_cons] at h
      rcases List.mem_cons.mp h with rfl | h
      · unfold isLet at q
        simp only [Bool.and_eq_true, decide_eq_true_eq] at q
        omega
      · exact let_mem n r c h
    · rw [e, if_neg q] at h
      cases h
theorem fig_lt {c : Nat} (h : isFig c = true) : c < 200 := by
  unfold isFig at h
  simp only [Bool.and_eq_true, decide_eq_true_eq] at h
  omega
theorem pos_mem (S : List Nat) : ∀ c ∈ S.take (pE S), c < 200 := by
  intro c h
  unfold pE at h
  cases e1 : sgM isFst S with
  | false =>
    rw [e1, if_neg Bool.false_ne_true] at h
    cases h
  | true =>
    rw [e1, if_pos rfl] at h
    cases S with
    | nil => cases e1
    | cons a r =>
      have ha := fig_lt (fst_fig (show isFst a = true from e1))
      cases e2 : sgM isFig ((a :: r).drop 1) with
      | false =>
        rw [e2, if_neg Bool.false_ne_true] at h
        have : c = a := by simpa using h
        rw [this]; exact ha
      | true =>
        rw [e2, if_pos rfl] at h
        cases r with
        | nil => cases e2
        | cons b r =>
          have hb := fig_lt (show isFig b = true from e2)
          have : c = a ∨ c = b := by simpa using h
          rcases this with rfl | rfl
          · exact ha
          · exact hb
theorem wr_mem (S : List Nat) : ∀ c ∈ S.take (wE S), c < 200 := by
  intro c h
  unfold wE at h
  split at h
  · cases h
  · rw [List.take_add] at h
    rcases List.mem_append.mp h with h | h
    · exact let_mem 4 S c h
    · exact pos_mem _ c h
theorem ok_small {l : List Nat} (h : ∀ c ∈ l, c < 200) : PyData.strOk (sO l) = true := by
  unfold PyData.strOk sO
  rw [List.all_toArray, List.all_eq_true]
  intro n hn
  have := h n hn
  exact decide_eq_true (by omega)
theorem lit_ok {x : String} : PyData.strOk (Str.ofString x) = true := by
  rw [Str.ofString_eq_toList]
  unfold PyData.strOk
  rw [List.all_toArray, List.all_eq_true]
  intro n hn
  obtain ⟨ch, _, rfl⟩ := List.mem_map.mp hn
  have h : ch.toNat < 0xd800 ∨ (0xdfff < ch.toNat ∧ ch.toNat < 0x110000) := ch.valid
  exact decide_eq_true (by omega)
theorem hdM_ok {S : List Nat} {h : List PyData} {n : Nat} (e : hdM S = some (h, n)) : HdOk h ∧ 1 ≤ n ∧ n ≤ 9 := by
  have wl := fun S => wE_le S
  have nl := nE_le S
  unfold hdM at e
  split at e
  · unfold brM at e
    split at e
    · cases e; exact ⟨.inl ⟨_, rfl, lit_ok⟩, by decide, by decide⟩
    · split at e
      · cases e; exact ⟨.inl ⟨_, rfl, lit_ok⟩, by decide, by decide⟩
      · split at e
        · cases e
          have := wl (S.drop 1)
          exact ⟨.inr (.inl ⟨_, _, rfl, lit_ok, ok_small (wr_mem _), by rw [sO_len]; exact take_len_le (wE_le _)⟩), by omega, by omega⟩
        · cases e; exact ⟨.inl ⟨_, rfl, lit_ok⟩, by decide, by decide⟩
  · split at e
    · cases e; exact ⟨.inl ⟨_, rfl, lit_ok⟩, by decide, by decide⟩
    · split at e
      · cases e
        have := wl S
        exact ⟨.inr (.inl ⟨_, _, rfl, lit_ok, ok_small (wr_mem _), by rw [sO_len]; exact take_len_le (wE_le _)⟩), by omega, by omega⟩
      · split at e
        · cases e
          exact ⟨.inr (.inr ⟨_, _, rfl, lit_ok⟩), by omega, by omega⟩
        · cases e
theorem HdOk.shaped {h : List PyData} (k : HdOk h) : SeqAt.shaped (.tuple h) = true := by
  rcases k with ⟨x, rfl, hx⟩ | ⟨x, y, rfl, hx, hy, _⟩ | ⟨x, i, rfl, hx⟩
  · simp [SeqAt.shaped, PyData.canLay0, PyData.canLayAll0, hx, PyData.depth, PyData.depthAll]
  · simp [SeqAt.shaped, PyData.canLay0, PyData.canLayAll0, hx, hy, PyData.depth, PyData.depthAll]
  · simp [SeqAt.shaped, PyData.canLay0, PyData.canLayAll0, hx, PyData.depth, PyData.depthAll]
theorem HdOk.dict {h : List PyData} (k : HdOk h) : PyData.hasDict (.tuple h) = false := by
  rcases k with ⟨x, rfl, _⟩ | ⟨x, y, rfl, _⟩ | ⟨x, i, rfl, _⟩ <;> rfl
theorem HdOk.blk {h : List PyData} (k : HdOk h) : PyData.eqv (.tuple h) (.tuple [.str "block"]) = blkH h := by
  rcases k with ⟨x, rfl, _⟩ | ⟨x, y, rfl, _⟩ | ⟨x, i, rfl, _⟩
  · simp [PyData.eqv, PyData.eqvAll, blkH]
  · simp [PyData.eqv, PyData.eqvAll, blkH]
  · simp [PyData.eqv, PyData.eqvAll, blkH]
theorem HdOk.kind {h : List PyData} (k : HdOk h) : ∃ x r, h = .str x :: r ∧ holdH h = holdsD (.str x) := by
  rcases k with ⟨x, rfl, _⟩ | ⟨x, y, rfl, _⟩ | ⟨x, i, rfl, _⟩ <;> exact ⟨_, _, rfl, rfl⟩
/-- what holds of a scan at each moment -/
structure ScOk (S : Sc) : Prop where
  wf : Wf S
  hd : ∀ h ∈ S.heads, HdOk h
  lc : S.counts.length = S.around.length + 1
  la : S.around.length ≤ S.heads.length
  nz : ∀ c ∈ S.counts.dropLast, c ≠ 0
  hp : S.heads.length ≤ S.pos
  pl : ∀ l ∈ S.paths, l.length ≤ S.heads.length
theorem ScOk.hol {S : Sc} (k : ScOk S) : S.holder.length ≤ S.heads.length := by
  unfold Sc.holder
  cases e : S.around.getLast? with
  | none => exact Nat.zero_le _
  | some i =>
    have hi := k.wf.ar i (List.mem_of_getLast? e)
    have hl := k.wf.lp
    show (S.paths.getD i []).length ≤ _
    rw [List.getD_eq_getElem?_getD, List.getElem?_eq_getElem (by omega)]
    exact k.pl _ (List.getElem_mem _)
theorem ScOk.last {S : Sc} (k : ScOk S) : (S.counts.map natV).getLast? = some (natV S.count) := by
  rw [List.getLast?_map, List.getLast?_eq_some_getLast k.wf.ne]
  show some (natV _) = some (natV ((S.counts.getLast?).getD 0))
  rw [List.getLast?_eq_some_getLast k.wf.ne]
  rfl
theorem getLast_natV {l : List Nat} {i : Nat} (h : l.getLast? = some i) : (l.map natV).getLast? = some (natV i) := by rw [List.getLast?_map, h]; rfl
def spIsn (K : PySem.W.Frag) (C : Addr) : Sp := fun vs H Q _ => ∃ a z S, vs = [.ref a.p] ∧ ScAt K C H a z S ∧ ScOk S ∧ (S.around = [] → S.count ≠ 0) ∧ S.pos ≤ 3000 ∧ ∀ H', Same H H' → Q (.bl S.newB) H'
def spClo (K : PySem.W.Frag) (C : Addr) : Sp := fun vs H Q _ => ∃ a z S, vs = [.ref a.p] ∧ ScAt K C H a z S ∧ ScOk S ∧ S.around ≠ [] ∧ ∀ H', ScAt K C H' a z S.close → hidS a.L H' = hidS a.L H → Q .non H'
section
variable {P : Program} {w : World} {K : PySem.W.Frag} {mg : Str → Option Value} {base : Heap}
theorem dec_nat0 {n : Nat} : decide (natV n = V.int 0) = (n == 0) := by
  by_cases h : n = 0
  · subst h; rfl
  · have q : (n == 0) = false := by simpa using h
    rw [q, decide_eq_false]
    intro z
    injection z with z
    omega
theorem sc_isn : FnScope ["self"] ["self"] (defScope (inClass (top 20) 2)) := ⟨rfl, rfl, rfl, by decide +kernel, rfl, by decide +kernel, by decide +kernel⟩
theorem ok_isn {C f : Addr} {fd : FuncData} (F : Fun K "_is_in_new_block" "Scan._is_in_new_block" (inClass (top 20) 2) f fd) (W : ScC K mg C) : FnOk P w K mg base CX0 1 f fd ["self"] (spIsn K C) := by
  refine F.ok sc_isn (fun vs H Q E h => ?_) (fun cdv A outer s H vs Q E hr h => ?_)
  · obtain ⟨a, z, S, rfl, _⟩ := h
    rfl
  · obtain ⟨a, z, S, rfl, At, Ok, tp, hp, k⟩ := h
    obtain ⟨dx, hob⟩ := At.ob
    have hl := Ok.hp
    have hla := Ok.la
    have hlc := Ok.lc
    have lenA : (S.around.map natV).length < 2 ^ 62 := by rw [List.length_map]; omega
    have lenC : (S.counts.map natV).length < 2 ^ 62 := by rw [List.length_map]; omega
    refine ⟨_, (pss_one (ps_ret (pe_and (pe_cmpR op_eq (pe_ix ix_list (pe_fld (pv 0) rfl) (pe_un un_neg pe_int) (fun _ _ => rfl)) pe_int (nomark _)) (pe_one (pe_cmpR (op_eqD hr.units) (pe_ix ix_list (pe_fld (pv 0) rfl) (pe_ix ix_list (pe_fld (pv 0) rfl) (pe_un un_neg pe_int) (fun _ _ => rfl)) (fun _ _ => rfl)) (pe_tup (pa_cons pe_str pa_nil)) (nomark _)))))), ?_⟩
    refine ⟨_, rfl, a.p, C, dx, _, _, rfl, hob, W.cl, W.n6, look6 _ _ _, _, rfl, a.a6, _, _, _, rfl, rfl, SqL.of At.l6, atI_end Ok.last lenC, rfl, _, rfl, ?_⟩
    rw [dec_nat0]
    cases e : S.count == 0 with
    | false =>
      refine iteF ?_
      have q : S.newB = false := by unfold Sc.newB; rw [e]; rfl
      rw [← q]
      exact k H (Same.refl H)
    | true =>
      have ne : S.around ≠ [] := fun z => tp z (eq_of_beq e)
      obtain ⟨i, hi⟩ : ∃ i, S.around.getLast? = some i := ⟨_, List.getLast?_eq_some_getLast ne⟩
      have hi2 := Ok.wf.ar i (List.mem_of_getLast? hi)
      obtain ⟨vs, h2, d2⟩ := At.l2
      have hg : S.heads[i]? = some S.heads[i] := List.getElem?_eq_getElem hi2
      obtain ⟨u, hu, du⟩ := d2.get (i := i) (d := .tuple S.heads[i]) (by rw [List.getElem?_map, hg]; rfl)
      have ho := Ok.hd _ (List.getElem_mem hi2)
      refine iteT ⟨_, rfl, a.p, C, dx, _, _, rfl, hob, W.cl, W.n2, look2 _ _ _, _, rfl, a.p, C, dx, _, _, rfl, hob, W.cl, W.n5, look5 _ _ _, _, rfl, a.a5, _, _, _, rfl, rfl, SqL.of At.l5, atI_end (getLast_natV hi) lenA, a.a2, vs, _, u, rfl, rfl, SqL.of h2, atI_nat hu, sizeL (by decide) (m := 1), fun q nq => ?_⟩
      have s1 := K0.same_upd (o := .tup [.str "block"]) nq
      refine ⟨.tuple S.heads[i], .tuple [.str "block"], DQ.dp _ _ ho.dict (du.to fun b u e => s1 _ _ ((hidS_in _ _) b u e)), .tup (.inl (.inl upd_same)) (.cons (.str _) .nil), ho.shaped, by decide +kernel, ?_⟩
      rw [ho.blk]
      have q : S.newB = blkH S.heads[i] := by
        unfold Sc.newB
        rw [e, hi]
        show (true && blkH (S.heads.getD i [])) = _
        rw [List.getD_eq_getElem?_getD, hg]
        rfl
      rw [← q]
      exact k _ s1
theorem sc_clo : FnScope ["self"] ["self"] (defScope (inClass (top 20) 4)) := ⟨rfl, rfl, rfl, by decide +kernel, rfl, by decide +kernel, by decide +kernel⟩
theorem ok_clo {C f : Addr} {fd : FuncData} (F : Fun K "_close" "Scan._close" (inClass (top 20) 4) f fd) (W : ScC K mg C) : FnOk P w K mg base CX0 1 f fd ["self"] (spClo K C) := by
  refine F.ok sc_clo (fun vs H Q E h => ?_) (fun cdv A outer s H vs Q E hr h => ?_)
  · obtain ⟨a, z, S, rfl, _⟩ := h
    rfl
  · obtain ⟨a, z, S, rfl, At, Ok, ne, k⟩ := h
    obtain ⟨i, hi⟩ : ∃ i, S.around.getLast? = some i := ⟨_, List.getLast?_eq_some_getLast ne⟩
    have hi2 := Ok.wf.ar i (List.mem_of_getLast? hi)
    have hL : ∀ {x : Addr} {o : HO} {J : Hp}, x ∈ a.L → hidS a.L (upd J x o) = hidS a.L J := fun h => hidS_upd h
    obtain ⟨dx, hob, At1⟩ := At.pos (S.pos + 1)
    refine ⟨_, (pss_cons (ps_fldaug (pv 0) pe_int in_add)
      (pss_cons (ps_asg (pe_fld (pv 0) rfl) (pg_sub (pe_fld (pv 0) rfl) (pe_bm0 PySem.F.plainAttrs_list PySem.F.slot_list_pop PySem.F.type_list_pop mt_pop (pe_fld (pv 0) rfl)) set_list))
      (pss_one (ps_expr (pe_bm0 PySem.F.plainAttrs_list PySem.F.slot_list_pop PySem.F.type_list_pop mt_pop (pe_fld (pv 0) rfl)))))), ?_⟩
    refine ⟨_, rfl, a.p, C, dx, _, _, rfl, hob, W.cl, W.nA, lookA _ _ _, _, _, rfl, rfl, dx, _, hob, (by show 8 < 1000; decide), ?_⟩
    have e1 : V.int ((S.pos : Int) + 1) = natV (S.pos + 1) := by unfold natV; congr 1
    rw [e1, putF_at]
    have f1 : hidS a.L (upd H a.p (.ins C dx (scF a z (S.pos + 1)))) = hidS a.L H := hL (by simp [Ad.L])
    generalize upd H a.p (.ins C dx (scF a z (S.pos + 1))) = H1 at At1 f1 ⊢
    obtain ⟨dx1, hob1⟩ := At1.ob
    -- self.behinds[self._around.pop()] = self._at
    have hlast : (S.around.map natV)[(S.around.map natV).length - 1]? = some (natV i) := by
      rw [← List.getLast?_eq_getElem?]
      exact getLast_natV hi
    have At2 := At1.arnd S.around.dropLast
    rw [List.map_dropLast] at At2
    refine ⟨_, rfl, a.p, C, dx1, _, _, rfl, hob1, W.cl, W.nA, lookA _ _ _, _, rfl, a.p, C, dx1, _, _, rfl, hob1, W.cl, W.n4, look4 _ _ _, _, rfl, a.p, C, dx1, _, _, rfl, hob1, W.cl, W.n5, look5 _ _ _, .inl ⟨rfl, _, SqL.of At1.l5⟩, a.a5, _, _, rfl, rfl, At1.l5, hlast, ?_⟩
    have f2 : hidS a.L (upd H1 a.a5 (.lst (S.around.map natV).dropLast)) = hidS a.L H1 := hL (by simp [Ad.L])
    generalize upd H1 a.a5 (.lst (S.around.map natV).dropLast) = H2 at At2 f2 ⊢
    have At3 := At2.behind (S.behinds.set i ((S.pos + 1 : Nat) : Int))
    have f3 : hidS a.L (upd H2 a.a4 (.lst ((S.behinds.set i ((S.pos + 1 : Nat) : Int)).map V.int))) = hidS a.L H2 := hL (by simp [Ad.L])
    rw [show (S.behinds.set i ((S.pos + 1 : Nat) : Int)).map V.int = (S.behinds.map V.int).set i (natV (S.pos + 1)) from by rw [List.map_set]; rfl] at At3 f3
    refine ⟨a.a4, S.behinds.map V.int, _, i, rfl, rfl, At2.l4, ?_, ?_⟩
    · unfold ixN
      rw [if_pos (by omega), if_pos (by rw [List.length_map, Ok.wf.lb]; omega), Int.toNat_natCast]
    dsimp only
    generalize upd H2 a.a4 (.lst ((S.behinds.map V.int).set i (natV (S.pos + 1)))) = H3 at At3 f3 ⊢
    obtain ⟨dx3, hob3⟩ := At3.ob
    have At4 := At3.cnt S.counts.dropLast
    have hlast2 : (S.counts.map natV)[(S.counts.map natV).length - 1]? = some (natV S.count) := by
      rw [← List.getLast?_eq_getElem?]
      exact Ok.last
    refine ⟨_, rfl, a.p, C, dx3, _, _, rfl, hob3, W.cl, W.n6, look6 _ _ _, .inl ⟨rfl, _, SqL.of At3.l6⟩, a.a6, _, _, rfl, rfl, At3.l6, hlast2, ?_⟩
    rw [List.map_dropLast] at At4
    refine k _ ?_ ((hL (by simp [Ad.L])).trans (f3.trans (f2.trans f1)))
    have e4 : S.close = { S with pos := S.pos + 1, behinds := S.behinds.set i ((S.pos + 1 : Nat) : Int), around := S.around.dropLast, counts := S.counts.dropLast } := by
      unfold Sc.close
      rw [hi]
      rfl
    rw [e4]
    exact At4
end
end K1
set_option maxHeartbeats 4000000
/-! a scan begins an item -/
namespace K1
open PySem L2
theorem ScOk.add {S : Sc} {T : List Nat} {h : List PyData} {n : Nat} (k : ScOk S) (e : hdM (T.drop S.pos) = some (h, n)) : ScOk (S.add h n) := by
  obtain ⟨ho, n1, n9⟩ := hdM_ok e
  have hla := k.la
  have hlc := k.lc
  have hhp := k.hp
  have dl : S.counts.dropLast.length = S.around.length := by rw [List.length_dropLast]; omega
  have npl : ∀ l ∈ (S.add h n).paths, l.length ≤ (S.add h n).heads.length := by
    intro l hl
    show l.length ≤ (S.heads ++ [h]).length
    rw [List.length_append]
    rcases List.mem_append.mp (show l ∈ S.paths ++ [S.holder ++ [(S.count : Int)]] from hl) with q | q
    · exact Nat.le_succ_of_le (k.pl l q)
    · rw [List.mem_singleton.mp q, List.length_append]
      exact Nat.succ_le_succ k.hol
  cases c : holdH h with
  | true =>
    obtain ⟨W1, h2, h3, h4, h5⟩ := add_open (n := n) k.wf c
    have ec : (S.add h n).counts = (S.counts.dropLast ++ [S.count + 1]) ++ [0] := by unfold Sc.add; rw [c]; rfl
    refine ⟨W1, fun x hx => ?_, ?_, ?_, ?_, ?_, npl⟩
    · rw [h5] at hx
      rcases List.mem_append.mp hx with q | q
      · exact k.hd x q
      · rw [List.mem_singleton.mp q]; exact ho
    · rw [ec, h4]
      simp only [List.length_append, List.length_cons, List.length_nil, dl]
    · rw [h4, h5]
      simp only [List.length_append, List.length_cons, List.length_nil]
      omega
    · rw [ec, List.dropLast_concat]
      intro x hx
      rcases List.mem_append.mp hx with q | q
      · exact k.nz x q
      · rw [List.mem_singleton.mp q]; exact Nat.succ_ne_zero _
    · rw [h5]
      show (S.heads ++ [h]).length ≤ S.pos + n
      simp only [List.length_append, List.length_cons, List.length_nil]
      omega
  | false =>
    have ea : S.add h n = S.more [(S.holder ++ [(S.count : Int)], (S.pos : Int), ((S.pos + n : Nat) : Int))] [h] (S.pos + n) 1 := add_leaf c
    rw [ea]
    rw [ea] at npl
    refine ⟨more_wf k.wf rfl, fun x hx => ?_, ?_, ?_, ?_, ?_, npl⟩
    · rcases List.mem_append.mp (show x ∈ S.heads ++ [h] from hx) with q | q
      · exact k.hd x q
      · rw [List.mem_singleton.mp q]; exact ho
    · show (S.counts.dropLast ++ [S.count + 1]).length = S.around.length + 1
      rw [List.length_append, dl]; rfl
    · show S.around.length ≤ (S.heads ++ [h]).length
      rw [List.length_append]; omega
    · show ∀ c ∈ (S.counts.dropLast ++ [S.count + 1]).dropLast, c ≠ 0
      rw [List.dropLast_concat]
      exact k.nz
    · show (S.heads ++ [h]).length ≤ S.pos + n
      rw [List.length_append]
      show S.heads.length + 1 ≤ S.pos + n
      omega
theorem ScOk.close {S : Sc} (k : ScOk S) (ne : S.around ≠ []) : ScOk S.close ∧ S.close.count ≠ 0 := by
  have hla := k.la
  have hlc := k.lc
  have hhp := k.hp
  have l1 : 1 ≤ S.around.length := List.length_pos_iff.mpr ne
  have dne : S.counts.dropLast ≠ [] := fun e => by
    have z := congrArg List.length e
    rw [List.length_dropLast] at z
    simp at z
    omega
  refine ⟨⟨⟨k.wf.lp, k.wf.lf, ?_, dne, fun i hi => k.wf.ar i (List.dropLast_subset _ hi)⟩, k.hd, ?_, ?_, fun c hc => k.nz c (List.dropLast_subset _ hc), ?_, k.pl⟩, ?_⟩
  · show (S.behinds.set _ _).length = S.heads.length
    rw [List.length_set]; exact k.wf.lb
  · show S.counts.dropLast.length = S.around.dropLast.length + 1
    rw [List.length_dropLast, List.length_dropLast]; omega
  · show S.around.dropLast.length ≤ S.heads.length
    rw [List.length_dropLast]; omega
  · show S.heads.length ≤ S.pos + 1
    omega
  · show (S.counts.dropLast.getLast?).getD 0 ≠ 0
    rw [List.getLast?_eq_some_getLast dne]
    exact k.nz _ (List.getLast_mem dne)
theorem add_top {S : Sc} {h : List PyData} {n : Nat} (ha : (S.add h n).around = []) : (S.add h n).count ≠ 0 := by
  cases c : holdH h with
  | true =>
    have e : (S.add h n).around = S.around ++ [S.heads.length] := by unfold Sc.add; rw [c]; rfl
    rw [e] at ha
    simp at ha
  | false =>
    rw [add_leaf c, more_count]
    omega
theorem set_last {α : Type} {x : α} : ∀ {l : List α}, l ≠ [] → l.set (l.length - 1) x = l.dropLast ++ [x] := by
  intro l h
  have e := List.dropLast_concat_getLast h
  have : l.length - 1 = l.dropLast.length := by rw [List.length_dropLast]
  rw [this]
  generalize l.getLast h = y at e
  generalize l.dropLast = m at e ⊢
  subst e
  rw [List.set_append_right _ _ (Nat.le_refl _), Nat.sub_self]
  rfl
/-- the path of the holder of what begins now -/
def tHolder (K : PySem.W.Frag) (C : Addr) : TE := fun σ H Q => ∃ (a : Ad) (z : Str) (S : Sc), σ[0]? = some (some (.ref a.p)) ∧ ScAt K C H a z S ∧ ScOk S ∧ S.pos ≤ 3000 ∧ ∀ H1 v, Same H H1 → DQ K (hidS a.L H1) v (pathD S.holder) → Q v H1
def begPost (K : PySem.W.Frag) (C B : Addr) (H : Hp) (a : Ad) (z : Str) (Q : VK) (E : XK) : Nat ⊕ Sc → Prop
  | .inl e => ∀ H' d, Same (hidS a.L H) H' → H' d = some (.xd [("told", natV e)]) → E (.ref B) (some d) H'
  | .inr S' => ∀ H', ScAt K C H' a z S' → Same (hidS a.L H) (hidS a.L H') → Q .non H'
def spBeg (K : PySem.W.Frag) (C B : Addr) : Sp := fun vs H Q E => ∃ (a : Ad) (z : Str) (S : Sc), vs = [.ref a.p] ∧ ScAt K C H a z S ∧ ScOk S ∧ S.pos ≤ 2500 ∧ z.length ≤ 2000 ∧ begPost K C B H a z Q E (beginS z.cps.toList S)
section
variable {P : Program} {w : World} {K : PySem.W.Frag} {mg : Str → Option Value} {base : Heap}
theorem sc_beg : FnScope ["self", "head", "behind", "holder"] ["self"] (defScope (inClass (top 20) 3)) := ⟨rfl, rfl, rfl, by decide +kernel, rfl, by decide +kernel, by decide +kernel⟩
theorem ok_beg {C B fI f : Addr} {fd : FuncData} (F : Fun K "_begin" "Scan._begin" (inClass (top 20) 3) f fd) (T : All K mg) (W : ScC K mg C) (R : Er K mg "BadText" B fI) : FnOk P w K mg base (L2.CX P w) 6 f fd ["self"] (spBeg K C B) := by
  refine F.okX sc_beg (fun vs H Q E h => ?_) (fun cdv A outer s H vs Q E hr h => ?_)
  · obtain ⟨a, z, S, rfl, _⟩ := h
    rfl
  · obtain ⟨a, z, S, rfl, At, Ok, hp, hz, k⟩ := h
    obtain ⟨dx, hob⟩ := At.ob
    have hll := Ok.hp
    have hla := Ok.la
    have hlc := Ok.lc
    refine ⟨_, (pss_cons (ps_asg (pe_clX (cl_head T R) hr (takes_of rfl rfl rfl rfl) (by decide) (pa_cons (pe_fld (pv 0) rfl) (pa_cons (pe_fld (pv 0) rfl) pa_nil))) (pg_tup (t := (gCons (gName 1) (gCons (gName 2) gNil))) rfl (pgs_cons (pg_name (i := 1) sc_beg.nd rfl (Or.inl rfl)) (pgs_cons (pg_name (i := 2) sc_beg.nd rfl (Or.inl rfl)) pgs_nil))))
      (pss_cons (ps_set (i := 3) sc_beg.nd rfl (Or.inl rfl) (K0.pe_imp (t' := tHolder K C) (pe_ifExp (pt_truth (pe_fld (pv 0) rfl) (by intro _; rfl)) (pe_ix ix_list (pe_fld (pv 0) rfl) (pe_ix ix_list (pe_fld (pv 0) rfl) (pe_un un_neg pe_int) (fun _ _ => rfl)) (fun _ _ => rfl)) (pe_tup pa_nil)) (fun σ H Q hh => ?_)))
      (pss_cons (ps_expr (pe_bm PySem.F.plainAttrs_list PySem.F.slot_list_append PySem.F.type_list_append mt_append (pe_fld (pv 0) rfl) (pa_cons (pe_tup (StX.pa_star (pv 3) (pa_cons (pe_ix ix_list (pe_fld (pv 0) rfl) (pe_un un_neg pe_int) (fun _ _ => rfl)) pa_nil))) pa_nil)))
      (pss_cons (ps_expr (pe_bm PySem.F.plainAttrs_list PySem.F.slot_list_append PySem.F.type_list_append mt_append (pe_fld (pv 0) rfl) (pa_cons (pv 1) pa_nil)))
      (pss_cons (ps_expr (pe_bm PySem.F.plainAttrs_list PySem.F.slot_list_append PySem.F.type_list_append mt_append (pe_fld (pv 0) rfl) (pa_cons (pe_fld (pv 0) rfl) pa_nil)))
      (pss_cons (ps_expr (pe_bm PySem.F.plainAttrs_list PySem.F.slot_list_append PySem.F.type_list_append mt_append (pe_fld (pv 0) rfl) (pa_cons (pv 2) pa_nil)))
      (pss_cons (ps_augS (pe_fld (pv 0) rfl) (pe_un un_neg pe_int) pget_list pe_int ip_add set_list)
      (pss_cons (ps_if (pt_val (pe_cl (cl_holds T) hr (by decide) (pa_cons (pe_ix ix_tup (pv 1) pe_int (fun _ _ => rfl)) pa_nil))) (pss_cons (ps_expr (pe_bm PySem.F.plainAttrs_list PySem.F.slot_list_append PySem.F.type_list_append mt_append (pe_fld (pv 0) rfl) (pa_cons (pe_op op_sub (pe_callB call_len_seq (by rfl) T.bi.len PySem.boot_len (pa_cons (pe_fld (pv 0) rfl) pa_nil)) pe_int) pa_nil)))
      (pss_one (ps_expr (pe_bm PySem.F.plainAttrs_list PySem.F.slot_list_append PySem.F.type_list_append mt_append (pe_fld (pv 0) rfl) (pa_cons pe_int pa_nil))))) pss_nil)
      (pss_one (ps_fld (pv 0) (pv 2) rfl)))))))))), ?_⟩
    · -- the holder
      obtain ⟨a, z, S, h0, At, Ok, hp, q⟩ := hh
      obtain ⟨dx, hob⟩ := At.ob
      have hla := Ok.la
      have hll := Ok.hp
      refine ⟨_, h0, a.p, C, dx, _, _, rfl, hob, W.cl, W.n5, look5 _ _ _, _, .inl ⟨_, SqL.of At.l5, rfl⟩, ?_⟩
      cases e : S.around.getLast? with
      | none =>
        have e2 : S.around = [] := List.getLast?_eq_none_iff.mp e
        have e3 : S.holder = [] := by unfold Sc.holder; rw [e]
        rw [e2]
        refine iteF ⟨Nat.zero_le _, fun t nt => q _ _ (K0.same_upd nt) ?_⟩
        rw [e3]
        exact .tup (.inl (.inl (hidS_of (fun z => At.there _ z nt) upd_same))) .nil
      | some i =>
        have ne : S.around ≠ [] := fun z => by rw [z] at e; cases e
        have hi2 := Ok.wf.ar i (List.mem_of_getLast? e)
        obtain ⟨vs, h1, d1⟩ := At.l1
        have hlp := Ok.wf.lp
        have hg : S.paths[i]? = some S.paths[i] := List.getElem?_eq_getElem (by omega)
        obtain ⟨u, hu, du⟩ := d1.get (i := i) (d := pathD S.paths[i]) (by rw [List.getElem?_map, hg]; rfl)
        have e3 : S.holder = S.paths[i] := by
          unfold Sc.holder
          rw [e]
          show S.paths.getD i [] = _
          rw [List.getD_eq_getElem?_getD, hg]
          rfl
        have tr : (!(S.around.map natV).isEmpty) = true := by
          cases q : S.around with
          | nil => exact absurd q ne
          | cons _ _ => rfl
        rw [tr]
        refine iteT ⟨_, h0, a.p, C, dx, _, _, rfl, hob, W.cl, W.n1, look1 _ _ _, _, h0, a.p, C, dx, _, _, rfl, hob, W.cl, W.n5, look5 _ _ _, _, rfl, a.a5, _, _, _, rfl, rfl, SqL.of At.l5, atI_end (getLast_natV e) (by rw [List.length_map]; omega), a.a1, vs, _, u, rfl, rfl, SqL.of h1, atI_nat hu, q _ _ (Same.refl _) ?_⟩
        rw [e3]
        exact du
    · refine ⟨_, rfl, a.p, C, dx, _, _, rfl, hob, W.cl, W.nT, lookT _ _ _, _, rfl, a.p, C, dx, _, _, rfl, hob, W.cl, W.nA, lookA _ _ _, z, S.pos, rfl, hz, ?_⟩
      cases e : hdM (z.cps.toList.drop S.pos) with
      | none =>
        have eb : beginS z.cps.toList S = .inl S.pos := by unfold beginS; rw [e]
        rw [eb] at k
        exact fun H' d s hd => k H' d (fun b u q => s _ _ (hidS_in _ _ b u q)) hd
      | some hn =>
        obtain ⟨h, n⟩ := hn
        have eb : beginS z.cps.toList S = .inr (S.add h n) := by unfold beginS; rw [e]
        rw [eb] at k
        obtain ⟨ho, n1, n9⟩ := hdM_ok e
        intro H1 t u S1 h1 du
        have At1 := At.same S1
        have du1 : DQ K (hidS a.L H1) u (.tuple h) := du.to (hidS_nw At.there)
        have fH : Same (hidS a.L H) (hidS a.L H1) := hidS_more S1
        refine ⟨t, _, rfl, .inl (.inl h1), rfl, _, _, rfl, _, _, rfl, rfl, a, z, S, rfl, At1, Ok, by omega, fun H2 v S2 dv => ?_⟩
        have At2 := At1.same S2
        have du2 := du1.to (hidS_more S2)
        have f2 := fH.trans (hidS_more S2)
        obtain ⟨dx2, hob2⟩ := At2.ob
        have lenC : (S.counts.map natV).length < 2 ^ 62 := by rw [List.length_map]; omega
        obtain ⟨hv, xs, rfl, hT, hd⟩ : ∃ hv xs, v = .ref hv ∧ SqT K (hidS a.L H2) hv xs ∧ DQs K (hidS a.L H2) xs (S.holder.map PyData.int) := by
          cases dv with
          | tup h1 h2 => exact ⟨_, _, rfl, h1, h2⟩
        have hxl : xs.length ≤ 3000 := by
          rw [hd.len, List.length_map]
          have := Ok.hol
          omega
        obtain ⟨vs1, g1, _⟩ := At2.l1
        refine ⟨_, rfl, a.p, C, dx2, _, _, rfl, hob2, W.cl, W.n1, look1 _ _ _, .inl ⟨rfl, _, SqL.of g1⟩, _, rfl, hv, xs, rfl, .inl (K0.seqT_same (hidS_in _ _) hT), _, rfl, a.p, C, dx2, _, _, rfl, hob2, W.cl, W.n6, look6 _ _ _, _, rfl, a.a6, _, _, _, rfl, rfl, SqL.of At2.l6, atI_end Ok.last lenC, ?_, fun q nq => ?_⟩
        · rw [List.length_append]
          exact sizeL (by show xs.length + 1 ≤ 4000; omega)
        have S3 := K0.same_upd (o := .tup (xs ++ [natV S.count])) nq
        have At3 := At2.same S3
        have dq : DQ K (hidS a.L (upd H2 q (.tup (xs ++ [natV S.count])))) (.ref q) (pathD (S.holder ++ [(S.count : Int)])) := by
          refine .tup (.inl (.inl (hidS_of (fun z => At2.there _ z nq) upd_same))) ?_
          rw [List.map_append]
          exact (hd.to (hidS_more S3)).app (.cons (.int _) .nil)
        have du3 := du2.to (hidS_more S3)
        have f3 := f2.trans (hidS_more S3)
        generalize upd H2 q (.tup (xs ++ [natV S.count])) = H3 at At3 dq du3 f3 ⊢
        obtain ⟨vs1, g1, l1, At4⟩ := At3.path dq
        have hL : ∀ {x : Addr} {o : HO} {J : Hp}, x ∈ a.L → hidS a.L (upd J x o) = hidS a.L J := fun h => hidS_upd h
        have hlp := Ok.wf.lp
        have hlf := Ok.wf.lf
        have hlb := Ok.wf.lb
        have ha1 : hidS a.L (upd H3 a.a1 (.lst (vs1 ++ [.ref q]))) = hidS a.L H3 := hL (by simp [Ad.L])
        refine ⟨a.a1, vs1, _, rfl, rfl, g1, by rw [sizeLine_eq]; omega, ?_⟩
        rw [← ha1] at du3 f3
        generalize upd H3 a.a1 (.lst (vs1 ++ [.ref q])) = H4 at At4 du3 f3 ⊢
        -- the head
        obtain ⟨vs2, g2, l2, At5⟩ := At4.head du3
        obtain ⟨dx4, hob4⟩ := At4.ob
        have ha2 : hidS a.L (upd H4 a.a2 (.lst (vs2 ++ [u]))) = hidS a.L H4 := hL (by simp [Ad.L])
        refine ⟨_, rfl, a.p, C, dx4, _, _, rfl, hob4, W.cl, W.n2, look2 _ _ _, .inl ⟨rfl, _, SqL.of g2⟩, _, rfl, a.a2, vs2, _, rfl, rfl, g2, by rw [l2]; show S.heads.length < sizeLine; rw [sizeLine_eq]; omega, ?_⟩
        rw [← ha2] at du3 f3
        generalize upd H4 a.a2 (.lst (vs2 ++ [u])) = H5 at At5 du3 f3 ⊢
        -- the first sign
        have At6 := At5.first (S.firsts ++ [(S.pos : Int)])
        obtain ⟨dx5, hob5⟩ := At5.ob
        have ha3 : hidS a.L (upd H5 a.a3 (.lst ((S.firsts ++ [(S.pos : Int)]).map V.int))) = hidS a.L H5 := hL (by simp [Ad.L])
        rw [List.map_append] at At6 ha3
        refine ⟨_, rfl, a.p, C, dx5, _, _, rfl, hob5, W.cl, W.n3, look3 _ _ _, .inl ⟨rfl, _, SqL.of At5.l3⟩, _, rfl, a.p, C, dx5, _, _, rfl, hob5, W.cl, W.nA, lookA _ _ _, a.a3, _, _, rfl, rfl, At5.l3, by show (S.firsts.map V.int).length < sizeLine; rw [List.length_map, sizeLine_eq]; omega, ?_⟩
        rw [← ha3] at du3 f3
        show _
        dsimp only
        have z3 : (S.firsts.map V.int ++ [natV S.pos]) = S.firsts.map V.int ++ List.map V.int [(S.pos : Int)] := rfl
        rw [z3]
        generalize upd H5 a.a3 (.lst (S.firsts.map V.int ++ List.map V.int [(S.pos : Int)])) = H6 at At6 du3 f3 ⊢
        -- the sign behind
        have At7 := At6.behind (S.behinds ++ [((S.pos + n : Nat) : Int)])
        obtain ⟨dx6, hob6⟩ := At6.ob
        have ha4 : hidS a.L (upd H6 a.a4 (.lst ((S.behinds ++ [((S.pos + n : Nat) : Int)]).map V.int))) = hidS a.L H6 := hL (by simp [Ad.L])
        rw [List.map_append] at At7 ha4
        refine ⟨_, rfl, a.p, C, dx6, _, _, rfl, hob6, W.cl, W.n4, look4 _ _ _, .inl ⟨rfl, _, SqL.of At6.l4⟩, _, rfl, a.a4, _, _, rfl, rfl, At6.l4, by show (S.behinds.map V.int).length < sizeLine; rw [List.length_map, sizeLine_eq]; omega, ?_⟩
        rw [← ha4] at du3 f3
        dsimp only
        have z4 : (S.behinds.map V.int ++ [V.int ((S.pos + n : Nat) : Int)]) = S.behinds.map V.int ++ List.map V.int [((S.pos + n : Nat) : Int)] := rfl
        rw [z4]
        generalize upd H6 a.a4 (.lst (S.behinds.map V.int ++ List.map V.int [((S.pos + n : Nat) : Int)])) = H7 at At7 du3 f3 ⊢
        -- the count
        have At8 := At7.cnt (S.counts.dropLast ++ [S.count + 1])
        obtain ⟨dx7, hob7⟩ := At7.ob
        have ha6 : hidS a.L (upd H7 a.a6 (.lst ((S.counts.dropLast ++ [S.count + 1]).map natV))) = hidS a.L H7 := hL (by simp [Ad.L])
        have z5 : (S.counts.map natV).set ((S.counts.map natV).length - 1) (natV (S.count + 1)) = (S.counts.dropLast ++ [S.count + 1]).map natV := by
          rw [set_last (fun z => Ok.wf.ne (List.map_eq_nil_iff.mp z)), List.map_append, List.map_dropLast]
          rfl
        refine ⟨_, rfl, a.p, C, dx7, _, _, rfl, hob7, W.cl, W.n6, look6 _ _ _, _, rfl, a.a6, _, _, _, rfl, rfl, SqL.of At7.l6, by decide, atI_end Ok.last lenC, _, _, rfl, rfl, a.a6, S.counts.map natV, _, (S.counts.map natV).length - 1, rfl, rfl, At7.l6, ?_, ?_⟩
        · unfold ixN
          rw [if_neg (by decide), if_pos (by rw [List.length_map]; omega)]
          congr 1
          rw [List.length_map]
          omega
        dsimp only
        have z6 : V.int ((S.count : Int) + 1) = natV (S.count + 1) := by unfold natV; congr 1
        rw [z6, z5]
        rw [← ha6] at du3 f3
        generalize upd H7 a.a6 (.lst ((S.counts.dropLast ++ [S.count + 1]).map natV)) = H8 at At8 du3 f3 ⊢
        obtain ⟨dx8, hob8⟩ := At8.ob
        -- does it hold others
        obtain ⟨kx, kr, rfl, ek⟩ := ho.kind
        obtain ⟨ua, uxs, u0, rfl, hu1, hu2, hu3⟩ := (du3.to (hidS_in _ _)).item (i := 0) rfl
        cases hu3
        refine ⟨_, rfl, ua, uxs, _, _, rfl, rfl, hu1, hu2, kx, rfl, _, rfl, ?_⟩
        rw [← ek]
        have hpn : V.int ((S.pos + n : Nat) : Int) = natV (S.pos + n) := rfl
        cases eh : holdH (.str kx :: kr) with
        | true =>
          have At9 := At8.arnd (S.around ++ [S.heads.length])
          have ha5 : hidS a.L (upd H8 a.a5 (.lst ((S.around ++ [S.heads.length]).map natV))) = hidS a.L H8 := hL (by simp [Ad.L])
          rw [List.map_append] at At9 ha5
          obtain ⟨vsH, gH, dH⟩ := At8.l2
          have lH : vsH.length = S.heads.length + 1 := by
            have := dH.len
            rw [this]
            show ((S.heads ++ [_]).map PyData.tuple).length = _
            rw [List.length_map, List.length_append]
            rfl
          refine iteT ⟨_, rfl, a.p, C, dx8, _, _, rfl, hob8, W.cl, W.n5, look5 _ _ _, .inl ⟨rfl, _, SqL.of At8.l5⟩, _, rfl, a.p, C, dx8, _, _, rfl, hob8, W.cl, W.n2, look2 _ _ _, a.a2, vsH, rfl, .inl (SqL.of gH), _, _, rfl, rfl, a.a5, _, _, rfl, rfl, At8.l5, by show (S.around.map natV).length < sizeLine; rw [List.length_map, sizeLine_eq]; omega, ?_⟩
          dsimp only
          have z7 : S.around.map natV ++ [V.int ((vsH.length : Int) - 1)] = S.around.map natV ++ List.map natV [S.heads.length] := by
            rw [lH]
            have : ((S.heads.length + 1 : Nat) : Int) - 1 = (S.heads.length : Int) := by omega
            rw [this]
            rfl
          rw [z7]
          rw [← ha5] at f3
          generalize upd H8 a.a5 (.lst (S.around.map natV ++ List.map natV [S.heads.length])) = H9 at At9 f3 ⊢
          have At10 := At9.cnt ((S.counts.dropLast ++ [S.count + 1]) ++ [0])
          obtain ⟨dx9, hob9⟩ := At9.ob
          have hb6 : hidS a.L (upd H9 a.a6 (.lst (((S.counts.dropLast ++ [S.count + 1]) ++ [0]).map natV))) = hidS a.L H9 := hL (by simp [Ad.L])
          rw [List.map_append] at At10 hb6
          refine ⟨_, rfl, a.p, C, dx9, _, _, rfl, hob9, W.cl, W.n6, look6 _ _ _, .inl ⟨rfl, _, SqL.of At9.l6⟩, a.a6, _, _, rfl, rfl, At9.l6, by show ((S.counts.dropLast ++ [S.count + 1]).map natV).length < sizeLine; rw [List.length_map, List.length_append, List.length_dropLast, sizeLine_eq]; show _ + 1 < _; omega, ?_⟩
          dsimp only
          have z8 : (S.counts.dropLast ++ [S.count + 1]).map natV ++ [V.int 0] = (S.counts.dropLast ++ [S.count + 1]).map natV ++ List.map natV [0] := rfl
          rw [z8]
          rw [← hb6] at f3
          generalize upd H9 a.a6 (.lst ((S.counts.dropLast ++ [S.count + 1]).map natV ++ List.map natV [0])) = H10 at At10 f3 ⊢
          obtain ⟨dx10, hob10, At11⟩ := At10.pos (S.pos + n)
          refine ⟨_, rfl, _, rfl, a.p, C, dx10, _, rfl, hob10, W.cl, W.nA, (by show 8 < 1000; decide), ?_⟩
          dsimp only
          rw [hpn, putF_at]
          have hb0 : hidS a.L (upd H10 a.p (.ins C dx10 (scF a z (S.pos + n)))) = hidS a.L H10 := hL (by simp [Ad.L])
          refine k _ ?_ (by rw [hb0]; exact f3)
          unfold Sc.add
          rw [eh]
          exact At11
        | false =>
          obtain ⟨dx10, hob10, At11⟩ := At8.pos (S.pos + n)
          refine iteF ⟨_, rfl, _, rfl, a.p, C, dx10, _, rfl, hob10, W.cl, W.nA, (by show 8 < 1000; decide), ?_⟩
          dsimp only
          rw [hpn, putF_at]
          have hb0 : hidS a.L (upd H8 a.p (.ins C dx10 (scF a z (S.pos + n)))) = hidS a.L H8 := hL (by simp [Ad.L])
          refine k _ ?_ (by rw [hb0]; exact f3)
          unfold Sc.add
          rw [eh]
          exact At11
end
end K1
set_option maxHeartbeats 4000000
/-! a scan runs -/
namespace K1
open PySem L2
theorem seq_of {t1 t2 : TS} {D : Ends} {σ : St} {H : Hp} (R : St → Hp → Prop) (h2 : ∀ σ' H', R σ' H' → t2 D σ' H') (h1 : ∀ (G : St → Hp → Prop), (∀ σ' H', R σ' H' → G σ' H') → t1 { D with nx := G } σ H) : tSeq t1 t2 D σ H := h1 (t2 D) h2
theorem pt_imp {X : Cx} {e : Expr} {t t' : TT} (h : PT X e t) (k : ∀ σ H Q, t' σ H Q → t σ H Q) : PT X e t' := ⟨fun pins s σ H Q I q => h.run pins s σ H Q I (k σ H Q q)⟩
/-- is it a bracket's end, and is there one open -/
def tEnds (K : PySem.W.Frag) (C : Addr) : TT := fun σ H Q => ∃ (a : Ad) (z : Str) (S : Sc) (c : Nat), σ[0]? = some (some (.ref a.p)) ∧ σ[1]? = some (some (.str ⟨#[c]⟩)) ∧ ScAt K C H a z S ∧ Q (decide (c = 41 ∧ S.around ≠ [])) H
theorem sgn_is {c d : Nat} {y : Str} (hy : y.cps.toList = [d]) : decide (V.str ⟨#[c]⟩ = V.str y) = (c == d) := by
  have e : (⟨#[c]⟩ : Str) = sO [c] := rfl
  rw [e, part_is hy, Bool.eq_iff_iff]
  simp
/-- how the scan of a text ends -/
def ScanR (T : List Nat) (r : Nat ⊕ Sc) : Prop := (T = [] ∧ r = .inr sc0) ∨ (T ≠ [] ∧ ((∃ e, beginS T sc0 = .inl e ∧ r = .inl e) ∨ ∃ S1 n, beginS T sc0 = .inr S1 ∧ Runs T n S1 r))
theorem sc0_ok : ScOk sc0 := ⟨sc0_wf, fun h hh => (by cases hh), rfl, Nat.le_refl _, fun c hc => (by cases hc), Nat.le_refl _, fun l hl => (by cases hl)⟩
theorem begin_add {T : List Nat} {S S' : Sc} (e : beginS T S = .inr S') : ∃ h n, S' = S.add h n ∧ hdM (T.drop S.pos) = some (h, n) := by
  unfold beginS at e
  cases q : hdM (T.drop S.pos) with
  | none => rw [q] at e; cases e
  | some hn =>
    obtain ⟨h, n⟩ := hn
    rw [q] at e
    cases e
    exact ⟨h, n, rfl, rfl⟩
theorem begin_ok {T : List Nat} {S S' : Sc} (k : ScOk S) (e : beginS T S = .inr S') : ScOk S' ∧ (S'.around = [] → S'.count ≠ 0) := by
  obtain ⟨h, n, rfl, q⟩ := begin_add e
  exact ⟨k.add q, add_top⟩
theorem ScOk.pos {S : Sc} (k : ScOk S) : ScOk { S with pos := S.pos + 1 } := ⟨⟨k.wf.lp, k.wf.lf, k.wf.lb, k.wf.ne, k.wf.ar⟩, k.hd, k.lc, k.la, k.nz, Nat.le_succ_of_le k.hp, k.pl⟩
def spRun (K : PySem.W.Frag) (C B : Addr) : Sp := fun vs H Q E => ∃ (a : Ad) (z : Str) (r : Nat ⊕ Sc), vs = [.ref a.p] ∧ ScAt K C H a z sc0 ∧ z.length ≤ 2000 ∧ ScanR z.cps.toList r ∧ begPost K C B H a z Q E r
/-- the scan between two signs -/
def WRun (K : PySem.W.Frag) (C : Addr) (H : Hp) (a : Ad) (z : Str) (r : Nat ⊕ Sc) : Nat → St → Hp → Prop := fun m σ H' => ∃ (S : Sc) (v : Option V), σ = [some (.ref a.p), v] ∧ ScAt K C H' a z S ∧ ScOk S ∧ (S.around = [] → S.count ≠ 0 ∨ z.cps.toList.length ≤ S.pos) ∧ Runs z.cps.toList m S r ∧ Same (hidS a.L H) (hidS a.L H')
section
variable {P : Program} {w : World} {K : PySem.W.Frag} {mg : Str → Option Value} {base : Heap}
theorem arnd_tru (l : List Nat) : (!(l.map natV).isEmpty) = decide (l ≠ []) := by
  cases l with
  | nil => rfl
  | cons _ _ => simp
theorem sc_run : FnScope ["self", "sign"] ["self"] (defScope (inClass (top 20) 1)) := ⟨rfl, rfl, rfl, by decide +kernel, rfl, by decide +kernel, by decide +kernel⟩
theorem ok_run {C B fI f : Addr} {fd : FuncData} (F : Fun K "_run" "Scan._run" (inClass (top 20) 1) f fd) (T : All K mg) (W : ScC K mg C) (R : Er K mg "BadText" B fI) : FnOk P w K mg base (L2.CX P w) 7 f fd ["self"] (spRun K C B) := by
  obtain ⟨fB, fdB, FB, bB, mB⟩ := W.beg
  obtain ⟨fN, fdN, FN, bN, mN⟩ := W.isn
  obtain ⟨fC, fdC, FC, bC, mC⟩ := W.clo
  have GB : FnOk P w K mg base (L2.CX P w) 6 fB fdB ["self"] (spBeg K C B) := ok_beg FB T W R
  have GN : FnOk P w K mg base CX0 1 fN fdN ["self"] (spIsn K C) := ok_isn FN W
  have GC : FnOk P w K mg base CX0 1 fC fdC ["self"] (spClo K C) := ok_clo FC W
  refine F.okX sc_run (fun vs H Q E h => ?_) (fun cdv A outer s H vs Q E hr h => ?_)
  · obtain ⟨a, z, r, rfl, _⟩ := h
    rfl
  · obtain ⟨a, z, r, rfl, At, hz, hR, k⟩ := h
    have hr1 : Room 1 _ := hr.mono (by decide)
    obtain ⟨dx, hob⟩ := At.ob
    have zl := len_cps z
    have hL : ∀ {x : Addr} {o : HO} {J : Hp}, x ∈ a.L → hidS a.L (upd J x o) = hidS a.L J := fun h => hidS_upd h
    have errK : ∀ {e : Nat} {H' : Hp}, r = .inl e → Same (hidS a.L H) (hidS a.L H') → ∀ H2 d, Same (hidS a.L H') H2 → H2 d = some (.xd [("told", natV e)]) → E (.ref B) (some d) H2 := by
      intro e H' er s1 H2 d s2 hd
      rw [er] at k
      exact k H2 d (s1.trans s2) hd
    refine ⟨_, (pss_cons (ps_if (pt_truth (pe_fld (pv 0) rfl) (by intro _; rfl)) (pss_one (ps_expr (pe_methS0 (pv 0) W.cl mB GB hr bB (fun σ => passAt (takes_of rfl rfl rfl rfl) σ)))) pss_nil)
      (pss_cons (ps_while (passes_of rfl) (pt_cmpR op_lt (pe_fld (pv 0) rfl) (pe_callB call_len_str (by rfl) T.bi.len PySem.boot_len (pa_cons (pe_fld (pv 0) rfl) pa_nil)) (nomark _)) (pss_cons (ps_set (i := 1) sc_run.nd rfl (Or.inl rfl) (pe_ix ix_str (pe_fld (pv 0) rfl) (pe_fld (pv 0) rfl) (fun _ _ => rfl)))
      (pss_one (ps_if (pt_imp (t' := tEnds K C) (PW.pt (pw_and (pt_cmpR op_eq (pv 1) pe_str (nomark _)) (pw_and1 (pt_truth (pe_fld (pv 0) rfl) (by intro _; rfl))))) (fun σ H Q hh => ?_)) (pss_one (ps_expr (pe_meth0 (pv 0) W.cl mC GC hr1 bC .nil pass0))) (pss_one (ps_if (pt_val (pe_meth0 (pv 0) W.cl mN GN hr1 bN .nil pass0)) (pss_one (ps_expr (pe_methS0 (pv 0) W.cl mB GB hr bB (fun σ => passAt (takes_of rfl rfl rfl rfl) σ)))) (pss_one (ps_if (pt_cmpR op_eq (pv 1) pe_str (nomark _)) (pss_cons (ps_fldaug (pv 0) pe_int in_add)
      (pss_one (ps_expr (pe_methS0 (pv 0) W.cl mB GB hr bB (fun σ => passAt (takes_of rfl rfl rfl rfl) σ))))) (pss_one (ps_raise rfl (takes_of rfl rfl rfl rfl) (pmk_err R hr (by decide) (pa_cons (pe_fld (pv 0) rfl) pa_nil))))))))))))
      (pss_one (ps_if (pt_truth (pe_fld (pv 0) rfl) (by intro _; rfl)) (pss_one (ps_raise rfl (takes_of rfl rfl rfl rfl) (pmk_err R hr (by decide) (pa_cons (pe_fld (pv 0) rfl) pa_nil)))) pss_nil)))), ?_⟩
    · -- the bracket's end
      obtain ⟨a, z, S, c, h0, h1, At, q⟩ := hh
      obtain ⟨dx, hob⟩ := At.ob
      refine ⟨_, h1, rfl, _, rfl, ?_⟩
      rw [sgn_is (d := 41) (by decide +kernel)]
      cases e : c == 41 with
      | false =>
        have : decide (c = 41 ∧ S.around ≠ []) = false := decide_eq_false fun z => by rw [z.1] at e; cases e
        rw [this] at q
        exact iteF q
      | true =>
        refine iteT ⟨_, h0, a.p, C, dx, _, _, rfl, hob, W.cl, W.n5, look5 _ _ _, _, .inl ⟨_, SqL.of At.l5, rfl⟩, ?_⟩
        rw [arnd_tru]
        have : decide (c = 41 ∧ S.around ≠ []) = decide (S.around ≠ []) := by rw [eq_of_beq e]; simp
        rw [this] at q
        exact q
    refine seq_of (fun σ' H' => ∃ m, WRun K C H a z r m σ' H') ?loop ?first
    case first =>
      intro G hG
      refine ⟨_, rfl, a.p, C, dx, _, _, rfl, hob, W.cl, W.nT, lookT _ _ _, _, ⟨sizeL hz, rfl⟩, ?_⟩
      rcases hR with ⟨h0, hr0⟩ | ⟨h0, hR⟩
      · have e0 : ((z.length : Int) != 0) = false := by
          rw [← zl, h0]
          rfl
        rw [e0]
        refine iteF (hG _ _ ⟨0, sc0, none, rfl, At, sc0_ok, fun _ => .inr (by rw [h0]; exact Nat.le_refl _), ?_, Same.refl _⟩)
        rw [hr0]
        exact .fin (S := sc0) (by rw [h0]; exact Nat.le_refl _)
      · have e0 : ((z.length : Int) != 0) = true := by
          rw [← zl]
          have : z.cps.toList.length ≠ 0 := fun q => h0 (List.length_eq_zero_iff.mp q)
          simpa using this
        rw [e0]
        refine iteT ⟨_, rfl, a.p, dx, _, rfl, hob, rfl, a, z, sc0, rfl, At, sc0_ok, by decide, hz, ?_⟩
        rcases hR with ⟨e, he, hr0⟩ | ⟨S1, n, he, hr0⟩
        · rw [he]
          exact errK hr0 (Same.refl _)
        · rw [he]
          intro H' At1 s1
          obtain ⟨o1, o2⟩ := begin_ok sc0_ok he
          exact hG _ _ ⟨n, S1, none, rfl, At1, o1, fun q => .inl (o2 q), hr0, s1⟩
    case loop =>
      rintro σ0 H0 ⟨m0, hW⟩
      refine ⟨WRun K C H a z r, ⟨m0, hW⟩, ?_⟩
      rintro m σ H' ⟨S, v, rfl, At, Ok, tp, hRun, s1⟩
      obtain ⟨dx, hob⟩ := At.ob
      refine ⟨_, rfl, a.p, C, dx, _, _, rfl, hob, W.cl, W.nA, lookA _ _ _, _, rfl, a.p, C, dx, _, _, rfl, hob, W.cl, W.nT, lookT _ _ _, z, rfl, sizeL hz, _, _, rfl, rfl, _, rfl, ?_⟩
      rw [dec_pos, ← zl]
      by_cases hlt : S.pos < z.cps.toList.length
      · rw [decide_eq_true hlt]
        have step : (∃ e, stepS z.cps.toList S = .inl e ∧ r = .inl e) ∨ ∃ S' m', m' < m ∧ stepS z.cps.toList S = .inr S' ∧ Runs z.cps.toList m' S' r := by
          cases hRun with
          | fin hfin => exact absurd hlt (by omega)
          | bad _ hs => exact .inl ⟨_, hs, rfl⟩
          | go _ hs ht => exact .inr ⟨_, _, Nat.lt_succ_self _, hs, ht⟩
        have hc : z.cps.toList[S.pos]? = some z.cps.toList[S.pos] := List.getElem?_eq_getElem hlt
        generalize z.cps.toList[S.pos] = c at hc
        have hgd : z.cps.toList.getD S.pos 0 = c := by rw [List.getD_eq_getElem?_getD, hc]; rfl
        have tp' : S.around = [] → S.count ≠ 0 := fun q => (tp q).resolve_right (by omega)
        have hhp := Ok.hp
        refine iteT ⟨fun σ' H' => ∃ m', m' < m ∧ WRun K C H a z r m' σ' H', fun _ _ q => q, ?_⟩
        refine ⟨_, rfl, a.p, C, dx, _, _, rfl, hob, W.cl, W.nT, lookT _ _ _, _, rfl, a.p, C, dx, _, _, rfl, hob, W.cl, W.nA, lookA _ _ _, z, _, c, rfl, rfl, sizeL hz, atI_nat hc, ?_⟩
        refine ⟨a, z, S, c, rfl, rfl, At, ?_⟩
        unfold stepS at step
        rw [hgd] at step
        have begun : ∀ {S0 : Sc} {H0 : Hp}, ScAt K C H0 a z S0 → ScOk S0 → Same (hidS a.L H) (hidS a.L H0) → ((∃ e, beginS z.cps.toList S0 = .inl e ∧ r = .inl e) ∨ ∃ S' m', m' < m ∧ beginS z.cps.toList S0 = .inr S' ∧ Runs z.cps.toList m' S' r) →
            begPost K C B H0 a z (fun _ H' => ∃ m', m' < m ∧ WRun K C H a z r m' [some (.ref a.p), some (.str ⟨#[c]⟩)] H') E (beginS z.cps.toList S0) := by
          intro S0 H0 At0 Ok0 s0 h
          rcases h with ⟨e, he, hr0⟩ | ⟨S', m', hm, he, hr0⟩
          · rw [he]
            exact errK hr0 s0
          · rw [he]
            intro H' At1 s2
            obtain ⟨o1, o2⟩ := begin_ok Ok0 he
            exact ⟨m', hm, S', _, rfl, At1, o1, fun q => .inl (o2 q), hr0, s0.trans s2⟩
        by_cases hcl : c = 41 ∧ S.around ≠ []
        · rw [decide_eq_true hcl]
          rw [if_pos hcl] at step
          rcases step with ⟨e, he, _⟩ | ⟨S', m', hm, he, ht⟩
          · cases he
          · cases he
            obtain ⟨o1, o2⟩ := Ok.close hcl.2
            exact iteT ⟨_, rfl, a.p, dx, _, rfl, hob, rfl, a, z, S, rfl, At, Ok, hcl.2, fun H2 At2 f2 => ⟨m', hm, S.close, _, rfl, At2, o1, fun _ => .inl o2, ht, by rw [f2]; exact s1⟩⟩
        · rw [decide_eq_false hcl]
          rw [if_neg hcl] at step
          refine iteF ⟨_, rfl, a.p, dx, _, rfl, hob, rfl, a, z, S, rfl, At, Ok, tp', by omega, fun H2 s2 => ⟨_, rfl, ?_⟩⟩
          have At2 := At.same s2
          have s12 := s1.trans (hidS_more s2)
          obtain ⟨dx2, hob2⟩ := At2.ob
          cases eB : S.newB with
          | true =>
            rw [eB, if_pos rfl] at step
            exact iteT ⟨_, rfl, a.p, dx2, _, rfl, hob2, rfl, a, z, S, rfl, At2, Ok, by omega, hz, begun At2 Ok s12 step⟩
          | false =>
            rw [eB, if_neg Bool.false_ne_true] at step
            refine iteF ⟨_, rfl, rfl, _, rfl, ?_⟩
            rw [sgn_is (d := 32) (by decide +kernel)]
            by_cases h32 : c = 32
            · rw [if_pos h32] at step
              have : (c == 32) = true := by simp [h32]
              rw [this]
              obtain ⟨dx3, hob3, At3⟩ := At2.pos (S.pos + 1)
              refine iteT ⟨_, rfl, a.p, C, dx3, _, _, rfl, hob3, W.cl, W.nA, lookA _ _ _, _, _, rfl, rfl, dx3, _, hob3, (by show 8 < 1000; decide), ?_⟩
              have e1 : V.int ((S.pos : Int) + 1) = natV (S.pos + 1) := by unfold natV; congr 1
              rw [e1, putF_at]
              have f1 : hidS a.L (upd H2 a.p (.ins C dx3 (scF a z (S.pos + 1)))) = hidS a.L H2 := hL (by simp [Ad.L])
              generalize upd H2 a.p (.ins C dx3 (scF a z (S.pos + 1))) = H3 at At3 f1 ⊢
              obtain ⟨dx4, hob4⟩ := At3.ob
              refine ⟨_, rfl, a.p, dx4, _, rfl, hob4, rfl, a, z, _, rfl, At3, Ok.pos, by show S.pos + 1 ≤ 2500; omega, hz, begun At3 Ok.pos (by rw [f1]; exact s12) step⟩
            · rw [if_neg h32] at step
              have : (c == 32) = false := by simp [h32]
              rw [this]
              rcases step with ⟨e, he, hr0⟩ | ⟨S', m', hm, he, ht⟩
              · cases he
                refine iteF ⟨_, rfl, a.p, C, dx2, _, _, rfl, hob2, W.cl, W.nA, lookA _ _ _, _, rfl, ?_⟩
                exact fun H3 d3 S3 h3 => errK hr0 s12 H3 d3 (fun b u q => S3 _ _ (hidS_in _ _ b u q)) h3
              · cases he
      · rw [decide_eq_false hlt]
        have hr0 : r = if S.around = [] then .inr S else .inl S.pos := by
          cases hRun with
          | fin hfin => rfl
          | bad h _ => exact absurd h hlt
          | go h _ _ => exact absurd h hlt
        refine iteF ⟨_, rfl, a.p, C, dx, _, _, rfl, hob, W.cl, W.n5, look5 _ _ _, _, .inl ⟨_, SqL.of At.l5, rfl⟩, ?_⟩
        rw [arnd_tru]
        by_cases ha : S.around = []
        · rw [decide_eq_false (fun q => q ha)]
          rw [if_pos ha] at hr0
          rw [hr0] at k
          exact iteF (k H' At s1)
        · rw [decide_eq_true ha]
          rw [if_neg ha] at hr0
          refine iteT ⟨_, rfl, a.p, C, dx, _, _, rfl, hob, W.cl, W.nA, lookA _ _ _, _, rfl, ?_⟩
          exact fun H2 d2 S2 h2 => errK hr0 s1 H2 d2 (fun b u q => S2 _ _ (hidS_in _ _ b u q)) h2
end
end K1
set_option maxHeartbeats 4000000
/-! a scan is made -/
namespace K1
open PySem L2
/-- an object whose attributes are put one by one -/
structure Bld (C dx p : Addr) (H0 H : Hp) (fs : List (Str × V)) (L : List (Addr × List V)) : Prop where
  ins : H p = some (.ins C dx fs)
  old : Same (hidS [p] H0) H
  lst : ∀ r ∈ L, H r.1 = some (.lst r.2) ∧ H0 r.1 = none ∧ r.1 ≠ p
  nd : (L.map (·.1)).Nodup
theorem Bld.set {C dx p : Addr} {H0 H : Hp} {fs fs' : List (Str × V)} {L : List (Addr × List V)} (b : Bld C dx p H0 H fs L) : Bld C dx p H0 (upd H p (.ins C dx fs')) fs' L := by
  refine ⟨upd_same, fun x u e => ?_, fun r hr => ?_, b.nd⟩
  · have : x ≠ p := fun q => (hidS_at e).1 (by simp [q])
    rw [upd_ne this]
    exact b.old _ _ e
  · obtain ⟨h1, h2, h3⟩ := b.lst r hr
    exact ⟨by rw [upd_ne h3]; exact h1, h2, h3⟩
theorem Bld.new {C dx p q : Addr} {H0 H : Hp} {fs : List (Str × V)} {L : List (Addr × List V)} {xs : List V} (b : Bld C dx p H0 H fs L) (nq : H q = none) : Bld C dx p H0 (upd H q (.lst xs)) fs (L ++ [(q, xs)]) := by
  have qp : q ≠ p := fun e => by rw [e, b.ins] at nq; cases nq
  refine ⟨by rw [upd_ne (Ne.symm qp)]; exact b.ins, b.old.trans (K0.same_upd nq), fun r hr => ?_, ?_⟩
  · rcases List.mem_append.mp hr with h | h
    · obtain ⟨h1, h2, h3⟩ := b.lst r h
      exact ⟨by rw [upd_ne (ne_of_none h1 nq)]; exact h1, h2, h3⟩
    · rw [List.mem_singleton.mp h]
      refine ⟨upd_same, ?_, qp⟩
      cases e : H0 q with
      | none => rfl
      | some u =>
        have z := b.old q u (hidS_of (by simp [qp]) e)
        rw [nq] at z
        cases z
  · rw [List.map_append, List.nodup_append]
    refine ⟨b.nd, by simp, fun x hx y hy => ?_⟩
    obtain ⟨r, hr, rfl⟩ := List.mem_map.mp hx
    have : y = q := by simpa using hy
    rw [this]
    exact ne_of_none (b.lst r hr).1 nq
/-- a made scan -/
def iniPost (K : PySem.W.Frag) (C B p : Addr) (H : Hp) (z : Str) (Q : VK) (E : XK) : Nat ⊕ Sc → Prop
  | .inl e => ∀ H' d, Same (hidS [p] H) H' → H' d = some (.xd [("told", natV e)]) → E (.ref B) (some d) H'
  | .inr S' => ∀ H' a, a.p = p → ScAt K C H' a z S' → Same (hidS [p] H) H' → Q .non H'
/-- what a scan is made of: a text, or none -/
def srcPost (v : V) (non : Prop) (post : Str → Nat ⊕ Sc → Prop) : Prop := (v = .non ∧ non) ∨ ∃ z r, v = .str z ∧ z.length ≤ 2000 ∧ ScanR z.cps.toList r ∧ post z r
def spIniS (K : PySem.W.Frag) (C B : Addr) : Sp := fun vs H Q E => ∃ (p dx : Addr) (v : V), vs = [.ref p, v] ∧ H p = some (.ins C dx []) ∧ srcPost v (iniPost K C B p H ⟨#[]⟩ Q E (.inl 0)) (fun z r => iniPost K C B p H z Q E r)
section
variable {P : Program} {w : World} {K : PySem.W.Frag} {mg : Str → Option Value} {base : Heap}
theorem sc_inis : FnScope ["self", "text"] ["self", "text"] (defScope (inClass (top 20) 0)) := ⟨rfl, rfl, rfl, by decide +kernel, rfl, by decide +kernel, by decide +kernel⟩
theorem ok_inis {C B fI f : Addr} {fd : FuncData} (F : Fun K "__init__" "Scan.__init__" (inClass (top 20) 0) f fd) (T : All K mg) (W : ScC K mg C) (R : Er K mg "BadText" B fI) : FnOk P w K mg base (L2.CX P w) 8 f fd ["self", "text"] (spIniS K C B) := by
  obtain ⟨fR, fdR, FR, bR, mR⟩ := W.run
  have GR : FnOk P w K mg base (L2.CX P w) 7 fR fdR ["self"] (spRun K C B) := ok_run FR T W R
  refine F.okX sc_inis (fun vs H Q E h => ?_) (fun cdv A outer s H vs Q E hr h => ?_)
  · obtain ⟨p, dx, v, rfl, _⟩ := h
    rfl
  · obtain ⟨p, dx, v, rfl, hp, hv⟩ := h
    refine ⟨_, (pss_cons (ps_if (pt_not (pt_val (pe_callB call_isi (by rfl) T.bi.isi (by decide +kernel) (pa_cons (pv 1) (pa_cons (pe_bltn (v := .ty "str") (by rfl) T.bi.str (by decide +kernel) rfl) pa_nil))))) (pss_one (ps_raise rfl (takes_of rfl rfl rfl rfl) (pmk_err R hr (by decide) (pa_cons pe_int pa_nil)))) pss_nil)
      (pss_cons (ps_fld (pv 0) (pe_lst pa_nil) rfl)
      (pss_cons (ps_fld (pv 0) (pe_lst pa_nil) rfl)
      (pss_cons (ps_fld (pv 0) (pe_lst pa_nil) rfl)
      (pss_cons (ps_fld (pv 0) (pe_lst pa_nil) rfl)
      (pss_cons (ps_fld (pv 0) (pv 1) rfl)
      (pss_cons (ps_fld (pv 0) pe_int rfl)
      (pss_cons (ps_fld (pv 0) (pe_lst pa_nil) rfl)
      (pss_cons (ps_fld (pv 0) (pe_lst (pa_cons pe_int pa_nil)) rfl)
      (pss_one (ps_expr (pe_methS0 (pv 0) W.cl mR GR hr bR (fun σ => passAt (takes_of rfl rfl rfl rfl) σ))))))))))))), ?_⟩
    rcases hv with ⟨rfl, k⟩ | ⟨z, r, rfl, hz, hR, k⟩
    · refine ⟨_, rfl, .non, .ty "str", .type "NoneType", .type "str", false, rfl, .ty "str", .base .non, kit_ty (by decide +kernel), _, rfl, iteT ?_⟩
      exact ⟨_, rfl, fun H2 d2 S2 h2 => k H2 d2 (fun b u q => S2 _ _ (hidS_in _ _ b u q)) h2⟩
    · refine ⟨_, rfl, .str z, .ty "str", .type "str", .type "str", true, rfl, .ty "str", .base (.str z), kit_ty (by decide +kernel), _, rfl, iteF ?_⟩
      have b0 : Bld C dx p H H [] [] := ⟨hp, hidS_in _ _, fun r hr => (by cases hr), List.nodup_nil⟩
      have lst0 : ([] : List V).length ≤ sizeLine := Nat.zero_le _
      refine ⟨Nat.zero_le _, fun q1 n1 => ?_⟩
      have b1 := b0.new (xs := []) n1
      refine ⟨_, rfl, p, C, dx, _, rfl, b1.ins, W.cl, W.n1, (by decide), ?_⟩
      have b1 := b1.set (fs' := putF "paths" (.ref q1) [])
      generalize upd (upd H q1 (.lst [])) p (.ins C dx (putF "paths" (.ref q1) [])) = H1 at b1 ⊢
      refine ⟨Nat.zero_le _, fun q2 n2 => ?_⟩
      have b2 := b1.new (xs := []) n2
      refine ⟨_, rfl, p, C, dx, _, rfl, b2.ins, W.cl, W.n2, (by show 1 < 1000; decide), ?_⟩
      have b2 := b2.set (fs' := putF "heads" (.ref q2) (putF "paths" (.ref q1) []))
      generalize upd (upd H1 q2 (.lst [])) p (.ins C dx (putF "heads" (.ref q2) (putF "paths" (.ref q1) []))) = H2 at b2 ⊢
      refine ⟨Nat.zero_le _, fun q3 n3 => ?_⟩
      have b3 := b2.new (xs := []) n3
      refine ⟨_, rfl, p, C, dx, _, rfl, b3.ins, W.cl, W.n3, (by show 2 < 1000; decide), ?_⟩
      have b3 := b3.set (fs' := putF "firsts" (.ref q3) (putF "heads" (.ref q2) (putF "paths" (.ref q1) [])))
      generalize upd (upd H2 q3 (.lst [])) p (.ins C dx (putF "firsts" (.ref q3) (putF "heads" (.ref q2) (putF "paths" (.ref q1) [])))) = H3 at b3 ⊢
      refine ⟨Nat.zero_le _, fun q4 n4 => ?_⟩
      have b4 := b3.new (xs := []) n4
      refine ⟨_, rfl, p, C, dx, _, rfl, b4.ins, W.cl, W.n4, (by show 3 < 1000; decide), ?_⟩
      have b4 := b4.set (fs' := putF "behinds" (.ref q4) (putF "firsts" (.ref q3) (putF "heads" (.ref q2) (putF "paths" (.ref q1) []))))
      generalize upd (upd H3 q4 (.lst [])) p (.ins C dx (putF "behinds" (.ref q4) (putF "firsts" (.ref q3) (putF "heads" (.ref q2) (putF "paths" (.ref q1) []))))) = H4 at b4 ⊢
      refine ⟨_, rfl, _, rfl, p, C, dx, _, rfl, b4.ins, W.cl, W.nT, (by show 4 < 1000; decide), ?_⟩
      have b5 := b4.set (fs' := putF "_text" (.str z) (putF "behinds" (.ref q4) (putF "firsts" (.ref q3) (putF "heads" (.ref q2) (putF "paths" (.ref q1) [])))))
      generalize upd H4 p (.ins C dx (putF "_text" (.str z) (putF "behinds" (.ref q4) (putF "firsts" (.ref q3) (putF "heads" (.ref q2) (putF "paths" (.ref q1) [])))))) = H5 at b5 ⊢
      refine ⟨_, rfl, p, C, dx, _, rfl, b5.ins, W.cl, W.nA, (by show 5 < 1000; decide), ?_⟩
      have b6 := b5.set (fs' := putF "_at" (.int 0) (putF "_text" (.str z) (putF "behinds" (.ref q4) (putF "firsts" (.ref q3) (putF "heads" (.ref q2) (putF "paths" (.ref q1) []))))))
      generalize upd H5 p (.ins C dx (putF "_at" (.int 0) (putF "_text" (.str z) (putF "behinds" (.ref q4) (putF "firsts" (.ref q3) (putF "heads" (.ref q2) (putF "paths" (.ref q1) []))))))) = H6 at b6 ⊢
      refine ⟨Nat.zero_le _, fun q5 n5 => ?_⟩
      have b7 := b6.new (xs := []) n5
      refine ⟨_, rfl, p, C, dx, _, rfl, b7.ins, W.cl, W.n5, (by show 6 < 1000; decide), ?_⟩
      have b7 := b7.set (fs' := putF "_around" (.ref q5) (putF "_at" (.int 0) (putF "_text" (.str z) (putF "behinds" (.ref q4) (putF "firsts" (.ref q3) (putF "heads" (.ref q2) (putF "paths" (.ref q1) [])))))))
      generalize upd (upd H6 q5 (.lst [])) p (.ins C dx (putF "_around" (.ref q5) (putF "_at" (.int 0) (putF "_text" (.str z) (putF "behinds" (.ref q4) (putF "firsts" (.ref q3) (putF "heads" (.ref q2) (putF "paths" (.ref q1) [])))))))) = H7 at b7 ⊢
      refine ⟨sizeL (by decide) (m := 1), fun q6 n6 => ?_⟩
      have b8 := b7.new (xs := [.int 0]) n6
      refine ⟨_, rfl, p, C, dx, _, rfl, b8.ins, W.cl, W.n6, (by show 7 < 1000; decide), ?_⟩
      have b8 := b8.set (fs' := putF "_counts" (.ref q6) (putF "_around" (.ref q5) (putF "_at" (.int 0) (putF "_text" (.str z) (putF "behinds" (.ref q4) (putF "firsts" (.ref q3) (putF "heads" (.ref q2) (putF "paths" (.ref q1) []))))))))
      generalize upd (upd H7 q6 (.lst [.int 0])) p (.ins C dx (putF "_counts" (.ref q6) (putF "_around" (.ref q5) (putF "_at" (.int 0) (putF "_text" (.str z) (putF "behinds" (.ref q4) (putF "firsts" (.ref q3) (putF "heads" (.ref q2) (putF "paths" (.ref q1) []))))))))) = H8 at b8 ⊢
      have l1 := b8.lst (q1, []) (by simp)
      have l2 := b8.lst (q2, []) (by simp)
      have l3 := b8.lst (q3, []) (by simp)
      have l4 := b8.lst (q4, []) (by simp)
      have l5 := b8.lst (q5, []) (by simp)
      have l6 := b8.lst (q6, [.int 0]) (by simp)
      have nd : [q1, q2, q3, q4, q5, q6].Nodup := b8.nd
      have At : ScAt K C H8 ⟨p, q1, q2, q3, q4, q5, q6⟩ z sc0 := by
        refine ⟨⟨dx, b8.ins⟩, ⟨[], l1.1, .nil⟩, ⟨[], l2.1, .nil⟩, l3.1, l4.1, l5.1, l6.1, ?_⟩
        refine List.nodup_cons.mpr ⟨fun hm => ?_, nd⟩
        have hm : p ∈ [q1, q2, q3, q4, q5, q6] := hm
        simp only [List.mem_cons, List.not_mem_nil, or_false] at hm
        rcases hm with h | h | h | h | h | h
        · exact l1.2.2 h.symm
        · exact l2.2.2 h.symm
        · exact l3.2.2 h.symm
        · exact l4.2.2 h.symm
        · exact l5.2.2 h.symm
        · exact l6.2.2 h.symm
      have fr : Same (hidS [p] H) (hidS (Ad.L ⟨p, q1, q2, q3, q4, q5, q6⟩) H8) := fun b u e => by
        obtain ⟨e1, e2⟩ := hidS_at e
        refine hidS_of (fun hm => ?_) (b8.old _ _ e)
        unfold Ad.L at hm
        simp only [List.mem_cons, List.not_mem_nil, or_false] at hm
        rcases hm with h | h | h | h | h | h | h
        · exact e1 (by simp [h])
        · rw [h, l1.2.1] at e2; cases e2
        · rw [h, l2.2.1] at e2; cases e2
        · rw [h, l3.2.1] at e2; cases e2
        · rw [h, l4.2.1] at e2; cases e2
        · rw [h, l5.2.1] at e2; cases e2
        · rw [h, l6.2.1] at e2; cases e2
      refine ⟨_, rfl, p, dx, _, rfl, b8.ins, by rfl, ⟨p, q1, q2, q3, q4, q5, q6⟩, z, r, rfl, At, hz, hR, ?_⟩
      cases r with
      | inl e => exact fun H' d s1 hd => k H' d (fr.trans s1) hd
      | inr S' => exact fun H' At' s1 => k H' _ rfl At' (fr.trans (s1.trans (hidS_in _ _)))
end
end K1
set_option maxHeartbeats 4000000
/-! zip of three lists whose tuples are kept -/
namespace PySem
open Sem (wp)
namespace F
theorem zip_no_len : typeLookup (.type "zip") "__len__" = pure none := by rw [typeLookup_type, builtinLookup_eq_fast]; kernel_rfl
theorem zip_no_hint : typeLookup (.type "zip") "__length_hint__" = pure none := by rw [typeLookup_type, builtinLookup_eq_fast]; kernel_rfl
end F
abbrev z3H1 (h : Heap) (l1 : Addr) : Heap := h.push { cls := .type "list_iterator", data := .fields #[.ref l1, .int 0 0] }
abbrev z3H2 (h : Heap) (l1 l2 : Addr) : Heap := (z3H1 h l1).push { cls := .type "list_iterator", data := .fields #[.ref l2, .int 0 0] }
abbrev z3H3 (h : Heap) (l1 l2 l3 : Addr) : Heap := (z3H2 h l1 l2).push { cls := .type "list_iterator", data := .fields #[.ref l3, .int 0 0] }
abbrev z3H4 (h : Heap) (l1 l2 l3 : Addr) : Heap := (z3H3 h l1 l2 l3).push { cls := .type "tuple", data := .seq #[.ref h.objs.size, .ref (z3H1 h l1).objs.size, .ref (z3H2 h l1 l2).objs.size] }
abbrev z3H5 (h : Heap) (l1 l2 l3 : Addr) : Heap := (z3H4 h l1 l2 l3).push { cls := .type "tuple", data := .seq #[.none, .none, .none] }
abbrev z3H6 (h : Heap) (l1 l2 l3 : Addr) : Heap := (z3H5 h l1 l2 l3).push { cls := .type "zip", data := .fields #[.none, .bool false, .bool false, .ref (z3H3 h l1 l2 l3).objs.size, .ref (z3H4 h l1 l2 l3).objs.size] }
theorem meets_zip3_new (l1 l2 l3 : Addr) (xs ys zs : Array Value) :
    Meets (Builtin.«zip.__new__» ⟨[.type "zip", .ref l1, .ref l2, .ref l3], []⟩) (fun _ R s => s.heap.IsList l1 xs ∧ s.heap.IsList l2 ys ∧ s.heap.IsList l3 zs ∧
      R (.ok (.ret (.ref (z3H5 s.heap l1 l2 l3).objs.size))) { s with heap := z3H6 s.heap l1 l2 l3 }) :=
  .of_wp fun prog w A R s h => by
    obtain ⟨hp, g, d, tk, os⟩ := s; obtain ⟨hl1, hl2, hl3, h⟩ := h
    have hsub := sub_zip
    have hL1 : Heap.IsList (Shared.heap ⟨hp, g, d, tk, os⟩) l1 xs := hl1
    have hL2 : Heap.IsList (Shared.heap ⟨z3H1 hp l1, g, d, tk, os⟩) l2 ys := Heap.IsList.push hl2 _
    have hL3 : Heap.IsList (Shared.heap ⟨z3H2 hp l1 l2, g, d, tk, os⟩) l3 zs := Heap.IsList.push (Heap.IsList.push hl3 _) _
    wp_walk using wpAny_pyIter_list hL1, wpAny_pyIter_list hL2, wpAny_pyIter_list hL3
    exact ⟨_, rfl, h⟩
section
variable {prog : Program} {w : World} {A : Around} {E : Value → Shared → Prop} {s : Shared}
theorem call_zip_3 {l1 l2 l3 : Addr} {xs ys zs : Array Value} {Q : Value → Shared → Prop} (hl1 : s.heap.IsList l1 xs) (hl2 : s.heap.IsList l2 ys) (hl3 : s.heap.IsList l3 zs)
    (h : ∀ h', IsZip h' (s.heap.objs.size + 5) (s.heap.objs.size + 3) (s.heap.objs.size + 4) .none → IsTupOf3 h' (s.heap.objs.size + 3) (.ref s.heap.objs.size) (.ref (s.heap.objs.size + 1)) (.ref (s.heap.objs.size + 2)) →
      IsTupOf3 h' (s.heap.objs.size + 4) .none .none .none → h'.IsListIter s.heap.objs.size l1 0 → h'.IsListIter (s.heap.objs.size + 1) l2 0 → h'.IsListIter (s.heap.objs.size + 2) l3 0 → h'.objs.size = s.heap.objs.size + 6 →
      (∀ c o, s.heap.get? c = some o → h'.get? c = some o) → Q (.ref (s.heap.objs.size + 5)) { s with heap := h' }) :
    wpAny (model prog w) A (call (.type "zip") [.ref l1, .ref l2, .ref l3]) Q E s := by
  refine callType_new F.called_zip (by decide) (F.typeCall_zip_3 _ _ _) (F.newCall_zip_3 _ _ _) (fun obj => F.args_object_init_4 obj _ _ _) F.entry_zip_new
    (meets_zip3_new l1 l2 l3 xs ys zs) ⟨hl1, hl2, hl3, ?_⟩
  have z1 : (z3H1 s.heap l1).objs.size = s.heap.objs.size + 1 := Heap.size_push ..
  have z2 : (z3H2 s.heap l1 l2).objs.size = s.heap.objs.size + 2 := by rw [Heap.size_push, z1]
  have z3 : (z3H3 s.heap l1 l2 l3).objs.size = s.heap.objs.size + 3 := by rw [Heap.size_push, z2]
  have z4 : (z3H4 s.heap l1 l2 l3).objs.size = s.heap.objs.size + 4 := by rw [Heap.size_push, z3]
  have z5 : (z3H5 s.heap l1 l2 l3).objs.size = s.heap.objs.size + 5 := by rw [Heap.size_push, z4]
  have z6 : (z3H6 s.heap l1 l2 l3).objs.size = s.heap.objs.size + 6 := by rw [Heap.size_push, z5]
  have g6 : (z3H6 s.heap l1 l2 l3).get? (z3H5 s.heap l1 l2 l3).objs.size = some _ := Heap.get?_push_size _ rfl
  have g5 : (z3H6 s.heap l1 l2 l3).get? (z3H4 s.heap l1 l2 l3).objs.size = some _ := Heap.get?_push_of_some _ (Heap.get?_push_size _ rfl)
  have g4 : (z3H6 s.heap l1 l2 l3).get? (z3H3 s.heap l1 l2 l3).objs.size = some _ := Heap.get?_push_of_some _ (Heap.get?_push_of_some _ (Heap.get?_push_size _ rfl))
  have g3 : (z3H6 s.heap l1 l2 l3).get? (z3H2 s.heap l1 l2).objs.size = some _ := Heap.get?_push_of_some _ (Heap.get?_push_of_some _ (Heap.get?_push_of_some _ (Heap.get?_push_size _ rfl)))
  have g2 : (z3H6 s.heap l1 l2 l3).get? (z3H1 s.heap l1).objs.size = some _ := Heap.get?_push_of_some _ (Heap.get?_push_of_some _ (Heap.get?_push_of_some _ (Heap.get?_push_of_some _ (Heap.get?_push_size _ rfl))))
  have g1 : (z3H6 s.heap l1 l2 l3).get? s.heap.objs.size = some _ := Heap.get?_push_of_some _ (Heap.get?_push_of_some _ (Heap.get?_push_of_some _ (Heap.get?_push_of_some _ (Heap.get?_push_of_some _ (Heap.get?_push_size _ rfl)))))
  show _ ∧ _
  rw [z3, z4, z5] at g6
  rw [z4] at g5
  rw [z1, z2, z3] at g4
  rw [z2] at g3
  rw [z1] at g2
  rw [z5]
  exact ⟨⟨_, g6, rfl⟩, h _ g6 g4 g5 ⟨_, g1, rfl, rfl⟩ ⟨_, g2, rfl, rfl⟩ ⟨_, g3, rfl, rfl⟩ z6 fun c o x =>
    Heap.get?_push_of_some _ (Heap.get?_push_of_some _ (Heap.get?_push_of_some _ (Heap.get?_push_of_some _ (Heap.get?_push_of_some _ (Heap.get?_push_of_some _ x)))))⟩
/-- the cells of a zip over three lists lie apart -/
structure Apart3 (z TI TO i1 i2 i3 l1 l2 l3 : Addr) : Prop where
  cells : [z, TI, TO, i1, i2, i3].Nodup
  lists : ∀ l ∈ [l1, l2, l3], l ∉ [z, TI, TO, i1, i2, i3]
variable {z TI TO i1 i2 i3 l1 l2 l3 : Addr} {k : Nat} {xs ys zs : Array Value} {x y v : Value}
theorem zip3_next_item_held {T : Addr} {f : Bool} {oT : Obj} {Q : Value → Shared → Prop} (D : Apart3 z TI TO i1 i2 i3 l1 l2 l3)
    (hz : IsZipHeld s.heap z TI TO T f) (hT : s.heap.get? T = some oT) (hTI : IsTupOf3 s.heap TI (.ref i1) (.ref i2) (.ref i3))
    (h1 : s.heap.IsListIter i1 l1 k) (h2 : s.heap.IsListIter i2 l2 k) (h3 : s.heap.IsListIter i3 l3 k) (hl1 : s.heap.IsList l1 xs) (hl2 : s.heap.IsList l2 ys) (hl3 : s.heap.IsList l3 zs) (hx : xs[k]? = some x) (hy : ys[k]? = some y) (hv : zs[k]? = some v)
    (hQ : ∀ h', IsZipHeld h' z TI TO T true → h'.IsListIter i1 l1 (k + 1) → h'.IsListIter i2 l2 (k + 1) → h'.IsListIter i3 l3 (k + 1) → IsTupOf3 h' s.heap.objs.size x y v → h'.objs.size = s.heap.objs.size + 1 →
      (∀ c o, c ≠ z → c ≠ i1 → c ≠ i2 → c ≠ i3 → s.heap.get? c = some o → h'.get? c = some o) → Q (.ref s.heap.objs.size) { s with heap := h' }) :
    wpAny (model prog w) A (Builtin.«zip.__next__» ⟨[.ref z], []⟩) (fun fin s' => ∃ v, fin = .done (.ret v) ∧ Q v s') E s := by
  have cl := D.cells
  have ls := D.lists
  simp only [List.nodup_cons, List.mem_cons, List.not_mem_nil, or_false, not_or] at cl ls
  obtain ⟨⟨zTI, zTO, z1, z2, z3⟩, ⟨TITO, TI1, TI2, TI3⟩, ⟨TO1, TO2, TO3⟩, ⟨e12, e13⟩, e23, _⟩ := cl
  obtain ⟨a1, a2, a3, a4, a5, a6⟩ := ls l1 (.inl rfl)
  obtain ⟨b1, b2, b3, b4, b5, b6⟩ := ls l2 (.inr (.inl rfl))
  obtain ⟨c1, c2, c3, c4, c5, c6⟩ := ls l3 (.inr (.inr rfl))
  show wpAny _ _ (field (.ref z) 2 >>= _) _ _ _
  refine wpAny_bind (wpAny_field hz rfl (x := .bool false) rfl ?_)
  show wpAny _ _ (field (.ref z) 3 >>= _) _ _ _
  refine wpAny_bind (wpAny_field hz rfl (x := .ref TI) rfl ?_)
  refine wpAny_bind (wpAny_seqItems hTI rfl ?_)
  show wpAny _ _ (Builtin.SmallTypes.ownedTupleIsFree (.ref z) >>= _) _ _ _
  refine wpAny_bind (wpAny_tupleHeld_zip hz hT fun h₁ hz₁ hs₁ => ?_)
  simp only [Bool.false_eq_true, if_false]
  refine wpAny_bind ?_
  rw [← Array.forIn_toList]
  simp only [List.forIn_cons, List.forIn_nil]
  refine wpAny_bind (wpAny_bind (wpAny_holding ?_))
  show wpAny _ _ (Builtin.SmallTypes.nextOf (.ref i1) >>= _) _ _ _
  refine wpAny_bind (wpAny_nextOf_list_item (s := { s with heap := h₁ }) (h1.extBut hs₁.extBut (Ne.symm z1)) (hl1.extBut hs₁.extBut a1) hx fun h₂ h1₂ hs₂ => wpAny_pure ?_)
  refine wpAny_pure ?_
  refine wpAny_bind (wpAny_bind (wpAny_holding ?_))
  show wpAny _ _ (Builtin.SmallTypes.nextOf (.ref i2) >>= _) _ _ _
  refine wpAny_bind (wpAny_nextOf_list_item (s := { s with heap := h₂ }) ((h2.extBut hs₁.extBut (Ne.symm z2)).extBut hs₂.extBut (Ne.symm e12)) ((hl2.extBut hs₁.extBut b1).extBut hs₂.extBut b4) hy fun h₃ h2₃ hs₃ => wpAny_pure ?_)
  refine wpAny_pure ?_
  refine wpAny_bind (wpAny_bind (wpAny_holding ?_))
  show wpAny _ _ (Builtin.SmallTypes.nextOf (.ref i3) >>= _) _ _ _
  refine wpAny_bind (wpAny_nextOf_list_item (s := { s with heap := h₃ }) (((h3.extBut hs₁.extBut (Ne.symm z3)).extBut hs₂.extBut (Ne.symm e13)).extBut hs₃.extBut (Ne.symm e23)) (((hl3.extBut hs₁.extBut c1).extBut hs₂.extBut c4).extBut hs₃.extBut c5) hv fun h₄ h3₄ hs₄ => wpAny_pure ?_)
  refine wpAny_pure (wpAny_pure ?_)
  show wpAny _ _ (newTuple [x, y, v] >>= _) _ _ _
  refine wpAny_bind (wpAny_newTuple ?_)
  have hsz : h₄.objs.size = s.heap.objs.size := by rw [hs₄.1, hs₃.1, hs₂.1, hs₁.1]
  have hz₃ : IsZipHeld h₄ z TI TO T true := hs₄.extBut _ _ z3 (hs₃.extBut _ _ z2 (hs₂.extBut _ _ z1 hz₁))
  have hk : ∀ c o, c ≠ z → c ≠ i1 → c ≠ i2 → c ≠ i3 → s.heap.get? c = some o → h₄.get? c = some o := fun c o c1 c2 c3 c4 e => hs₄.extBut _ _ c4 (hs₃.extBut _ _ c3 (hs₂.extBut _ _ c2 (hs₁.extBut _ _ c1 e)))
  have h1₃ : h₄.IsListIter i1 l1 (k + 1) := (h1₂.extBut hs₃.extBut e12).extBut hs₄.extBut e13
  have h2₄ : h₄.IsListIter i2 l2 (k + 1) := h2₃.extBut hs₄.extBut e23
  refine wpAny_pure ⟨_, rfl, ?_⟩
  show Q (.ref h₄.objs.size) _
  have hp : IsTupOf3 (h₄.push { cls := .type "tuple", data := .seq #[x, y, v] }) h₄.objs.size x y v := Heap.get?_push_size _ rfl
  have hz4 : (h₄.push { cls := .type "tuple", data := .seq #[x, y, v] }).objs.size = h₄.objs.size + 1 := Heap.size_push ..
  rw [hsz] at hp hz4 ⊢
  exact hQ _ (Heap.get?_push_of_some _ hz₃) (h1₃.at fun o e => Heap.get?_push_of_some _ e) (h2₄.at fun o e => Heap.get?_push_of_some _ e) (h3₄.at fun o e => Heap.get?_push_of_some _ e) hp hz4 fun c o c1 c2 c3 c4 e => Heap.get?_push_of_some _ (hk c o c1 c2 c3 c4 e)
theorem zip3_next_end_held {T : Addr} {f : Bool} {oT : Obj} {Q : Fin → Shared → Prop} (hh : A.handled = none) (D : Apart3 z TI TO i1 i2 i3 l1 l2 l3)
    (hz : IsZipHeld s.heap z TI TO T f) (hT : s.heap.get? T = some oT) (hTI : IsTupOf3 s.heap TI (.ref i1) (.ref i2) (.ref i3))
    (h1 : s.heap.IsListIter i1 l1 k) (hl1 : s.heap.IsList l1 xs) (hend : xs[k]? = none)
    (hE : ∀ h' e, (∀ c o, c ≠ z → c ≠ i1 → s.heap.get? c = some o → h'.get? c = some o) → (∃ o, h'.get? e = some o ∧ o.cls = .type "StopIteration") → E (.ref e) { s with heap := h' }) :
    wpAny (model prog w) A (Builtin.«zip.__next__» ⟨[.ref z], []⟩) Q E s := by
  have cl := D.cells
  have ls := D.lists
  simp only [List.nodup_cons, List.mem_cons, List.not_mem_nil, or_false, not_or] at cl ls
  obtain ⟨⟨zTI, zTO, z1, z2, z3⟩, _⟩ := cl
  obtain ⟨a1, _⟩ := ls l1 (.inl rfl)
  show wpAny _ _ (field (.ref z) 2 >>= _) _ _ _
  refine wpAny_bind (wpAny_field hz rfl (x := .bool false) rfl ?_)
  show wpAny _ _ (field (.ref z) 3 >>= _) _ _ _
  refine wpAny_bind (wpAny_field hz rfl (x := .ref TI) rfl ?_)
  refine wpAny_bind (wpAny_seqItems hTI rfl ?_)
  show wpAny _ _ (Builtin.SmallTypes.ownedTupleIsFree (.ref z) >>= _) _ _ _
  refine wpAny_bind (wpAny_tupleHeld_zip hz hT fun h₁ hz₁ hs₁ => ?_)
  simp only [Bool.false_eq_true, if_false]
  refine wpAny_bind ?_
  rw [← Array.forIn_toList]
  simp only [List.forIn_cons, List.forIn_nil]
  refine wpAny_bind (wpAny_bind (wpAny_holding ?_))
  show wpAny _ _ (Builtin.SmallTypes.nextOf (.ref i1) >>= _) _ _ _
  refine wpAny_bind (wpAny_nextOf_list_end (s := { s with heap := h₁ }) hh (h1.extBut hs₁.extBut (Ne.symm z1)) (hl1.extBut hs₁.extBut a1) hend fun h₂ e hs₂ he => ?_)
  exact hE h₂ e (fun c o c1 c2 x => hs₂ _ _ c2 (hs₁.extBut _ _ c1 x)) he
/-- a zip over three lists of one length, k turns on -/
structure Z3 (z TI TO i1 i2 i3 l1 l2 l3 : Addr) (xs ys zs : Array Value) (k : Nat) (h : Heap) : Prop where
  zip : (k = 0 ∧ IsZip h z TI TO .none) ∨ ∃ T f oT, IsZipHeld h z TI TO T f ∧ h.get? T = some oT
  ti : IsTupOf3 h TI (.ref i1) (.ref i2) (.ref i3)
  to : ∃ a b c, IsTupOf3 h TO a b c
  i1 : h.IsListIter i1 l1 k
  i2 : h.IsListIter i2 l2 k
  i3 : h.IsListIter i3 l3 k
  l1 : h.IsList l1 xs
  l2 : h.IsList l2 ys
  l3 : h.IsList l3 zs
theorem Z3.ty {k : Nat} (Z : Z3 z TI TO i1 i2 i3 l1 l2 l3 xs ys zs k s.heap) : s.TypeIs (.ref z) "zip" := by
  rcases Z.zip with ⟨_, h⟩ | ⟨T, f, oT, h, _⟩
  · exact ⟨_, h, rfl⟩
  · exact ⟨_, h, rfl⟩
theorem Z3.frame {k : Nat} {h h' : Heap} (Z : Z3 z TI TO i1 i2 i3 l1 l2 l3 xs ys zs k h) {S : Addr} (nS : ∀ b ∈ [z, TI, TO, i1, i2, i3, l1, l2, l3], b ≠ S) (hk : ∀ b o, b ≠ S → h.get? b = some o → h'.get? b = some o) (hS : ∀ o, h.get? S = some o → ∃ o', h'.get? S = some o') : Z3 z TI TO i1 i2 i3 l1 l2 l3 xs ys zs k h' := by
  have n : ∀ b, b ∈ [z, TI, TO, i1, i2, i3, l1, l2, l3] → ∀ o, h.get? b = some o → h'.get? b = some o := fun b hb o e => hk b o (nS b hb) e
  refine ⟨?_, n TI (by simp) _ Z.ti, ?_, Z.i1.at fun o e => n i1 (by simp) o e, Z.i2.at fun o e => n i2 (by simp) o e, Z.i3.at fun o e => n i3 (by simp) o e, Z.l1.at fun o e => n l1 (by simp) o e, Z.l2.at fun o e => n l2 (by simp) o e, Z.l3.at fun o e => n l3 (by simp) o e⟩
  · rcases Z.zip with ⟨h0, e⟩ | ⟨T, f, oT, e, eT⟩
    · exact .inl ⟨h0, n z (by simp) _ e⟩
    · by_cases q : T = S
      · subst q
        obtain ⟨o', e'⟩ := hS _ eT
        exact .inr ⟨T, f, o', n z (by simp) _ e, e'⟩
      · exact .inr ⟨T, f, oT, n z (by simp) _ e, hk T _ q eT⟩
  · obtain ⟨a, b, c, e⟩ := Z.to
    exact ⟨a, b, c, n TO (by simp) _ e⟩
theorem Apart3.sep (D : Apart3 z TI TO i1 i2 i3 l1 l2 l3) : ZipSep3 z TI TO i1 i2 i3 [i1, l1] [i2, l2] [i3, l3] := by
  have cl := D.cells
  have ls := D.lists
  simp only [List.nodup_cons, List.mem_cons, List.not_mem_nil, or_false, not_or] at cl ls
  obtain ⟨⟨zTI, zTO, z1, z2, z3⟩, ⟨TITO, TI1, TI2, TI3⟩, ⟨TO1, TO2, TO3⟩, ⟨e12, e13⟩, e23, _⟩ := cl
  obtain ⟨a1, a2, a3, a4, a5, a6⟩ := ls l1 (.inl rfl)
  obtain ⟨b1, b2, b3, b4, b5, b6⟩ := ls l2 (.inr (.inl rfl))
  obtain ⟨c1, c2, c3, c4, c5, c6⟩ := ls l3 (.inr (.inr rfl))
  constructor <;> simp_all [Ne.symm, eq_comm]
theorem Z3.item (hh : A.handled = none) (D : Apart3 z TI TO i1 i2 i3 l1 l2 l3) (Z : Z3 z TI TO i1 i2 i3 l1 l2 l3 xs ys zs k s.heap) (hx : xs[k]? = some x) (hy : ys[k]? = some y) (hv : zs[k]? = some v) {Q : Option Value → Shared → Prop}
    (hQ : ∀ h' tk, Z3 z TI TO i1 i2 i3 l1 l2 l3 xs ys zs (k + 1) h' → IsTupOf3 h' s.heap.objs.size x y v →
      (∀ c o, c ∉ [z, TI, TO, i1, i2, i3] → s.heap.get? c = some o → h'.get? c = some o) → Q (some (.ref s.heap.objs.size)) { s with heap := h', toks := tk }) :
    wpAny (model prog w) A (pyNext (.ref z)) Q E s := by
  have hTy := Z.ty
  have ls := D.lists
  have cl := D.cells
  have notin : ∀ {l c : Addr}, l ∈ [l1, l2, l3] → l ∉ [z, TI, TO, i1, i2, i3] := fun h => ls _ h
  rcases Z.zip with ⟨h0, hz⟩ | ⟨T, f, oT, hz, hT⟩
  · obtain ⟨a, b, c, hTO⟩ := Z.to
    have d1 := Draws.list (prog := prog) (w := w) (A := A.in1) hh i1 l1 (fun e => ls l1 (by simp) (by simp [e])) xs
    have d2 := Draws.list (prog := prog) (w := w) (A := A.in1) hh i2 l2 (fun e => ls l2 (by simp) (by simp [e])) ys
    have d3 := Draws.list (prog := prog) (w := w) (A := A.in1) hh i3 l3 (fun e => ls l3 (by simp) (by simp [e])) zs
    refine wpAny_pyNext_zipD3_item D.sep d1 d2 d3 hz Z.ti hTO ⟨Z.i1, Z.l1⟩ ⟨Z.i2, Z.l2⟩ ⟨Z.i3, Z.l3⟩ (Array.getElem?_eq_some_iff.mp hx).1 (Array.getElem?_eq_some_iff.mp hy).1 (Array.getElem?_eq_some_iff.mp hv).1 fun x1 x2 x3 h' tk p1 p2 p3 q1 q2 q3 q4 q5 q6 q7 hk => ?_
    rw [hx] at p1
    rw [hy] at p2
    rw [hv] at p3
    cases p1
    cases p2
    cases p3
    have keep : ∀ c o, c ∉ [z, TI, TO, i1, i2, i3] → s.heap.get? c = some o → h'.get? c = some o := fun c o hc e => by
      simp only [List.mem_cons, List.not_mem_nil, or_false, not_or] at hc
      exact hk c o hc.1 hc.2.2.1 hc.2.2.2.1 hc.2.2.2.2.1 hc.2.2.2.2.2 e
    have S := D.sep
    exact hQ h' tk ⟨.inr ⟨_, false, _, q1, q6⟩, hk TI _ S.TIz S.TITO S.TIi1 S.TIi2 S.TIi3 Z.ti, ⟨_, _, _, q2⟩, q3.1, q4.1, q5.1, q3.2, q4.2, q5.2⟩ q6 keep
  · unfold pyNext
    refine wpAny_bind (wpAny_attempt (wpAny_callSpecial?_slot (name := Str.ofString "__next__") hTy F.slot_zip_next
      (wpAny_call_entry F.slot_zip_next hTy F.entry_zip_next
        (zip3_next_item_held D hz hT Z.ti Z.i1 Z.i2 Z.i3 Z.l1 Z.l2 Z.l3 hx hy hv fun h' q1 q2 q3 q4 q5 q6 hk => wpAny_pure ?_) (F.args_zip_next_1 _))))
    have keep : ∀ c o, c ∉ [z, TI, TO, i1, i2, i3] → s.heap.get? c = some o → h'.get? c = some o := fun c o hc e => by
      simp only [List.mem_cons, List.not_mem_nil, or_false, not_or] at hc
      exact hk c o hc.1 hc.2.2.2.1 hc.2.2.2.2.1 hc.2.2.2.2.2 e
    have S := D.sep
    obtain ⟨a, b, c, hTO⟩ := Z.to
    have kT : ∃ o, h'.get? T = some o := by
      by_cases eT : T = z
      · exact ⟨_, by rw [eT]; exact q1⟩
      · by_cases e1 : T = i1
        · obtain ⟨o, e, _⟩ := q2
          exact ⟨o, by rw [e1]; exact e⟩
        · by_cases e2 : T = i2
          · obtain ⟨o, e, _⟩ := q3
            exact ⟨o, by rw [e2]; exact e⟩
          · by_cases e3 : T = i3
            · obtain ⟨o, e, _⟩ := q4
              exact ⟨o, by rw [e3]; exact e⟩
            · exact ⟨_, hk T _ eT e1 e2 e3 hT⟩
    obtain ⟨o', eT'⟩ := kT
    have kl : ∀ l, l ∈ [l1, l2, l3] → ∀ o, s.heap.get? l = some o → h'.get? l = some o := fun l hl o e => keep l o (ls l hl) e
    exact hQ h' s.toks ⟨.inr ⟨T, true, o', q1, eT'⟩, hk TI _ S.TIz S.TIi1 S.TIi2 S.TIi3 Z.ti, ⟨a, b, c, hk TO _ S.TOz S.Ti1 S.Ti2 S.Ti3 hTO⟩, q2, q3, q4, Z.l1.at fun o e => kl l1 (by simp) o e, Z.l2.at fun o e => kl l2 (by simp) o e, Z.l3.at fun o e => kl l3 (by simp) o e⟩ q5 keep
theorem Z3.done (hh : A.handled = none) (D : Apart3 z TI TO i1 i2 i3 l1 l2 l3) (Z : Z3 z TI TO i1 i2 i3 l1 l2 l3 xs ys zs k s.heap) (hx : k = xs.size) (hy : k = ys.size) (hv : k = zs.size) {Q : Option Value → Shared → Prop}
    (hQ : ∀ h' tk, (∀ c o, c ∉ [z, TI, TO, i1, i2, i3] → s.heap.get? c = some o → h'.get? c = some o) → Q none { s with heap := h', toks := tk }) : wpAny (model prog w) A (pyNext (.ref z)) Q E s := by
  have hTy := Z.ty
  have ls := D.lists
  rcases Z.zip with ⟨h0, hz⟩ | ⟨T, f, oT, hz, hT⟩
  · obtain ⟨a, b, c, hTO⟩ := Z.to
    have d1 := Draws.list (prog := prog) (w := w) (A := A.in1) hh i1 l1 (fun e => ls l1 (by simp) (by simp [e])) xs
    have d2 := Draws.list (prog := prog) (w := w) (A := A.in1) hh i2 l2 (fun e => ls l2 (by simp) (by simp [e])) ys
    have d3 := Draws.list (prog := prog) (w := w) (A := A.in1) hh i3 l3 (fun e => ls l3 (by simp) (by simp [e])) zs
    refine wpAny_pyNext_zipD3_end D.sep d1 d2 d3 hz Z.ti hTO ⟨Z.i1, Z.l1⟩ ⟨Z.i2, Z.l2⟩ ⟨Z.i3, Z.l3⟩ (by omega) (by omega) (by omega) (.inl hx) fun h' tk hk => ?_
    refine hQ h' tk fun c o hc e => ?_
    simp only [List.mem_cons, List.not_mem_nil, or_false, not_or] at hc
    exact hk c o hc.1 hc.2.2.1 hc.2.2.2.1 hc.2.2.2.2.1 hc.2.2.2.2.2 e
  · unfold pyNext
    refine wpAny_bind (wpAny_attempt (wpAny_callSpecial?_slot (name := Str.ofString "__next__") hTy F.slot_zip_next
      (wpAny_call_entry F.slot_zip_next hTy F.entry_zip_next (zip3_next_end_held hh D hz hT Z.ti Z.i1 Z.l1 (by rw [hx]; exact Array.getElem?_eq_none (Nat.le_refl _)) fun h' e hk he => ?_) (F.args_zip_next_1 _))))
    obtain ⟨o, ho, hc⟩ := he
    refine wpAny_bind (wpAny_isInstance (T := "StopIteration") (b := true) ⟨o, ho, hc⟩ isSubtype_stop ?_)
    refine wpAny_pure (hQ _ s.toks fun c o hc e => ?_)
    simp only [List.mem_cons, List.not_mem_nil, or_false, not_or] at hc
    exact hk c o hc.1 hc.2.2.2.1 e
end
end PySem
set_option maxHeartbeats 4000000
/-! list(zip(a, b, c)) -/
namespace K1
open PySem L2 PySem.Spec PyProof.Rows
open Sem (wp)
/-- the tuples made so far -/
def Tups3 (H0 H : Hp) (vx vy vz : List V) (ts : List Addr) : Prop := ∀ (j : Nat) (T : Addr), ts[j]? = some T → H0 T = none ∧ ∃ x y z, vx[j]? = some x ∧ vy[j]? = some y ∧ vz[j]? = some z ∧ H T = some (.tup [x, y, z])
section
variable {X : Cx} {pins : List (Addr × Obj)} {σ : L2.St} {z TI TO i1 i2 i3 l1 l2 l3 S : Addr} {xs ys zs : Array Value} {vx vy vz : List V}
theorem loop3 {A : Around} {R : Result → Shared → Prop} {res : Value} {H0 : Hp} (hh : A.handled = none) (D : Apart3 z TI TO i1 i2 i3 l1 l2 l3) (rx : Vals vx xs.toList) (ry : Vals vy ys.toList) (rz : Vals vz zs.toList) (ey : xs.size = ys.size) (ez : xs.size = zs.size) (hn : xs.size ≤ 1000)
    (nS : ∀ b ∈ [z, TI, TO, i1, i2, i3, l1, l2, l3], b ≠ S) :
    ∀ (k i : Nat) (s : Shared) (H : Hp) (ts : List Addr), xs.size - i = k → i ≤ xs.size → Inv X pins σ H s → (∀ b ∈ [z, TI, TO, i1, i2, i3], FpOk X pins H b) → Z3 z TI TO i1 i2 i3 l1 l2 l3 xs ys zs i s.heap → H S = some (.lst (ts.map V.ref)) → ts.length = i →
      (∀ b u, H0 b = some u → H b = some u) → H0 S = none → Tups3 H0 H vx vy vz ts →
      (∀ H' s' ts', Inv X pins σ H' s' → (∀ b u, H0 b = some u → H' b = some u) → H' S = some (.lst (ts'.map V.ref)) → ts'.length = xs.size → Tups3 H0 H' vx vy vz ts' → R (.ok (.ret res)) s') →
      codeAny (model X.prog X.w) A (.builtin "list.extend.loop" ⟨[.ref S, .ref z, res], []⟩) R s := by
  intro k
  induction k with
  | zero =>
    intro i s H ts hk hi I hf Z hS hl s0 hS0 ht hR
    have hin : i = xs.size := by omega
    refine codeAny_builtin F.entry_extend_loop ?_
    rw [Around.under_plainId F.plain_extend_loop _]
    show wpAny _ A.in1 (pyNext (.ref z) >>= _) _ _ s
    refine wpAny_bind (Z.done (A := A.in1) hh D hin (by omega) (by omega) fun h' tk keep => ?_)
    have I' : Inv X pins σ H { s with heap := h', toks := tk } := I.turnedL (ch := [z, TI, TO, i1, i2, i3]) (fun b o hb e => keep b o hb e) hf
    exact wpAny_pure (hR H _ ts I' s0 hS (by omega) ht)
  | succ k ih =>
    intro i s H ts hk hi I hf Z hS hl s0 hS0 ht hR
    have hlt : i < xs.size := by omega
    have hx : xs[i]? = some xs[i] := Array.getElem?_eq_getElem hlt
    have hy : ys[i]? = some (ys[i]'(by omega)) := Array.getElem?_eq_getElem (by omega)
    have hz : zs[i]? = some (zs[i]'(by omega)) := Array.getElem?_eq_getElem (by omega)
    have hlx := rx.length
    have hly := ry.length
    have hlz := rz.length
    simp only [Array.length_toList] at hlx hly hlz
    have gx : vx[i]? = some (vx[i]'(by omega)) := List.getElem?_eq_getElem (by omega)
    have gy : vy[i]? = some (vy[i]'(by omega)) := List.getElem?_eq_getElem (by omega)
    have gz : vz[i]? = some (vz[i]'(by omega)) := List.getElem?_eq_getElem (by omega)
    obtain ⟨ux, hux, rux⟩ := rx.get gx
    obtain ⟨uy, huy, ruy⟩ := ry.get gy
    obtain ⟨uz, huz, ruz⟩ := rz.get gz
    rw [Array.getElem?_toList, hx] at hux
    rw [Array.getElem?_toList, hy] at huy
    rw [Array.getElem?_toList, hz] at huz
    generalize xs[i] = qx at hx hux
    generalize ys[i]'(by omega) = qy at hy huy
    generalize zs[i]'(by omega) = qz at hz huz
    cases hux
    cases huy
    cases huz
    generalize vx[i]'(by omega) = ax at gx rux
    generalize vy[i]'(by omega) = ay at gy ruy
    generalize vz[i]'(by omega) = az at gz ruz
    refine codeAny_builtin F.entry_extend_loop ?_
    rw [Around.under_plainId F.plain_extend_loop _]
    show wpAny _ A.in1 (pyNext (.ref z) >>= _) _ _ s
    refine wpAny_bind (Z.item (A := A.in1) hh D hx hy hz fun h' tk Z' hT keep => ?_)
    generalize eT : s.heap.objs.size = T at hT ⊢
    have nT : H T = none := I.hok.fresh (by omega)
    have new : ObjOk X.prog X.w (upd H T (.tup [ax, ay, az])) h' T (.tup [ax, ay, az]) :=
      ⟨by show 3 ≤ sizeLine; rw [sizeLine_eq]; decide, [ux, uy, uz], .cons rux (.cons ruy (.cons ruz .nil)), ⟨_, hT, rfl, _, rfl⟩⟩
    have I1 : Inv X pins σ (upd H T (.tup [ax, ay, az])) { s with heap := h', toks := tk } := I.turnedNew (ch := [z, TI, TO, i1, i2, i3]) (fun b o hb e => keep b o hb e) hf (by omega) new
    have ST : S ≠ T := ne_of_none hS nT
    have hS1 : (upd H T (.tup [ax, ay, az])) S = some (.lst (ts.map V.ref)) := by rw [upd_ne ST]; exact hS
    obtain ⟨its, n, r, ho, hsz⟩ := I1.lst hS1
    have hil := r.length
    rw [List.length_map, hl] at hil
    show wpAny _ A.in1 (updateSeq S (·.push (Value.ref T)) >>= _) _ _ _
    have ml : Obj.mapSeq (·.push (Value.ref T)) { cls := .type "list", data := .seq its.toArray n } = { cls := .type "list", data := .seq (its ++ [Value.ref T]).toArray ({ cls := .type "list", data := .seq its.toArray n : Obj }.mapSeq (·.push (Value.ref T)) |> fun o => match o.data with | .seq _ m => m | _ => 0) } := by
      simp [Obj.mapSeq]
    have r2 : Vals ((ts ++ [T]).map V.ref) (its ++ [Value.ref T]) := by
      rw [List.map_append]
      exact r.append (.cons rfl .nil)
    have I2 : Inv X pins σ (upd (upd H T (.tup [ax, ay, az])) S (.lst ((ts ++ [T]).map V.ref))) { s with heap := h'.update S (Obj.mapSeq (·.push (Value.ref T))), toks := tk } :=
      I1.lstUpd hS1 ho ml r2 (by rw [List.length_map, List.length_append, sizeLine_eq]; show ts.length + 1 ≤ _; omega) tk
    have cellsT : ∀ b ∈ [z, TI, TO, i1, i2, i3], b ≠ T := by
      intro b hb q
      have hlt : ∃ o, s.heap.get? b = some o := by
        simp only [List.mem_cons, List.not_mem_nil, or_false] at hb
        rcases hb with rfl | rfl | rfl | rfl | rfl | rfl
        · obtain ⟨o, e, _⟩ := Z.ty; exact ⟨o, e⟩
        · exact ⟨_, Z.ti⟩
        · obtain ⟨_, _, _, e⟩ := Z.to; exact ⟨_, e⟩
        · obtain ⟨o, e, _⟩ := Z.i1; exact ⟨o, e⟩
        · obtain ⟨o, e, _⟩ := Z.i2; exact ⟨o, e⟩
        · obtain ⟨o, e, _⟩ := Z.i3; exact ⟨o, e⟩
      obtain ⟨o, e⟩ := hlt
      have this := Heap.lt_size e
      rw [q, ← eT] at this
      exact Nat.lt_irrefl _ this
    have sub6 : ∀ b, b ∈ [z, TI, TO, i1, i2, i3] → b ∈ [z, TI, TO, i1, i2, i3, l1, l2, l3] := by
      intro b hb
      simp only [List.mem_cons, List.not_mem_nil, or_false] at hb ⊢
      rcases hb with h | h | h | h | h | h <;> simp [h]
    have hf2 : ∀ b ∈ [z, TI, TO, i1, i2, i3], FpOk X pins (upd (upd H T (.tup [ax, ay, az])) S (.lst ((ts ++ [T]).map V.ref))) b := fun b hb =>
      ⟨by rw [upd_ne (nS b (sub6 b hb)), upd_ne (cellsT b hb)]; exact (hf b hb).1, (hf b hb).2⟩
    have Z2 : Z3 z TI TO i1 i2 i3 l1 l2 l3 xs ys zs (i + 1) (h'.update S (Obj.mapSeq (·.push (Value.ref T)))) :=
      Z'.frame nS (fun b o hb e => (Heap.get?_update_other _ _ (Ne.symm hb)).trans e) fun o e => ⟨_, Heap.get?_update_self _ ho (by rw [ml]; rfl)⟩
    refine wpAny_bind ?_
    refine wpAny_updateSeq ho rfl (wpAny_pure ⟨plainId_quiet F.plain_extend_loop _, ih (i + 1) _ _ (ts ++ [T]) (by omega) hlt I2 hf2 Z2 upd_same (by rw [List.length_append]; show ts.length + 1 = _; omega) (fun b u e => ?_) hS0 (fun j U hj => ?_) hR⟩)
      (by rw [List.size_toArray, sizeLine_eq]; omega) (by rw [Array.size_push, List.size_toArray]; rw [sizeLine_eq]; omega)
    · have bS : b ≠ S := ne_of_none e hS0
      rw [upd_ne bS, upd_ne (ne_of_none (s0 b u e) nT)]
      exact s0 b u e
    · by_cases hj2 : j < ts.length
      · rw [List.getElem?_append_left hj2] at hj
        obtain ⟨q1, x, y, w, q2, q3, q4, q5⟩ := ht j U hj
        refine ⟨q1, x, y, w, q2, q3, q4, ?_⟩
        have US : U ≠ S := fun q => by rw [q, hS] at q5; cases q5
        rw [upd_ne US, upd_ne (ne_of_none q5 nT)]
        exact q5
      · have : j = ts.length ∧ U = T := by
          rw [List.getElem?_append_right (by omega)] at hj
          cases hq : j - ts.length with
          | zero =>
            rw [hq] at hj
            exact ⟨by omega, by cases hj; rfl⟩
          | succ m =>
            rw [hq] at hj
            cases hj
        obtain ⟨rfl, rfl⟩ := this
        refine ⟨?_, ax, ay, az, by rw [hl]; exact gx, by rw [hl]; exact gy, by rw [hl]; exact gz, by rw [upd_ne (Ne.symm ST), upd_same]⟩
        cases e : H0 U with
        | none => rfl
        | some u =>
          have := s0 U u e
          rw [nT] at this
          cases this
/-- what list(zip(a, b, c)) gives -/
def tListZip3 (K : PySem.W.Frag) (ta : TA) : TE := fun σ H Q => ta σ H fun vs H1 => ∃ a b c vx vy vz, vs = [.ref a, .ref b, .ref c] ∧ H1 a = some (.lst vx) ∧ H1 b = some (.lst vy) ∧ H1 c = some (.lst vz) ∧ vx.length = vy.length ∧ vx.length = vz.length ∧ vx.length ≤ 1000 ∧
  ∀ H2 S ts, Same H1 H2 → H1 S = none → H2 S = some (.lst (ts.map V.ref)) → ts.length = vx.length → Tups3 H1 H2 vx vy vz ts → Q (.ref S) H2
theorem pe_listZip3 {e1 e2 e3 : Expr} {ta : TA} {p1 p2 pos pos2 : Pos} (hg : Gl X "zip") (hm : X.mg "zip" = none) (hg2 : Gl X "list") (hm2 : X.mg "list" = none) (ha : PA X [e1, e2, e3] ta) (hc : X.calm = true := by rfl)
    (hs : starEach [e1, e2, e3] X.env = (false, eval e1 X.env) :: starEach [e2, e3] X.env := by rfl) (hpl : (backTo pos2 (starEach [e2, e3] X.env)).any (·.1) = false := by rfl)
    (na : starEach [Expr.Call (.Name "zip" p2) [e1, e2, e3] [] pos2] X.env = (false, eval (.Call (.Name "zip" p2) [e1, e2, e3] [] pos2) X.env) :: starEach [] X.env := by rfl) :
    PE X (.Call (.Name "list" p1) [.Call (.Name "zip" p2) [e1, e2, e3] [] pos2] [] pos) (tListZip3 X.K ta) := by
  refine ⟨fun pins s σ H Q I h => ?_⟩
  refine Call_ (ld_blt I hg2 hm2 boot_list (PyProof.Rows.callWith_type1 (args_cons ?_ na) na))
  refine Call_ (ld_blt I hg hm PyProof.Rows.boot_zip (PyProof.Rows.callWith_type1 (thn (ha.run pos2 pins s σ H _ I h) fun us s1 ⟨vs, H1, I1, r1, q1⟩ => ?_) hs hpl))
  obtain ⟨a, b, c, vx, vy, vz, ex, ga, gb, gc, ly, lz, hn, q⟩ := q1
  subst ex
  cases r1 with
  | cons ra r1 =>
  cases r1 with
  | cons rb r1 =>
  cases r1 with
  | cons rc r1 =>
  cases r1
  cases ra
  cases rb
  cases rc
  obtain ⟨xs, rx, p1, _⟩ := I1.list (SqL.of ga)
  obtain ⟨ys, ry, p2, _⟩ := I1.list (SqL.of gb)
  obtain ⟨zs, rz, p3, _⟩ := I1.list (SqL.of gc)
  have lx := rx.length
  have ly' := ry.length
  have lz' := rz.length
  generalize eN : s1.heap.objs.size = N
  have hN : ∀ k, N ≤ k → H1 k = none := fun k hk => I1.hok.fresh (by rw [eN]; exact hk)
  refine call_zip_3 (xs := xs.toArray) (ys := ys.toArray) (zs := zs.toArray) p1.isList p2.isList p3.isList fun h' hz hTI hTO h1 h2 h3 hsz hk => ?_
  rw [eN] at hz hTI hTO h1 h2 h3 hsz ⊢
  have I2 : Inv X pins σ H1 { s1 with heap := h' } := I1.kept (t' := s1.toks) hk
  refine args_nil ?_
  have ll : ∀ {l : Addr} {u : HO}, H1 l = some u → l < N := fun {l u} e => by
    by_cases q : N ≤ l
    · rw [hN l q] at e; cases e
    · exact Nat.lt_of_not_le q
  have la := ll ga
  have lb := ll gb
  have lc := ll gc
  have D : Apart3 (N + 5) (N + 3) (N + 4) N (N + 1) (N + 2) a b c := by
    refine ⟨by simp, fun l hl => ?_⟩
    have : l < N := by
      simp only [List.mem_cons, List.not_mem_nil, or_false] at hl
      rcases hl with rfl | rfl | rfl <;> assumption
    simp only [List.mem_cons, List.not_mem_nil, or_false, not_or]
    have up : ∀ k, l < N + k := fun k => Nat.lt_of_lt_of_le this (Nat.le_add_right _ _)
    exact ⟨Nat.ne_of_lt (up 5), Nat.ne_of_lt (up 3), Nat.ne_of_lt (up 4), Nat.ne_of_lt this, Nat.ne_of_lt (up 1), Nat.ne_of_lt (up 2)⟩
  have lists' : h'.IsList a xs.toArray ∧ h'.IsList b ys.toArray ∧ h'.IsList c zs.toArray := ⟨p1.isList.at fun o e => hk _ _ e, p2.isList.at fun o e => hk _ _ e, p3.isList.at fun o e => hk _ _ e⟩
  have Z : Z3 (N + 5) (N + 3) (N + 4) N (N + 1) (N + 2) a b c xs.toArray ys.toArray zs.toArray 0 h' := ⟨.inl ⟨rfl, hz⟩, hTI, ⟨_, _, _, hTO⟩, h1, h2, h3, lists'.1, lists'.2.1, lists'.2.2⟩
  have hh : X.A.handled = none := I.ok.hd hc
  have hH1 : ∀ k, N ≤ k → H1 k = none := hN
  generalize hz5 : N + 5 = z at *
  have fp : ∀ b ∈ [z, N + 3, N + 4, N, N + 1, N + 2], FpOk X pins H1 b := fun b hb => by
    have hle : N ≤ b := by
      simp only [List.mem_cons, List.not_mem_nil, or_false] at hb
      rcases hb with rfl | rfl | rfl | rfl | rfl | rfl
      · rw [← hz5]; exact Nat.le_add_right _ _
      · exact Nat.le_add_right _ _
      · exact Nat.le_add_right _ _
      · exact Nat.le_refl _
      · exact Nat.le_add_right _ _
      · exact Nat.le_add_right _ _
    exact I1.fpOk (by rw [eN]; exact hle) (hN b hle)
  -- the list
  refine callType_codes (s := { s1 with heap := h' }) (Q₁ := fun obj s₁ => obj = .ref h'.objs.size ∧ s₁ = { s1 with heap := h'.push { cls := .type "list", data := .seq #[] } }) F.called_list (F.typeCall_list_1 _) F.entry_list_init
    (code_list_new _ ⟨rfl, rfl⟩) fun obj s₁ hs₁ => ?_
  obtain ⟨rfl, rfl⟩ := hs₁
  generalize eS : h'.objs.size = S at *
  have hS : (h'.push { cls := .type "list", data := .seq #[] }).get? S = some { cls := .type "list", data := .seq #[] } := by rw [← eS]; exact Heap.get?_push_size _ rfl
  refine ⟨⟨_, hS, rfl⟩, F.args_list_init_2 _ _, ?_⟩
  have old : ∀ b o, h'.get? b = some o → b ≠ S := fun b o e => by rw [← eS]; exact Nat.ne_of_lt (Heap.lt_size e)
  show wpAny _ _ (do let old ← Builtin.List.listItems (.ref S); Builtin.List.listUpdate (.ref S) (fun _ => #[]); letGo old.toList.reverse; Builtin.List.listExtendWith (.ref S) (.ref z) .none) _ _ _
  refine wpAny_bind ?_
  unfold Builtin.List.listItems
  refine wpAny_bind (wpAny_seqItems hS rfl (wpAny_pure ?_))
  show wpAny _ _ (updateSeq S (fun _ => #[]) >>= fun _ => letGo (#[] : Array Value).toList.reverse >>= fun _ => Builtin.List.listExtendWith (.ref S) (.ref z) .none) _ _ _
  refine wpAny_bind (wpAny_updateSeq hS rfl ?_)
  have hS₂ := Heap.get?_update_self (Obj.mapSeq (fun _ => (#[] : Array Value))) hS rfl
  have oth : ∀ b o, b ≠ S → h'.get? b = some o → ((h'.push { cls := .type "list", data := .seq #[] }).update S (Obj.mapSeq (fun _ => (#[] : Array Value)))).get? b = some o :=
    fun b o hb e => (Heap.get?_update_other _ _ (Ne.symm hb)).trans (Heap.get?_push_of_some _ e)
  refine wpAny_bind (wpAny_letGo ?_)
  have hTz : (Shared.TypeIs { s1 with heap := (h'.push { cls := .type "list", data := .seq #[] }).update S (Obj.mapSeq (fun _ => (#[] : Array Value))) } (.ref z) "zip") := ⟨_, oth _ _ (old _ _ hz) hz, rfl⟩
  have hSz : S ≠ z := fun q => old _ _ hz q.symm
  generalize hg2 : (h'.push { cls := .type "list", data := .seq #[] }).update S (Obj.mapSeq (fun _ => (#[] : Array Value))) = k2 at *
  unfold Builtin.List.listExtendWith
  refine wpAny_bind (wpAny_typeOf hTz ?_)
  have q1' : Builtin.List.listSameRef (.ref S) (.ref z) = false := by simp [Builtin.List.listSameRef, hSz]
  have q2' : (Value.type "zip" == Value.type "list") = false := by decide
  have q3' : (Value.type "zip" == Value.type "tuple") = false := by decide
  simp only [q1', q2', q3', Bool.or_false, Bool.false_eq_true, if_false]
  refine wpAny_bind (wpAny_pyIter_zip (TI := N + 3) (TO := N + 4) (oth _ _ (old _ _ hz) hz) ?_)
  refine wpAny_bind (wpAny_holding ?_)
  unfold Builtin.List.listLengthHint
  refine wpAny_bind (wpAny_specialOf hTz F.zip_no_len ?_)
  show wpAny _ _ (specialOf (Value.ref z) (Str.ofString "__length_hint__") >>= _) _ _ _
  refine wpAny_bind (wpAny_specialOf hTz F.zip_no_hint ?_)
  refine wpAny_pure ?_
  show wpAny _ _ (rule "list.extend.makes-room" >>= fun _ => Builtin.List.listTouch (.ref S) >>= fun _ =>
    again (.builtin "list.extend.loop" ⟨[.ref S, .ref z, .none], []⟩)) _ _ _
  refine wpAny_bind (wpAny_rule ?_)
  refine wpAny_bind ?_
  show wpAny _ _ (updateSeq S (·.push .none) >>= fun _ => updateSeq S (·.pop)) _ _ _
  refine wpAny_bind (wpAny_updateSeq hS₂ rfl ?_)
  have hS₃ := Heap.get?_update_self (Obj.mapSeq (·.push Value.none)) hS₂ rfl
  refine wpAny_updateSeq (hz := by seq_fits) hS₃ rfl ?_
  have hS₄ := Heap.get?_update_self (Obj.mapSeq (·.pop)) hS₃ rfl
  have oth2 : ∀ b o, b ≠ S → h'.get? b = some o → ((k2.update S (Obj.mapSeq (·.push Value.none))).update S (Obj.mapSeq (·.pop))).get? b = some o :=
    fun b o hb e => (Heap.get?_update_other _ _ (Ne.symm hb)).trans ((Heap.get?_update_other _ _ (Ne.symm hb)).trans (oth b o hb e))
  generalize hg3 : (k2.update S (Obj.mapSeq (·.push Value.none))).update S (Obj.mapSeq (·.pop)) = k3 at *
  have keep3 : ∀ b o, h'.get? b = some o → k3.get? b = some o := fun b o e => oth2 b o (old b o e) e
  have nS0 : H1 S = none := hN S (by rw [hsz]; exact Nat.le_add_right _ _)
  have I3 : Inv X pins σ (upd H1 S (.lst [])) { s1 with heap := k3 } := by
    refine I2.laid (t' := s1.toks) keep3 (Nat.le_of_eq eS) ?_
    exact ⟨Nat.zero_le _, [], _, .nil, hS₄⟩
  have allz : ∀ x ∈ [z, N + 3, N + 4, N, N + 1, N + 2, a, b, c], x ≠ S := by
    intro x hb
    simp only [List.mem_cons, List.not_mem_nil, or_false] at hb
    rcases hb with rfl | rfl | rfl | rfl | rfl | rfl | rfl | rfl | rfl
    · exact Ne.symm hSz
    · exact old _ _ hTI
    · exact old _ _ hTO
    · obtain ⟨o, e, _⟩ := h1; exact old _ _ e
    · obtain ⟨o, e, _⟩ := h2; exact old _ _ e
    · obtain ⟨o, e, _⟩ := h3; exact old _ _ e
    · obtain ⟨o, e, _⟩ := lists'.1; exact old _ _ e
    · obtain ⟨o, e, _⟩ := lists'.2.1; exact old _ _ e
    · obtain ⟨o, e, _⟩ := lists'.2.2; exact old _ _ e
  have rx' : Vals vx xs.toArray.toList := by simpa using rx
  have ry' : Vals vy ys.toArray.toList := by simpa using ry
  have rz' : Vals vz zs.toArray.toList := by simpa using rz
  have sx : xs.toArray.size = vx.length := by rw [List.size_toArray, lx]
  have sy : ys.toArray.size = vy.length := by rw [List.size_toArray, ly']
  have sz : zs.toArray.size = vz.length := by rw [List.size_toArray, lz']
  have fp3 : ∀ x ∈ [z, N + 3, N + 4, N, N + 1, N + 2], FpOk X pins (upd H1 S (.lst [])) x := fun x hb => by
    have bS : x ≠ S := by
      refine allz x ?_
      simp only [List.mem_cons, List.not_mem_nil, or_false] at hb ⊢
      rcases hb with h | h | h | h | h | h <;> simp [h]
    exact ⟨by rw [upd_ne bS]; exact (fp x hb).1, (fp x hb).2⟩
  have Z0 : Z3 z (N + 3) (N + 4) N (N + 1) (N + 2) a b c xs.toArray ys.toArray zs.toArray 0 k3 := Z.frame allz (fun b o hb e => oth2 b o hb e) fun o e => absurd rfl (old _ _ e)
  refine wpAny_pure ⟨plainId_quiet F.plain_extend_loop _, loop3 (A := X.A.in1) (H0 := H1) hh D rx' ry' rz' (by omega) (by omega) (by omega) allz _ 0 _ _ [] rfl (Nat.zero_le _) I3 fp3 Z0 upd_same rfl (fun b u e => ?_) nS0 (fun j T hj => by cases hj) fun H' s' ts I4 s4 hS4 hl4 ht4 => ?_⟩
  · rw [upd_ne (ne_of_none e nS0)]
    exact e
  · refine ⟨rfl, .ref S, H', I4, rfl, q H' S ts s4 nS0 hS4 (by omega) ht4⟩
end
end K1
set_option maxHeartbeats 4000000
/-! spans_of, item_at -/
namespace K1
open PySem L2
def rowD (r : List Int × Int × Int) : PyData := .tuple [pathD r.1, .int r.2.1, .int r.2.2]
/-- the rows of a scan that has ended -/
structure RowsOf (S : Sc) (rs : List (List Int × Int × Int)) : Prop where
  p : S.paths = rs.map (·.1)
  f : S.firsts = rs.map (·.2.1)
  b : S.behinds = rs.map (·.2.2)
theorem DQs.of_idx {K : PySem.W.Frag} {H : Hp} : ∀ {vs : List V} {ds : List PyData}, vs.length = ds.length → (∀ (j : Nat) (v : V) (d : PyData), vs[j]? = some v → ds[j]? = some d → DQ K H v d) → DQs K H vs ds
  | [], [], _, _ => .nil
  | [], _ :: _, h, _ => by cases h
  | _ :: _, [], h, _ => by cases h
  | v :: vs, d :: ds, h, k => .cons (k 0 v d rfl rfl) (DQs.of_idx (Nat.succ.inj h) fun j v' d' e1 e2 => k (j + 1) v' d' e1 e2)
theorem same_made {H : Hp} {x dx : Addr} {o1 o2 : HO} (nx : H x = none) (nd : H dx = none) : Same H (hidS [x] (upd (upd H dx o1) x o2)) := fun b u e => by
  have hx : b ≠ x := ne_of_none e nx
  refine hidS_of (by simp [hx]) ?_
  rw [upd_ne hx, upd_ne (ne_of_none e nd)]
  exact e
def errPost (B : Addr) (H : Hp) (E : XK) (told : V) : Prop := ∀ H' d, Same H H' → H' d = some (.xd [("told", told)]) → E (.ref B) (some d) H'
def spanPost (K : PySem.W.Frag) (B : Addr) (H : Hp) (Q : VK) (E : XK) : Nat ⊕ Sc → Prop
  | .inl e => errPost B H E (natV e)
  | .inr S' => ∃ rs, RowsOf S' rs ∧ rs.length ≤ 1000 ∧ ∀ H' p vs, Same H H' → H p = none → H' p = some (.lst vs) → DQs K H' vs (rs.map rowD) → Q (.ref p) H'
def spSpansOf (K : PySem.W.Frag) (B : Addr) : Sp := fun vs H Q E => ∃ v, vs = [v] ∧ srcPost v (errPost B H E (natV 0)) (fun _ r => spanPost K B H Q E r)
/-- the row that holds the sign, the innermost one -/
def inRow (i : Int) (r : List Int × Int × Int) : Bool := decide (r.2.1 ≤ i) && decide (i < r.2.2)
def lastIn (rs : List (List Int × Int × Int)) (i : Int) : List Int := (((rs.filter (inRow i)).getLast?).map (·.1)).getD []
def itemPost (K : PySem.W.Frag) (B N : Addr) (H : Hp) (Q : VK) (E : XK) (z : Str) (ix : V) (d : PyData) : Nat ⊕ Sc → Prop
  | .inl e => errPost B H E (natV e)
  | .inr S' => ∃ rs, RowsOf S' rs ∧ rs.length ≤ 1000 ∧ (fromD 0 ((z.length : Int) - 1) d = false → errPost N H E ix) ∧ ∀ i, d = .int i → fromD 0 ((z.length : Int) - 1) d = true → ∀ H' u, Same H H' → DQ K H' u (pathD (lastIn rs i)) → Q u H'
def spItemAt (K : PySem.W.Frag) (B N : Addr) : Sp := fun vs H Q E => ∃ v ix d, vs = [v, ix] ∧ DQ K H ix d ∧ srcPost v (errPost B H E (natV 0)) (fun z r => itemPost K B N H Q E z ix d r)
section
variable {P : Program} {w : World} {K : PySem.W.Frag} {mg : Str → Option Value} {base : Heap}
theorem sc_spans : FnScope ["text", "scan"] ["text"] (defScope (top 24)) := ⟨rfl, rfl, rfl, by decide +kernel, rfl, by decide +kernel, by decide +kernel⟩
theorem cl_spans {C B fI : Addr} (T : All K mg) (W : ScC K mg C) (R : Er K mg "BadText" B fI) (hzip : mg "zip" = none) (hlist : mg "list" = none) : ClX P w K mg base 10 "spans_of" ["text"] (spSpansOf K B) := by
  obtain ⟨g, fd, D⟩ := T.dn 24 _ _ rfl
  obtain ⟨f0, fd0, F0, b0, M0⟩ := W.ini
  have G0 : FnOk P w K mg base (L2.CX P w) 8 f0 fd0 ["self", "text"] (spIniS K C B) := ok_inis F0 T W R
  refine D.clX (D.fn.okX sc_spans (fun vs H Q E h => ?_) (fun cdv A outer s H vs Q E hr h => ?_))
  · obtain ⟨v, rfl, _⟩ := h
    rfl
  · obtain ⟨v, rfl, hv⟩ := h
    refine ⟨_, (pss_cons (ps_set (i := 1) sc_spans.nd rfl (Or.inl rfl) (pe_makeS M0 G0 hr rfl W.mg b0 .nil (fun σ => passAt (takes_of rfl rfl rfl rfl) σ) (pa_cons (pv 0) pa_nil)))
      (pss_one (ps_ret (pe_listZip3 (by rfl) hzip (by rfl) hlist (pa_cons (pe_fld (pv 1) rfl) (pa_cons (pe_fld (pv 1) rfl) (pa_cons (pe_fld (pv 1) rfl) pa_nil))))))), ?_⟩
    refine ⟨_, rfl, fun x dx nx ndx ne => ⟨x, dx, v, rfl, upd_same, ?_⟩⟩
    have sm : Same H (hidS [x] (upd (upd H dx (.own x)) x (.ins C dx []))) := same_made nx ndx
    rcases hv with ⟨rfl, k⟩ | ⟨z, r, rfl, hz, hR, k⟩
    · exact .inl ⟨rfl, fun H' d s1 hd => k H' d (sm.trans s1) hd⟩
    · refine .inr ⟨z, r, rfl, hz, hR, ?_⟩
      cases r with
      | inl e => exact fun H' d s1 hd => k H' d (sm.trans s1) hd
      | inr S' =>
        obtain ⟨rs, hrs, hn, k⟩ := k
        intro H' a ea At s1
        refine ⟨rfl, ?_⟩
        subst ea
        obtain ⟨dx1, hob⟩ := At.ob
        obtain ⟨vs, g1, d1⟩ := At.l1
        have l1 : vs.length = rs.length := by rw [d1.len, List.length_map, hrs.p, List.length_map]
        refine ⟨_, rfl, a.p, C, dx1, _, _, rfl, hob, W.cl, W.n1, look1 _ _ _, _, rfl, a.p, C, dx1, _, _, rfl, hob, W.cl, W.n3, look3 _ _ _, _, rfl, a.p, C, dx1, _, _, rfl, hob, W.cl, W.n4, look4 _ _ _, a.a1, a.a3, a.a4, vs, _, _, rfl, g1, At.l3, At.l4, ?_, ?_, by omega, ?_⟩
        · rw [l1, List.length_map, hrs.f, List.length_map]
        · rw [l1, List.length_map, hrs.b, List.length_map]
        intro H2 S ts s2 nS hS hl ht
        have sH : Same H H' := sm.trans s1
        have nS0 : H S = none := by
          cases e : H S with
          | none => rfl
          | some u => rw [sH _ _ e] at nS; cases nS
        refine k H2 S _ (sH.trans s2) nS0 hS (DQs.of_idx (by rw [List.length_map, List.length_map]; omega) fun j v d ev ed => ?_)
        rw [List.getElem?_map] at ev ed
        cases et : ts[j]? with
        | none => rw [et] at ev; cases ev
        | some t =>
          rw [et] at ev
          cases ev
          cases er : rs[j]? with
          | none => rw [er] at ed; cases ed
          | some r =>
            rw [er] at ed
            cases ed
            obtain ⟨nt, vx, vy, vz, ex, ey, ez, et2⟩ := ht j t et
            rw [hrs.f, List.map_map, List.getElem?_map, er] at ey
            rw [hrs.b, List.map_map, List.getElem?_map, er] at ez
            cases ey
            cases ez
            obtain ⟨u, eu, du⟩ := d1.get (i := j) (d := pathD r.1) (by rw [hrs.p, List.map_map, List.getElem?_map, er]; rfl)
            rw [ex] at eu
            cases eu
            exact .tup (.inl (.inl et2)) (.cons (du.to ((hidS_in _ _).trans s2)) (.cons (.int _) (.cons (.int _) .nil)))
theorem sc_itemat : FnScope ["text", "index", "spans", "around", "path", "first", "behind"] ["text", "index"] (defScope (top 25)) := ⟨rfl, rfl, rfl, by decide +kernel, rfl, by decide +kernel, by decide +kernel⟩
theorem cl_itemat {C B N fI fN : Addr} (T : All K mg) (W : ScC K mg C) (R : Er K mg "BadText" B fI) (RN : Er K mg "NoIndex" N fN) (hzip : mg "zip" = none) (hlist : mg "list" = none) : ClX P w K mg base 11 "item_at" ["text", "index"] (spItemAt K B N) := by
  obtain ⟨g, fd, D⟩ := T.dn 25 _ _ rfl
  refine D.clX (D.fn.okX sc_itemat (fun vs H Q E h => ?_) (fun cdv A outer s H vs Q E hr h => ?_))
  · obtain ⟨v, ix, d, rfl, _⟩ := h
    rfl
  · obtain ⟨v, ix, d, rfl, hd, hv⟩ := h
    refine ⟨_, (pss_cons (ps_set (i := 2) sc_itemat.nd rfl (Or.inl rfl) (pe_clX (cl_spans T W R hzip hlist) hr (takes_of rfl rfl rfl rfl) (by decide) (pa_cons (pv 0) pa_nil)))
      (pss_cons (ps_if (pt_not (pt_val (pe_cl (cl_from T) hr (by decide) (pa_cons (pv 1) (pa_cons pe_int (pa_cons (pe_op op_sub (pe_callB call_len_str (by rfl) T.bi.len PySem.boot_len (pa_cons (pv 0) pa_nil)) pe_int) pa_nil)))))) (pss_one (ps_raise rfl (takes_of rfl rfl rfl rfl) (pmk_err RN hr (by decide) (pa_cons (pv 1) pa_nil)))) pss_nil)
      (pss_cons (ps_setLc (i := 3) (own := [("path", 4), ("first", 5), ("behind", 6)]) (g := (gTup K 3 (gCons (gName 4) (gCons (gName 5) (gCons (gName 6) gNil))))) (te := tVar 4) (tt := (tTest (tChain (rI0 fun i j => .bl (decide (i ≤ j))) (rI0 fun i j => .bl (decide (i < j))) (tVar 5) (tVar 1) (tVar 6)))) rfl sc_itemat.nd rfl rfl (sw_true rfl rfl rfl (by decide +kernel)) (pi_list (pv 2)) (blkOk_by (own := [("path", 4), ("first", 5), ("behind", 6)]) (N := ["text", "index", "spans", "around", "path", "first", "behind"]) (sc := defScope (top 25)) (by decide +kernel)) (fun _ _ _ _ _ => (pg_tup rfl (pgs_cons (pg_name (i := 4) sc_itemat.nd rfl (Or.inl rfl)) (pgs_cons (pg_name (i := 5) sc_itemat.nd rfl (Or.inl rfl)) (pgs_cons (pg_name (i := 6) sc_itemat.nd rfl (Or.inl rfl)) pgs_nil))))) (fun _ _ _ _ _ => pts_one (pt_chain op_le op_lt (pv 5) (pv 1) (pv 6))) (fun _ _ _ _ _ => (pv 4)))
      (pss_one (ps_ret (pe_ifExp (pt_truth (pv 3) (by intro _; rfl)) (pe_ix ix_list (pv 3) (pe_un un_neg pe_int) (fun _ _ => rfl)) (pe_tup pa_nil))))))), ?_⟩
    refine ⟨_, rfl, v, rfl, ?_⟩
    rcases hv with ⟨rfl, k⟩ | ⟨z, r, rfl, hz, hR, k⟩
    · exact .inl ⟨rfl, k⟩
    · refine .inr ⟨z, r, rfl, hz, hR, ?_⟩
      cases r with
      | inl e => exact k
      | inr S' =>
        obtain ⟨rs, hrs, hn, kN, kQ⟩ := k
        refine ⟨rs, hrs, hn, fun H1 p vs s1 np hp dv => ?_⟩
        have hd1 := hd.to s1
        refine ⟨_, rfl, _, rfl, z, rfl, sizeL hz, _, _, rfl, rfl, ix, d, _, _, rfl, hd1, fun H2 s2 => ⟨_, rfl, ?_⟩⟩
        cases ef : fromD 0 ((z.length : Int) - 1) d with
        | false => exact iteT ⟨_, rfl, ix, rfl, fun H3 dd s3 h3 => kN ef H3 dd ((s1.trans s2).trans s3) h3⟩
        | true =>
          obtain ⟨i, rfl⟩ : ∃ i, d = .int i := by
            cases d with
            | int i => exact ⟨i, rfl⟩
            | _ => cases ef
          obtain rfl : ix = .int i := by cases hd; rfl
          refine iteF ⟨_, rfl, p, rfl, ⟨_, SqL.of (s2 _ _ hp)⟩, fun L nL => ?_⟩
          have dv2 := dv.to s2
          have lv := dv2.len
          rw [List.length_map] at lv
          refine lc_list (K := K) (a := p) (xs := vs) (fun j H' => j ≤ vs.length ∧ Same H2 H' ∧ ∃ acc, H' L = some (.lst acc) ∧ DQs K H2 acc (((rs.take j).filter (inRow i)).map fun r => pathD r.1)) ⟨Nat.zero_le _, K0.same_upd nL, [], upd_same, .nil⟩ (fun j H' _ ⟨_, s, _⟩ => s.seq (SqL.of (s2 _ _ hp))) ?_ ?_
          · rintro j x H' hx ⟨hj, s3, acc, hacc, da⟩
            have hlt := (List.getElem?_eq_some_iff.mp hx).1
            have er : rs[j]? = some rs[j] := List.getElem?_eq_getElem (by omega)
            obtain ⟨u, eu, du⟩ := dv2.get (i := j) (d := rowD rs[j]) (by rw [List.getElem?_map, er]; rfl)
            rw [hx] at eu
            cases eu
            generalize hrr : rs[j] = rr at *
            have tk : rs.take (j + 1) = rs.take j ++ [rr] := by rw [List.take_succ, er]; rfl
            obtain ⟨ta, txs, rfl, hT, hds⟩ : ∃ ta txs, x = .ref ta ∧ SqT K H2 ta txs ∧ DQs K H2 txs [pathD rr.1, .int rr.2.1, .int rr.2.2] := by
              cases du with
              | tup h1 h2 => exact ⟨_, _, rfl, h1, h2⟩
            cases hds with
            | @cons u1 _ _ _ d1 hds =>
            cases hds with
            | cons d2 hds =>
            cases hds with
            | cons d3 hds =>
            cases hds
            cases d2
            cases d3
            refine ⟨ta, _, rfl, K0.seqT_same s3 hT, rfl, _, _, rfl, _, _, rfl, _, _, rfl, rfl, rfl, ?_⟩
            have lacc : acc.length ≤ j := by
              rw [da.len, List.length_map]
              exact Nat.le_trans (List.length_filter_le _ _) (by rw [List.length_take]; omega)
            refine ⟨_, rfl, _, rfl, _, _, rfl, rfl, _, rfl, ?_⟩
            have done : inRow i rr = false → j + 1 ≤ vs.length ∧ Same H2 H' ∧ ∃ acc, H' L = some (.lst acc) ∧ DQs K H2 acc (((rs.take (j + 1)).filter (inRow i)).map fun r => pathD r.1) := fun e => by
              refine ⟨hlt, s3, acc, hacc, ?_⟩
              rw [tk, List.filter_append, List.filter_cons_of_neg (by rw [e]; exact Bool.false_ne_true), List.filter_nil, List.append_nil]
              exact da
            by_cases c1 : rr.2.1 ≤ i
            · rw [decide_eq_true c1]
              refine iteT ⟨_, rfl, _, _, rfl, rfl, _, rfl, ?_⟩
              by_cases c2 : i < rr.2.2
              · rw [decide_eq_true c2]
                have e : inRow i rr = true := by unfold inRow; rw [decide_eq_true c1, decide_eq_true c2]; rfl
                refine iteT ⟨_, rfl, acc, hacc, by rw [sizeLine_eq]; omega, hlt, K0.same_over s3 nL, _, upd_same, ?_⟩
                rw [tk, List.filter_append, List.filter_cons_of_pos e, List.filter_nil, List.map_append]
                exact da.app (.cons d1 .nil)
              · rw [decide_eq_false c2]
                refine iteF (done ?_)
                unfold inRow
                rw [decide_eq_false c2, Bool.and_false]
            · rw [decide_eq_false c1]
              refine iteF ⟨_, rfl, iteF (done ?_)⟩
              unfold inRow
              rw [decide_eq_false c1, Bool.false_and]
          · rintro H' ⟨_, s3, acc, hacc, da⟩
            rw [lv, List.take_length] at da
            have sAll := (s1.trans s2).trans s3
            refine ⟨_, rfl, _, .inl ⟨_, SqL.of hacc, rfl⟩, ?_⟩
            have la := da.len
            rw [List.length_map] at la
            cases eL : (rs.filter (inRow i)).getLast? with
            | none =>
              have e0 := List.getLast?_eq_none_iff.mp eL
              rw [e0] at la
              have ea : acc = [] := List.length_eq_zero_iff.mp la
              rw [ea]
              refine iteF ⟨Nat.zero_le _, fun t nt => kQ i rfl ef _ _ (sAll.trans (K0.same_upd nt)) ?_⟩
              have : lastIn rs i = [] := by unfold lastIn; rw [eL]; rfl
              rw [this]
              exact .tup (.inl (.inl upd_same)) .nil
            | some rr =>
              have ne : rs.filter (inRow i) ≠ [] := fun e => by rw [e] at eL; cases eL
              have n1 : acc.isEmpty = false := by
                cases acc with
                | nil => exact absurd (List.length_eq_zero_iff.mp la.symm) ne
                | cons _ _ => rfl
              rw [n1]
              have hlast : (rs.filter (inRow i))[(rs.filter (inRow i)).length - 1]? = some rr := by rw [← List.getLast?_eq_getElem?]; exact eL
              obtain ⟨u, eu, du⟩ := da.get (i := (rs.filter (inRow i)).length - 1) (d := pathD rr.1) (by rw [List.getElem?_map, hlast]; rfl)
              have eu2 : acc.getLast? = some u := by rw [List.getLast?_eq_getElem?, la]; exact eu
              have lf := List.length_filter_le (inRow i) rs
              refine iteT ⟨_, rfl, _, rfl, L, acc, _, u, rfl, rfl, SqL.of hacc, atI_end eu2 (by omega), kQ i rfl ef _ _ sAll ?_⟩
              have : lastIn rs i = rr.1 := by unfold lastIn; rw [eL]; rfl
              rw [this]
              exact du.to s3
end
end K1
set_option maxHeartbeats 4000000
/-! the items that are drawn -/
namespace K1
open PySem L2
def nameC : List (List Nat) := [[97], [98], [97, 98], [120, 49], [98, 49, 50], [122, 122, 122, 122], [113, 57, 57]]
def nameV : List V := [.str "a", .str "b", .str "ab", .str "x1", .str "b12", .str "zzzz", .str "q99"]
def nameD' : List PyData := nameC.map fun w => .str (sO w)
theorem nameV_eq : nameV = nameC.map fun w => V.str (sO w) := by decide +kernel
theorem delim_fig {rest : List Nat} (d : Delim rest) : sgM isFig rest = false := by
  rcases d with rfl | ⟨r, rfl⟩ | ⟨r, rfl⟩ <;> rfl
theorem delim2 {rest : List Nat} (d : Delim2 rest) : Delim rest := by
  rcases d with ⟨c, r, rfl, _⟩ | ⟨r, rfl⟩
  · exact .inr (.inl ⟨_, rfl⟩)
  · exact .inr (.inr ⟨_, rfl⟩)
theorem br_of {S : List Nat} (h1 : sgM (fun c => c == 43) S = false) (h2 : sgM (fun c => c == 42) S = false) (h3 : (S.drop (wE S)).take 2 ≠ [32, 61]) : brM S = ([.str "block"], 1) := by
  unfold brM
  rw [h1, h2, if_neg Bool.false_ne_true, if_neg Bool.false_ne_true, if_neg (fun q => h3 q.2)]
theorem leaf_use (w : List Nat) (h : w ∈ nameC) : LeafOk [.str "use", .str (sO w)] w := by
  unfold nameC at h
  simp only [List.mem_cons, List.not_mem_nil, or_false] at h
  rcases h with rfl | rfl | rfl | rfl | rfl | rfl | rfl
  all_goals
    refine ⟨fun rest d => ?_, fun rest d => ?_, by decide +kernel, ⟨_, _, rfl, by decide, by decide, by decide⟩⟩
    · rcases d with rfl | ⟨r, rfl⟩ | ⟨r, rfl⟩ <;> rfl
    · rcases d with ⟨c, r, rfl, hc⟩ | ⟨r, rfl⟩
      · exact br_of rfl rfl (fun h => hc (List.cons.inj (List.cons.inj (show [32, c] = [32, 61] from h)).2).1)
      · rfl
theorem leaf_lost : LeafOk [.str "lost"] [63] := ⟨fun rest d => rfl, fun rest d => rfl, by decide +kernel, ⟨63, [], rfl, by decide, by decide, by decide⟩⟩
def numC (m : Nat) : List Nat := if m < 10 then [48 + m] else [48 + m / 10, 48 + m % 10]
theorem num_text : ∀ m : Fin 100, Str.ofString (toString ((m.val : Nat) : Int)) = sO (numC m.val) := by decide +kernel
theorem br_num {c : Nat} {t : List Nat} (h : isFig c = true) : brM (c :: t) = ([.str "block"], 1) := by
  have hl : isLet c = false := by
    unfold isFig at h
    unfold isLet
    simp only [Bool.and_eq_true, decide_eq_true_eq] at h
    rw [decide_eq_false (by omega)]
    rfl
  have w0 : wE (c :: t) = 0 := by
    have e : lE 4 (c :: t) = 0 := by
      show (if isLet c = true then _ else 0) = 0
      rw [hl]
      rfl
    unfold wE
    rw [if_pos e]
  unfold isFig at h
  simp only [Bool.and_eq_true, decide_eq_true_eq] at h
  have n1 : sgM (fun d => d == 43) (c :: t) = false := by show (c == 43) = false; simp; omega
  have n2 : sgM (fun d => d == 42) (c :: t) = false := by show (c == 42) = false; simp; omega
  unfold brM
  rw [n1, n2, w0, if_neg Bool.false_ne_true, if_neg Bool.false_ne_true, if_neg (fun q => Nat.lt_irrefl _ q.1)]
theorem hd_num {c : Nat} {t : List Nat} {n : Nat} (h : isFig c = true) (hn : nE (c :: t) = n) (h0 : 0 < n) : hdM (c :: t) = some ([.str "number", .int (numL ((c :: t).take n))], n) := by
  have hl : isLet c = false := by
    unfold isFig at h
    unfold isLet
    simp only [Bool.and_eq_true, decide_eq_true_eq] at h
    rw [decide_eq_false (by omega)]
    rfl
  have w0 : wE (c :: t) = 0 := by
    have e : lE 4 (c :: t) = 0 := by
      show (if isLet c = true then _ else 0) = 0
      rw [hl]
      rfl
    unfold wE
    rw [if_pos e]
  unfold isFig at h
  simp only [Bool.and_eq_true, decide_eq_true_eq] at h
  have n1 : sgM (fun d => d == 40) (c :: t) = false := by show (c == 40) = false; simp; omega
  have n2 : sgM (fun d => d == 63) (c :: t) = false := by show (c == 63) = false; simp; omega
  unfold hdM
  rw [n1, n2, w0, hn, if_neg Bool.false_ne_true, if_neg Bool.false_ne_true, if_neg (Nat.lt_irrefl _), if_pos h0]
theorem hold_num (y : PyData) : holdH [.str "number", y] = false := by
  show ((("number" : Str) == "block" || ("number" : Str) == "let" || ("number" : Str) == "sum" || ("number" : Str) == "product")) = false
  decide +kernel
theorem leaf_num (m : Nat) (hm : m < 100) : LeafOk [.str "number", .int (m : Int)] (numC m) := by
  unfold numC
  by_cases h : m < 10
  · rw [if_pos h]
    have hf : isFig (48 + m) = true := by unfold isFig; simp; omega
    refine ⟨fun rest d => ?_, fun rest d => br_num hf, hold_num _, ⟨_, _, rfl, by omega, by omega, by omega⟩⟩
    have hn : nE ([48 + m] ++ rest) = 1 := by
      unfold nE
      by_cases h0 : m = 0
      · rw [if_pos (by show (48 + m == 48) = true; rw [h0]; rfl)]
      · rw [if_neg (by show ¬ (48 + m == 48) = true; simp; omega)]
        unfold pE
        rw [if_pos (by show isFst (48 + m) = true; unfold isFst; simp; omega), if_neg]
        have : ([48 + m] ++ rest).drop 1 = rest := rfl
        rw [this, delim_fig d]
        exact Bool.false_ne_true
    have e := hd_num (t := rest) hf hn (by decide)
    show hdM ((48 + m) :: rest) = _
    rw [e]
    have z : numL (((48 + m) :: rest).take 1) = (m : Int) := by
      show 10 * 0 + (((48 + m : Nat) : Int) - 48) = (m : Int)
      omega
    rw [z]
    rfl
  · rw [if_neg h]
    have hf : isFig (48 + m / 10) = true := by unfold isFig; simp; omega
    refine ⟨fun rest d => ?_, fun rest d => br_num hf, hold_num _, ⟨_, _, rfl, by omega, by omega, by omega⟩⟩
    have hn : nE ([48 + m / 10, 48 + m % 10] ++ rest) = 2 := by
      unfold nE
      rw [if_neg (by show ¬ (48 + m / 10 == 48) = true; simp; omega)]
      unfold pE
      rw [if_pos (by show isFst (48 + m / 10) = true; unfold isFst; simp; omega), if_pos (by show isFig (48 + m % 10) = true; unfold isFig; simp; omega)]
    have e := hd_num (t := (48 + m % 10) :: rest) hf hn (by decide)
    show hdM ((48 + m / 10) :: (48 + m % 10) :: rest) = _
    rw [e]
    have z : numL (((48 + m / 10) :: (48 + m % 10) :: rest).take 2) = (m : Int) := by
      show 10 * (10 * 0 + (((48 + m / 10 : Nat) : Int) - 48)) + (((48 + m % 10 : Nat) : Int) - 48) = (m : Int)
      omega
    rw [z]
    rfl
theorem node_let (w : List Nat) (h : w ∈ nameC) : NodeOk [.str "let", .str (sO w)] (40 :: (w ++ [32, 61])) false := by
  unfold nameC at h
  simp only [List.mem_cons, List.not_mem_nil, or_false] at h
  rcases h with rfl | rfl | rfl | rfl | rfl | rfl | rfl
  all_goals exact .other (fun rest => rfl) (by decide +kernel) rfl ⟨_, rfl⟩
theorem node_sum : NodeOk [.str "sum"] [40, 43] false := .other (fun rest => rfl) (by decide +kernel) (by decide +kernel) ⟨_, rfl⟩
theorem node_product : NodeOk [.str "product"] [40, 42] false := .other (fun rest => rfl) (by decide +kernel) (by decide +kernel) ⟨_, rfl⟩
/-! ### how large they are -/
def wB : Nat → Nat
  | 0 => 4
  | n + 1 => 8 + 3 * (wB n + 1)
end K1
set_option maxHeartbeats 4000000
/-! drawn items: their sizes; data that no list of the heap is part of -/
namespace K1
open PySem L2
mutual
inductive Flat : PyData → Prop
  | non : Flat .none
  | bl (b : Bool) : Flat (.bool b)
  | int (i : Int) : Flat (.int i)
  | str (x : Str) : Flat (.str x)
  | tup {ds : List PyData} : Flats ds → Flat (.tuple ds)
inductive Flats : List PyData → Prop
  | nil : Flats []
  | cons {d : PyData} {ds : List PyData} : Flat d → Flats ds → Flats (d :: ds)
end
theorem Flats.of : ∀ {ds : List PyData}, (∀ d ∈ ds, Flat d) → Flats ds
  | [], _ => .nil
  | d :: ds, h => .cons (h d List.mem_cons_self) (Flats.of fun e he => h e (List.mem_cons_of_mem _ he))
theorem hideT {K : PySem.W.Frag} {H : Hp} {a b : Addr} {us xs : List V} (ha : H a = some (.lst us)) (h : SqT K H b xs) : SqT K (hid a H) b xs := by
  rcases h with (h | ⟨o, h⟩) | h
  · refine .inl (.inl ?_)
    rw [hid_ne (fun z => by rw [z, ha] at h; cases h)]
    exact h
  · refine .inl (.inr ⟨o, ?_⟩)
    rw [hid_ne (fun z => by rw [z, ha] at h; cases h)]
    exact h
  · exact .inr h
mutual
theorem Flat.hide {K : PySem.W.Frag} {H : Hp} {a : Addr} {us : List V} (ha : H a = some (.lst us)) : ∀ (d : PyData) (v : V), Flat d → DQ K H v d → DQ K (hid a H) v d
  | .none, _, _, h => by
    cases h
    exact .non
  | .bool b, _, _, h => by
    cases h
    exact .bl b
  | .int i, _, _, h => by
    cases h
    exact .int i
  | .str x, _, _, h => by
    cases h with
    | str _ h => exact .str x h
  | .list ds, _, f, _ => by cases f
  | .tuple ds, _, f, h => by
    cases f with
    | tup f =>
      cases h with
      | tup h1 h2 => exact .tup (hideT ha h1) (Flats.hide ha ds _ f h2)
  | .dict ps, _, f, _ => by cases f
theorem Flats.hide {K : PySem.W.Frag} {H : Hp} {a : Addr} {us : List V} (ha : H a = some (.lst us)) : ∀ (ds : List PyData) (vs : List V), Flats ds → DQs K H vs ds → DQs K (hid a H) vs ds
  | [], _, _, h => by
    cases h
    exact .nil
  | d :: ds, _, f, h => by
    cases f with
    | cons f1 f2 =>
      cases h with
      | cons h1 h2 => exact .cons (Flat.hide ha d _ f1 h1) (Flats.hide ha ds _ f2 h2)
end
/-- held against an empty one -/
def rEqE (K : PySem.W.Frag) : R2 := fun x y H Q => ∃ a b xs, x = .ref a ∧ y = .ref b ∧ ((SqL K H a xs ∧ SqL K H b []) ∨ (SqT K H a xs ∧ SqT K H b [])) ∧ Q (.bl xs.isEmpty) H
theorem op_eqE {X : Cx} (hu : X.A.units + 64 < cLine) : OpR X (compareOp .Eq) (rEqE X.K) := by
  intro pins s σ H x y v u Q I rx ry h
  obtain ⟨a, b, xs, rfl, rfl, h, q⟩ := h
  cases rx
  cases ry
  rcases h with ⟨h1, h2⟩ | ⟨h1, h2⟩
  · obtain ⟨us, r1, p1, _⟩ := I.list h1
    obtain ⟨ws, r2, p2, _⟩ := I.list h2
    cases r2
    cases r1 with
    | nil => exact SeqAt.eq_listAt (e := fun _ => true) p1.isList p2.isList rfl (by omega) (fun j h1 h2 => absurd h2 (Nat.not_lt_zero j)) ⟨.bl true, H, I, rfl, q⟩
    | cons r1 rs => exact SeqAt.eq_list_lengthsAt p1.isList p2.isList (by simp) (by omega) ⟨.bl false, H, I, rfl, q⟩
  · obtain ⟨us, r1, p1, _⟩ := I.tuple h1
    obtain ⟨ws, r2, p2, _⟩ := I.tuple h2
    cases r2
    refine SeqAt.eq_tupleAt (e := fun _ => true) p1 p2 (by omega) (fun j h1 h2 => absurd h2 (Nat.not_lt_zero j)) ⟨.bl xs.isEmpty, H, I, ?_, q⟩
    cases r1 with
    | nil => rfl
    | cons r1 rs => show Value.bool _ = Value.bool false; simp
def rNeE (K : PySem.W.Frag) : R2 := fun x y H Q => ∃ a b xs, x = .ref a ∧ y = .ref b ∧ SqL K H a xs ∧ SqL K H b [] ∧ Q (.bl !xs.isEmpty) H
theorem op_neE {X : Cx} (hu : X.A.units + 64 < cLine) : OpR X (compareOp .NotEq) (rNeE X.K) := by
  intro pins s σ H x y v u Q I rx ry h
  obtain ⟨a, b, xs, rfl, rfl, h1, h2, q⟩ := h
  cases rx
  cases ry
  obtain ⟨us, r1, p1, _⟩ := I.list h1
  obtain ⟨ws, r2, p2, _⟩ := I.list h2
  cases r2
  cases r1 with
  | nil => exact SeqAt.RcNeAt.lists (e := fun _ => true) p1.isList p2.isList rfl (by omega) (fun j h1 h2 => absurd h2 (Nat.not_lt_zero j)) _ _ _ _ ⟨.bl false, H, I, rfl, q⟩
  | cons r1 rs => exact SeqAt.RcNeAt.lists_lengths p1.isList p2.isList (by simp) (by omega) _ _ _ _ ⟨.bl true, H, I, rfl, q⟩
/-- a leaf as it is drawn -/
inductive LfK : List PyData → List Nat → Prop
  | num (m : Nat) (h : m < 100) : LfK [.str "number", .int (m : Int)] (numC m)
  | lost : LfK [.str "lost"] [63]
  | use (w : List Nat) (h : w ∈ nameC) : LfK [.str "use", .str (sO w)] w
inductive NdK : List PyData → List Nat → Bool → Prop
  | block : NdK [.str "block"] [40] true
  | sum : NdK [.str "sum"] [40, 43] false
  | product : NdK [.str "product"] [40, 42] false
  | let_ (w : List Nat) (h : w ∈ nameC) : NdK [.str "let", .str (sO w)] (40 :: (w ++ [32, 61])) false
inductive Dr : Nat → It → Prop
  | leaf {n : Nat} {h : List PyData} {w : List Nat} (k : LfK h w) : Dr n (.leaf h w)
  | node {n : Nat} {h : List PyData} {o : List Nat} {b : Bool} {l : List It} (k : NdK h o b) (hl : l.length ≤ 3) (hc : ∀ x ∈ l, Dr n x) : Dr (n + 1) (.node h o b l)
theorem LfK.ok {h : List PyData} {w : List Nat} (k : LfK h w) : LeafOk h w := by
  cases k with
  | num m h => exact leaf_num m h
  | lost => exact leaf_lost
  | use w h => exact leaf_use w h
theorem NdK.ok {h : List PyData} {o : List Nat} {b : Bool} (k : NdK h o b) : NodeOk h o b := by
  cases k with
  | block => exact .block
  | sum => exact node_sum
  | product => exact node_product
  | let_ w h => exact node_let w h
theorem Dr.gd {n : Nat} {x : It} (d : Dr n x) : Gd n x := by
  induction d with
  | leaf k => exact .leaf k.ok
  | node k hl _ ih => exact .node k.ok hl ih
theorem name_len {w : List Nat} (h : w ∈ nameC) : 1 ≤ w.length ∧ w.length ≤ 4 ∧ ∀ c ∈ w, c < 200 := by
  unfold nameC at h
  simp only [List.mem_cons, List.not_mem_nil, or_false] at h
  rcases h with rfl | rfl | rfl | rfl | rfl | rfl | rfl <;> decide
theorem LfK.len {h : List PyData} {w : List Nat} (k : LfK h w) : w.length ≤ 4 := by
  cases k with
  | num m h => unfold numC; split <;> simp
  | lost => decide
  | use w h => exact (name_len h).2.1
theorem NdK.len {h : List PyData} {o : List Nat} {b : Bool} (k : NdK h o b) : o.length ≤ 7 := by
  cases k with
  | block => decide
  | sum => decide
  | product => decide
  | let_ w h =>
    have := (name_len h).2.1
    simp only [List.length_cons, List.length_append, List.length_nil]
    omega
theorem gapped_len {B : Nat} : ∀ {l : List It}, (∀ x ∈ l, x.word.length ≤ B) → (gapped l).length ≤ l.length * (B + 1)
  | [], _ => by rw [gapped]; exact Nat.zero_le _
  | x :: r, h => by
    have h1 := h x List.mem_cons_self
    have h2 := gapped_len (B := B) (l := r) fun y hy => h y (List.mem_cons_of_mem _ hy)
    rw [gapped, List.length_cons, List.length_append, List.length_cons, Nat.succ_mul]
    omega
theorem Dr.len {n : Nat} {x : It} (d : Dr n x) : x.word.length ≤ wB n := by
  induction d with
  | @leaf n h w k =>
    rw [It.word]
    have := k.len
    cases n with
    | zero => exact this
    | succ n => show _ ≤ 8 + 3 * (wB n + 1); omega
  | @node n h o b l k hl _ ih =>
    rw [word_node]
    have h1 := gapped_len ih
    have h2 := k.len
    have h3 : (if b = true then (gapped l).drop 1 else gapped l).length ≤ (gapped l).length := by
      split
      · rw [List.length_drop]; omega
      · exact Nat.le_refl _
    rw [List.length_append, List.length_append]
    have h4 : l.length * (wB n + 1) ≤ 3 * (wB n + 1) := Nat.mul_le_mul_right _ hl
    show _ ≤ 8 + 3 * (wB n + 1)
    simp only [List.length_cons, List.length_nil]
    omega
def cB : Nat → Nat
  | 0 => 1
  | n + 1 => 1 + 3 * cB n
theorem cB_pos (n : Nat) : 1 ≤ cB n := by cases n <;> simp [cB] <;> omega
theorem rowsL_len {B : Nat} : ∀ {l : List It} {p : List Int} {k a : Nat}, (∀ x ∈ l, ∀ p a, (x.rows p a).length ≤ B) → (rowsL p k a l).length ≤ l.length * B
  | [], p, k, a, _ => by rw [rowsL]; exact Nat.zero_le _
  | x :: r, p, k, a, h => by
    rw [rowsL, List.length_append, List.length_cons, Nat.succ_mul]
    have h1 := h x List.mem_cons_self (p ++ [(k : Int)]) a
    have h2 := rowsL_len (B := B) (l := r) (p := p) (k := k + 1) (a := a + x.word.length + 1) fun y hy => h y (List.mem_cons_of_mem _ hy)
    omega
theorem Dr.rows {n : Nat} {x : It} (d : Dr n x) : ∀ p a, (x.rows p a).length ≤ cB n := by
  induction d with
  | @leaf n h w k =>
    intro p a
    rw [It.rows]
    exact cB_pos n
  | @node n h o b l k hl _ ih =>
    intro p a
    rw [It.rows, List.length_cons]
    have h1 := rowsL_len (p := p) (k := 0) (a := a + o.length + if b = true then 0 else 1) ih
    have h4 : l.length * cB n ≤ 3 * cB n := Nat.mul_le_mul_right _ hl
    show _ ≤ 1 + 3 * cB n
    omega
theorem datL_map : ∀ l : List It, datL l = l.map It.dat
  | [] => by rw [datL]; rfl
  | x :: r => by rw [datL, datL_map r]; rfl
theorem Flats.app {ds es : List PyData} (h : Flats ds) (g : Flats es) : Flats (ds ++ es) := by
  induction ds with
  | nil => exact g
  | cons d ds ih =>
    cases h with
    | cons h1 h2 => exact .cons h1 (ih h2)
theorem LfK.flat {h : List PyData} {w : List Nat} (k : LfK h w) : Flats h := by
  cases k with
  | num m _ => exact .cons (.str _) (.cons (.int _) .nil)
  | lost => exact .cons (.str _) .nil
  | use w _ => exact .cons (.str _) (.cons (.str _) .nil)
theorem NdK.flat {h : List PyData} {o : List Nat} {b : Bool} (k : NdK h o b) : Flats h := by
  cases k with
  | block => exact .cons (.str _) .nil
  | sum => exact .cons (.str _) .nil
  | product => exact .cons (.str _) .nil
  | let_ w _ => exact .cons (.str _) (.cons (.str _) .nil)
theorem Dr.flat {n : Nat} {x : It} (d : Dr n x) : Flat x.dat := by
  induction d with
  | @leaf n h w k => rw [It.dat]; exact .tup k.flat
  | @node n h o b l k hl _ ih =>
    rw [It.dat, datL_map]
    refine .tup (k.flat.app (.cons (.tup (Flats.of fun e he => ?_)) .nil))
    obtain ⟨y, hy, rfl⟩ := List.mem_map.mp he
    exact ih y hy
theorem str_small {w : List Nat} (h : ∀ c ∈ w, c < 200) : (sO w).cps.toList.all (fun c => decide (c < 16 ^ 8)) = true := by
  rw [sO_cps, List.all_eq_true]
  intro c hc
  exact decide_eq_true (Nat.lt_of_lt_of_le (h c hc) (by decide))
def dB : Nat → Nat
  | 0 => 30
  | n + 1 => 3 * (3 * (dB n + 1) + 1)
theorem dB_low (n : Nat) : 30 ≤ dB n := by
  induction n with
  | zero => exact Nat.le_refl _
  | succ n ih => show 30 ≤ 3 * (3 * (dB n + 1) + 1); omega
theorem nice_lit {x : String} (h : (Str.ofString x).length ≤ 13) (hc : (Str.ofString x).cps.toList.all (fun c => decide (c < 16 ^ 8)) = true) : Nice 0 14 (.str (Str.ofString x)) := (nice_str h hc).mono (Nat.le_refl _) (by decide)
theorem LfK.nice {h : List PyData} {w : List Nat} (k : LfK h w) : (∀ d ∈ h, Nice 0 14 d) ∧ h.length ≤ 2 := by
  cases k with
  | num m hm =>
    refine ⟨fun d hd => ?_, by simp⟩
    simp only [List.mem_cons, List.not_mem_nil, or_false] at hd
    rcases hd with rfl | rfl
    · exact nice_lit (by decide +kernel) (by decide +kernel)
    · exact nice_int (by omega)
  | lost =>
    refine ⟨fun d hd => ?_, by simp⟩
    rw [List.mem_singleton.mp hd]
    exact nice_lit (by decide +kernel) (by decide +kernel)
  | use w hw =>
    refine ⟨fun d hd => ?_, by simp⟩
    simp only [List.mem_cons, List.not_mem_nil, or_false] at hd
    rcases hd with rfl | rfl
    · exact nice_lit (by decide +kernel) (by decide +kernel)
    · obtain ⟨_, h2, h3⟩ := name_len hw
      exact (nice_str (n := 14) (by rw [sO_len]; omega) (str_small h3))
theorem NdK.nice {h : List PyData} {o : List Nat} {b : Bool} (k : NdK h o b) : (∀ d ∈ h, Nice 0 14 d) ∧ h.length ≤ 2 := by
  cases k with
  | block =>
    refine ⟨fun d hd => ?_, by simp⟩
    rw [List.mem_singleton.mp hd]
    exact nice_lit (by decide +kernel) (by decide +kernel)
  | sum =>
    refine ⟨fun d hd => ?_, by simp⟩
    rw [List.mem_singleton.mp hd]
    exact nice_lit (by decide +kernel) (by decide +kernel)
  | product =>
    refine ⟨fun d hd => ?_, by simp⟩
    rw [List.mem_singleton.mp hd]
    exact nice_lit (by decide +kernel) (by decide +kernel)
  | let_ w hw =>
    refine ⟨fun d hd => ?_, by simp⟩
    simp only [List.mem_cons, List.not_mem_nil, or_false] at hd
    rcases hd with rfl | rfl
    · exact nice_lit (by decide +kernel) (by decide +kernel)
    · obtain ⟨_, h2, h3⟩ := name_len hw
      exact (nice_str (n := 14) (by rw [sO_len]; omega) (str_small h3))
theorem Nice.tuple' {k W n : Nat} {ds : List PyData} (h : ∀ d ∈ ds, Nice k W d) (hl : ds.length ≤ n) : Nice (k + 1) (n * (W + 1)) (.tuple ds) := (Nice.tuple h).mono (Nat.le_refl _) (Nat.mul_le_mul_right _ hl)
theorem items_nice {n : Nat} {l : List It} (hl : l.length ≤ 3) (h : ∀ x ∈ l, Nice (2 * n + 1) (dB n) x.dat) : Nice (2 * n + 2) (3 * (dB n + 1)) (.tuple (datL l)) := by
  rw [datL_map]
  refine Nice.tuple' (fun d hd => ?_) (by rw [List.length_map]; exact hl)
  obtain ⟨y, hy, rfl⟩ := List.mem_map.mp hd
  exact h y hy
theorem Dr.nice {n : Nat} {x : It} (d : Dr n x) : Nice (2 * n + 1) (dB n) x.dat := by
  induction d with
  | @leaf n h w k =>
    rw [It.dat]
    obtain ⟨h1, h2⟩ := k.nice
    exact (Nice.tuple' h1 h2).mono (by omega) (dB_low n)
  | @node n h o b l k hl _ ih =>
    rw [It.dat]
    obtain ⟨h1, h2⟩ := k.nice
    have hi := items_nice hl ih
    have := dB_low n
    refine (Nice.tuple' (k := 2 * n + 2) (W := 3 * (dB n + 1)) (n := 3) (fun d hd => ?_) (by rw [List.length_append]; show h.length + 1 ≤ 3; omega)).mono (by omega) (Nat.le_refl _)
    rcases List.mem_append.mp hd with q | q
    · exact (h1 d q).mono (Nat.zero_le _) (by omega)
    · rw [List.mem_singleton.mp q]
      exact hi
mutual
theorem flat_pure : ∀ (d : PyData), Flat d → Pure d
  | .none, _ => pure_none
  | .bool _, _ => ⟨rfl, rfl⟩
  | .int _, _ => pure_int _
  | .str _, _ => pure_str _
  | .list _, h => by cases h
  | .dict _, h => by cases h
  | .tuple ds, h => by
    cases h with
    | tup f => exact flats_pure ds f
theorem flats_pure : ∀ (ds : List PyData), Flats ds → PyData.hasDictAll ds = false ∧ noListAll ds = true
  | [], _ => ⟨rfl, rfl⟩
  | d :: ds, h => by
    cases h with
    | cons h1 h2 =>
      obtain ⟨a1, a2⟩ := flat_pure d h1
      obtain ⟨b1, b2⟩ := flats_pure ds h2
      refine ⟨?_, ?_⟩
      · show (d.hasDict || PyData.hasDictAll ds) = false
        rw [a1, b1]; rfl
      · show (noList d && noListAll ds) = true
        rw [a2, b2]; rfl
end
theorem Dr.pure {n : Nat} {x : It} (d : Dr n x) : Pure x.dat := by
  have f : ∀ (d : PyData), Flat d → Pure d := by
    intro d h
    exact flat_pure d h
  exact f _ d.flat
end K1
set_option maxHeartbeats 4000000
/-! _law_item, _law_program -/
namespace K1
open PySem L2
theorem Bt.ne {p q : Addr} {H : Hp} (h : Src H p) (n : H q = none) : q ≠ p := fun e => by
  obtain ⟨x, y, z, _⟩ := h
  rw [e, z] at n
  cases n
theorem hid_mono {p : Addr} {H H' : Hp} (s : Same H H') : Same (hid p H) (hid p H') := fun b u e => by
  obtain ⟨h1, h2⟩ := hid_at e
  rw [hid_ne h1]
  exact s _ _ h2
theorem hid_put {p : Addr} {H : Hp} {o : HO} : hid p (upd H p o) = hid p H := by
  funext b
  unfold hid
  by_cases e : b = p
  · rw [if_pos e, if_pos e]
  · rw [if_neg e, if_neg e, upd_ne e]
theorem hid_comm {p q : Addr} {H : Hp} : hid p (hid q H) = hid q (hid p H) := by
  funext b
  unfold hid
  by_cases e : b = p <;> by_cases f : b = q <;> simp [e, f]
/-- texts as data -/
theorem strs_dqs {K : PySem.W.Frag} {H : Hp} : ∀ (ws : List (List Nat)), (∀ w ∈ ws, w.length ≤ 1000) → DQs K H (ws.map fun w => V.str (sO w)) (ws.map fun w => PyData.str (sO w))
  | [], _ => .nil
  | w :: ws, h => .cons (.str _ (by rw [sO_len]; exact h w List.mem_cons_self)) (strs_dqs ws fun x hx => h x (List.mem_cons_of_mem _ hx))
theorem names_dqs {K : PySem.W.Frag} {H : Hp} : DQs K H nameV nameD' := by
  rw [nameV_eq]
  exact strs_dqs nameC fun w hw => Nat.le_trans (name_len hw).2.1 (by decide)
theorem name_b : (V.str "b") = V.str (sO [98]) := by decide +kernel
theorem names_b {K : PySem.W.Frag} {H : Hp} : DQs K H (nameV ++ [.str "b"]) ((nameC ++ [[98]]).map fun w => PyData.str (sO w)) := by
  rw [nameV_eq, name_b]
  have z := strs_dqs (K := K) (H := H) (nameC ++ [[98]]) fun w hw => by
    rcases List.mem_append.mp hw with h | h
    · exact Nat.le_trans (name_len h).2.1 (by decide)
    · rw [List.mem_singleton.mp h]; decide
  rw [List.map_append] at z
  exact z
theorem name_in {d : PyData} (h : d ∈ nameD') : ∃ w ∈ nameC, d = .str (sO w) := by
  obtain ⟨w, hw, rfl⟩ := List.mem_map.mp h
  exact ⟨w, hw, rfl⟩
theorem name_inb {d : PyData} (h : d ∈ (nameC ++ [[98]]).map fun w => PyData.str (sO w)) : ∃ w ∈ nameC, d = .str (sO w) := by
  obtain ⟨w, hw, rfl⟩ := List.mem_map.mp h
  rcases List.mem_append.mp hw with q | q
  · exact ⟨w, q, rfl⟩
  · rw [List.mem_singleton.mp q]
    exact ⟨[98], by decide, rfl⟩
/-- the names as the law gives them -/
def NamesAt (H : Hp) (p l : Addr) : Prop := H l = some (.lst nameV) ∧ l ≠ p
theorem NamesAt.bt {H H' : Hp} {p l : Addr} (h : NamesAt H p l) (b : Bt p H H') : NamesAt H' p l := ⟨b.at h.2 h.1, h.2⟩
def spIt (K : PySem.W.Frag) (n : Nat) : Sp := fun vs H Q _ => ∃ (p l : Addr), vs = [.ref p, .int (n : Int), .ref l] ∧ Src H p ∧ NamesAt H p l ∧ ∀ H' u x, Bt p H H' → Dr n x → DQ K (hid p H') u x.dat → Q u H'
/-- is nothing to be held -/
def tDeep : TT := fun σ H Q => ∃ n r : Int, σ[1]? = some (some (.int n)) ∧ σ[3]? = some (some (.int r)) ∧ Q (decide (n = 0 ∨ r < 4)) H
def tWay3 : TT := fun σ H Q => ∃ (r : Int) (l : Addr), σ[3]? = some (some (.int r)) ∧ σ[2]? = some (some (.ref l)) ∧ H l = some (.lst nameV) ∧ ∀ H', Same H H' → Q (decide (r = 3)) H'
theorem dec_int {a b : Int} : decide (V.int a = V.int b) = decide (a = b) := by
  by_cases h : a = b
  · rw [h, decide_eq_true rfl, decide_eq_true rfl]
  · rw [decide_eq_false h, decide_eq_false fun z => h (by injection z)]
/-- a new tuple of data -/
theorem tup_new {K : PySem.W.Frag} {p q : Addr} {H H' : Hp} {us : List V} {ds : List PyData} (b : Bt p H H') (nq : H' q = none) (h : DQs K (hid p H') us ds) : Bt p H (upd H' q (.tup us)) ∧ DQ K (hid p (upd H' q (.tup us))) (.ref q) (.tuple ds) := by
  have nqp := Bt.ne b.src nq
  exact ⟨b.new nq, .tup (.inl (.inl (by rw [hid_ne nqp, upd_same]))) (h.to (hid_mono (K0.same_upd nq)))⟩
abbrev NI : List Str := ["_law_pool_here", "_law_deep", "_law_names", "_law_way", "_law_items", "_law_turn"]
section
variable {P : Program} {w : World} {K : PySem.W.Frag} {mg : Str → Option Value} {base : Heap}
theorem sc_item : FnScope NI ["_law_pool_here", "_law_deep", "_law_names"] (defScope (top 30)) := ⟨rfl, rfl, rfl, by decide +kernel, rfl, by decide +kernel, by decide +kernel⟩
/-- the test of a drawn item: a leaf, or one that holds others -/
theorem deep_ask {σ : St} {H : Hp} {Q : Bool → Hp → Prop} (hh : tDeep σ H Q) : tOr (tTest (tOp rEq (tVar 1) (tC (.int 0)))) (tTest (tOp (rI0 fun i j => .bl (decide (i < j))) (tVar 3) (tC (.int 4)))) σ H Q := by
  obtain ⟨n, r, h1, h3, q⟩ := hh
  refine ⟨_, h1, rfl, _, rfl, ?_⟩
  rw [dec_int]
  by_cases c : n = 0
  · have e : decide (n = 0 ∨ r < 4) = true := decide_eq_true (.inl c)
    rw [e] at q
    rw [decide_eq_true c]
    exact iteT q
  · have e : decide (n = 0 ∨ r < 4) = decide (r < 4) := by
      by_cases f : r < 4
      · rw [decide_eq_true f, decide_eq_true (.inr f)]
      · rw [decide_eq_false f, decide_eq_false fun z => z.elim c f]
    rw [e] at q
    rw [decide_eq_false c]
    exact iteF ⟨_, h3, _, _, rfl, rfl, _, rfl, q⟩
theorem leaf_rest {n : Nat} : True := trivial
theorem cl_item (T : All K mg) (M : Nms mg) (hrange : mg "range" = none) : ∀ n : Nat, Cl P w K mg base (n + 3) "_law_item" ["_law_pool_here", "_law_deep", "_law_names"] (spIt K n) := by
  obtain ⟨g, fd, D⟩ := T.dn 30 _ _ rfl
  intro n
  induction n with
  | zero =>
    refine D.cl (D.fn.ok sc_item (fun vs H Q E h => ?_) (fun cdv A outer s H vs Q E hr h => ?_))
    · obtain ⟨p, l, rfl, _⟩ := h
      rfl
    · obtain ⟨p, l, rfl, src, hl, k⟩ := h
      refine ⟨_, (pss_cons (ps_set (i := 3) sc_item.nd rfl (Or.inl rfl) (pe_cl (cl_takeB T M) hr (by decide) (pa_cons (pv 0) (pa_cons pe_int pa_nil))))
      (pss_cons (ps_if (pt_imp (t' := tDeep) (PW.pt (pw_or (pt_cmpR op_eq (pv 1) pe_int (nomark _)) (pw_or1 (pt_cmpR op_lt (pv 3) pe_int (nomark _))))) (fun σ H Q hh => deep_ask hh)) (pss_cons (ps_if (pt_imp (t' := tWay3) (PW.pt (pw_or (pt_cmpR op_eq (pv 3) pe_int (nomark _)) (pw_or1 (pt_cmpR (op_eqE hr.units) (pv 2) (pe_lst pa_nil) (nomark _))))) (fun σ H Q hh => ?_)) (pss_one (ps_ret (pe_tup (pa_cons pe_str (pa_cons (pe_cl (cl_takeB T M) hr (by decide) (pa_cons (pv 0) (pa_cons pe_int pa_nil))) pa_nil))))) pss_nil)
      (pss_one (ps_ret (pe_ifExp (pt_cmpR op_eq (pv 3) pe_int (nomark _)) (pe_tup (pa_cons pe_str pa_nil)) (pe_tup (pa_cons pe_str (pa_cons (pe_cl (cl_one T M) hr (by decide) (pa_cons (pv 0) (pa_cons (pv 2) pa_nil))) pa_nil))))))) pss_nil)
      (pss_cons ps_never
      (pss_cons ps_never
      (pss_one ps_never))))), ?_⟩
      · -- way == 3, or there are no names
        obtain ⟨r, l, h3, h2, hl, q⟩ := hh
        refine ⟨_, h3, rfl, _, rfl, ?_⟩
        rw [dec_int]
        by_cases c : r = 3
        · rw [decide_eq_true c] at q ⊢
          exact iteT (q H (Same.refl H))
        · rw [decide_eq_false c] at q ⊢
          refine iteF ⟨_, h2, Nat.zero_le _, fun t nt => ⟨l, t, nameV, rfl, rfl, .inl ⟨SqL.of ((upd_ne (ne_of_none hl nt)).trans hl), SqL.of upd_same⟩, _, rfl, q _ (K0.same_upd nt)⟩⟩
      · refine ⟨_, rfl, p, 9, rfl, src, by decide, by decide, fun r H1 r0 r1 b1 => ?_⟩
        refine ⟨_, _, rfl, rfl, ?_⟩
        rw [decide_eq_true (.inl rfl)]
        refine iteT ?_
        refine ⟨_, l, rfl, rfl, (hl.bt b1).1, fun H2 s2 => ?_⟩
        have b2 := b1.grow s2
        have s12 : 1 ≤ sizeLine := sizeL (by decide) (m := 1)
        have s22 : 2 ≤ sizeLine := sizeL (by decide) (m := 2)
        by_cases c3 : r = 3
        · rw [decide_eq_true c3]
          refine iteT ⟨_, rfl, p, 100, rfl, b2.src, by decide, by decide, fun m H3 m0 m1 b3 => ⟨s22, fun q nq => ?_⟩⟩
          obtain ⟨i, rfl⟩ : ∃ i : Nat, m = (i : Int) := ⟨m.toNat, by omega⟩
          obtain ⟨g1, g2⟩ := tup_new (K := K) (us := [.str "number", .int (i : Int)]) (ds := [.str "number", .int (i : Int)]) (b2.trans b3) nq (.cons (.str _ (by decide +kernel)) (.cons (.int _) .nil))
          exact k _ _ (.leaf [.str "number", .int (i : Int)] (numC i)) g1 (.leaf (.num i (by omega))) g2
        · rw [decide_eq_false c3]
          refine iteF ⟨_, rfl, rfl, _, rfl, ?_⟩
          rw [dec_int]
          by_cases c2 : r = 2
          · rw [decide_eq_true c2]
            refine iteT ⟨s12, fun q nq => ?_⟩
            obtain ⟨g1, g2⟩ := tup_new (K := K) (us := [.str "lost"]) (ds := [.str "lost"]) b2 nq (.cons (.str _ (by decide +kernel)) .nil)
            exact k _ _ (.leaf [.str "lost"] [63]) g1 (.leaf .lost) g2
          · rw [decide_eq_false c2]
            have hl2 := hl.bt b2
            refine iteF ⟨_, rfl, _, rfl, p, l, nameV, nameD', rfl, b2.src, SqL.of (by rw [hid_ne hl2.2]; exact hl2.1), names_dqs, by decide, by decide, fun H3 u d hd b3 hu => ⟨s22, fun q nq => ?_⟩⟩
            obtain ⟨w, hw, rfl⟩ := name_in hd
            obtain ⟨g1, g2⟩ := tup_new (K := K) (us := [.str "use", u]) (ds := [.str "use", .str (sO w)]) (b2.trans b3) nq (.cons (.str _ (by decide +kernel)) (.cons hu .nil))
            exact k _ _ (.leaf [.str "use", .str (sO w)] w) g1 (.leaf (.use w hw)) g2
  | succ n ih =>
    refine D.cl (D.fn.ok sc_item (fun vs H Q E h => ?_) (fun cdv A outer s H vs Q E hr h => ?_))
    · obtain ⟨p, l, rfl, _⟩ := h
      rfl
    · obtain ⟨p, l, rfl, src, hl, k⟩ := h
      have hr3 : Room (n + 3) _ := hr
      have le1 : 1 ≤ n + 3 := by omega
      have le2 : 2 ≤ n + 3 := by omega
      refine ⟨_, (pss_cons (ps_set (i := 3) sc_item.nd rfl (Or.inl rfl) (pe_cl (cl_takeB T M) hr3 le1 (pa_cons (pv 0) (pa_cons pe_int pa_nil))))
      (pss_cons (ps_if (pt_imp (t' := tDeep) (PW.pt (pw_or (pt_cmpR op_eq (pv 1) pe_int (nomark _)) (pw_or1 (pt_cmpR op_lt (pv 3) pe_int (nomark _))))) (fun σ H Q hh => deep_ask hh)) (pss_cons (ps_if (pt_imp (t' := tWay3) (PW.pt (pw_or (pt_cmpR op_eq (pv 3) pe_int (nomark _)) (pw_or1 (pt_cmpR (op_eqE hr.units) (pv 2) (pe_lst pa_nil) (nomark _))))) (fun σ H Q hh => ?_)) (pss_one (ps_ret (pe_tup (pa_cons pe_str (pa_cons (pe_cl (cl_takeB T M) hr3 le1 (pa_cons (pv 0) (pa_cons pe_int pa_nil))) pa_nil))))) pss_nil)
      (pss_one (ps_ret (pe_ifExp (pt_cmpR op_eq (pv 3) pe_int (nomark _)) (pe_tup (pa_cons pe_str pa_nil)) (pe_tup (pa_cons pe_str (pa_cons (pe_cl (cl_one T M) hr3 le2 (pa_cons (pv 0) (pa_cons (pv 2) pa_nil))) pa_nil))))))) pss_nil)
      (pss_cons (ps_set (i := 4) sc_item.nd rfl (Or.inl rfl) (pe_callTy call_tuple_of (by rfl) T.bi.tuple (by decide +kernel) (pa_cons (pe_lc (own := [("_law_turn", 5)]) (g := gName 5) (tt := tYes) (te := (tCall (spIt K n) [] E0 (tCons (tVar 0) (tCons (tOp (rI0 fun i j => .int (i - j)) (tVar 1) (tC (.int 1))) (tCons (tVar 2) tNil))))) rfl sc_item.nd (pi_range1 rfl hrange (pa_cons (pe_cl (cl_takeB T M) hr3 le1 (pa_cons (pv 0) (pa_cons pe_int pa_nil))) pa_nil)) (blkOk_by (own := [("_law_turn", 5)]) (N := NI) (sc := defScope (top 30)) (by decide +kernel)) (fun _ _ _ _ _ => (pg_name (i := 5) sc_item.nd rfl (Or.inl rfl))) (fun _ _ _ _ _ => pts_nil) (fun _ _ _ _ _ => (pe_cl ih hr3 (Nat.le_refl _) (pa_cons (pv 0) (pa_cons (pe_op op_sub (pv 1) pe_int) (pa_cons (pv 2) pa_nil)))))) pa_nil)))
      (pss_cons (ps_if (pt_cmpR op_lt (pv 3) pe_int (nomark _)) (pss_one (ps_ret (pe_tup (pa_cons (pe_ix ix_list (pe_lst (pa_cons pe_str (pa_cons pe_str (pa_cons pe_str pa_nil)))) (pe_op op_sub (pv 3) pe_int) (fun _ _ => rfl)) (pa_cons (pv 4) pa_nil))))) pss_nil)
      (pss_one (ps_ret (pe_tup (pa_cons pe_str (pa_cons (pe_cl (cl_one T M) hr3 le2 (pa_cons (pv 0) (pa_cons (pe_op op_cat (pv 2) (pe_lst (pa_cons pe_str pa_nil))) pa_nil))) (pa_cons (pv 4) pa_nil)))))))))), ?_⟩
      · -- way == 3, or there are no names
        obtain ⟨r, l, h3, h2, hl, q⟩ := hh
        refine ⟨_, h3, rfl, _, rfl, ?_⟩
        rw [dec_int]
        by_cases c : r = 3
        · rw [decide_eq_true c] at q ⊢
          exact iteT (q H (Same.refl H))
        · rw [decide_eq_false c] at q ⊢
          refine iteF ⟨_, h2, Nat.zero_le _, fun t nt => ⟨l, t, nameV, rfl, rfl, .inl ⟨SqL.of ((upd_ne (ne_of_none hl nt)).trans hl), SqL.of upd_same⟩, _, rfl, q _ (K0.same_upd nt)⟩⟩
      · refine ⟨_, rfl, p, 9, rfl, src, by decide, by decide, fun r H1 r0 r1 b1 => ?_⟩
        refine ⟨_, _, rfl, rfl, ?_⟩
        by_cases c4 : r < 4
        · rw [decide_eq_true (.inr c4)]
          refine iteT ?_
          refine ⟨_, l, rfl, rfl, (hl.bt b1).1, fun H2 s2 => ?_⟩
          have b2 := b1.grow s2
          have s12 : 1 ≤ sizeLine := sizeL (by decide) (m := 1)
          have s22 : 2 ≤ sizeLine := sizeL (by decide) (m := 2)
          by_cases c3 : r = 3
          · rw [decide_eq_true c3]
            refine iteT ⟨_, rfl, p, 100, rfl, b2.src, by decide, by decide, fun m H3 m0 m1 b3 => ⟨s22, fun q nq => ?_⟩⟩
            obtain ⟨i, rfl⟩ : ∃ i : Nat, m = (i : Int) := ⟨m.toNat, by omega⟩
            obtain ⟨g1, g2⟩ := tup_new (K := K) (us := [.str "number", .int (i : Int)]) (ds := [.str "number", .int (i : Int)]) (b2.trans b3) nq (.cons (.str _ (by decide +kernel)) (.cons (.int _) .nil))
            exact k _ _ (.leaf [.str "number", .int (i : Int)] (numC i)) g1 (.leaf (.num i (by omega))) g2
          · rw [decide_eq_false c3]
            refine iteF ⟨_, rfl, rfl, _, rfl, ?_⟩
            rw [dec_int]
            by_cases c2 : r = 2
            · rw [decide_eq_true c2]
              refine iteT ⟨s12, fun q nq => ?_⟩
              obtain ⟨g1, g2⟩ := tup_new (K := K) (us := [.str "lost"]) (ds := [.str "lost"]) b2 nq (.cons (.str _ (by decide +kernel)) .nil)
              exact k _ _ (.leaf [.str "lost"] [63]) g1 (.leaf .lost) g2
            · rw [decide_eq_false c2]
              have hl2 := hl.bt b2
              refine iteF ⟨_, rfl, _, rfl, p, l, nameV, nameD', rfl, b2.src, SqL.of (by rw [hid_ne hl2.2]; exact hl2.1), names_dqs, by decide, by decide, fun H3 u d hd b3 hu => ⟨s22, fun q nq => ?_⟩⟩
              obtain ⟨w, hw, rfl⟩ := name_in hd
              obtain ⟨g1, g2⟩ := tup_new (K := K) (us := [.str "use", u]) (ds := [.str "use", .str (sO w)]) (b2.trans b3) nq (.cons (.str _ (by decide +kernel)) (.cons hu .nil))
              exact k _ _ (.leaf [.str "use", .str (sO w)] w) g1 (.leaf (.use w hw)) g2
        · rw [decide_eq_false (fun z => z.elim (by omega) c4)]
          -- the items
          refine iteF ⟨_, rfl, p, 4, rfl, b1.src, by decide, by decide, fun m H2 m0 m1 b2 => ⟨m, rfl, by omega, by omega, fun L nL => ?_⟩⟩
          have b12 := b1.trans b2
          have nLp := Bt.ne b2.src nL
          refine lc_range (lo := 0) (n := m.toNat) (fun i H' => i ≤ m.toNat ∧ Bt p H2 H' ∧ H2 L = none ∧ ∃ acc its, H' L = some (.lst acc) ∧ its.length = i ∧ (∀ x ∈ its, Dr n x) ∧ DQs K (hid L (hid p H')) acc (datL its)) ⟨Nat.zero_le _, (Bt.refl b2.src).new nL, nL, [], [], upd_same, rfl, fun x hx => (by cases hx), by rw [datL]; exact .nil⟩ ?_ ?_
          · rintro i H' hi ⟨hle, b3, nL', acc, its, hacc, hil, hdr, hdq⟩
            refine ⟨rfl, ?_⟩
            unfold tYes
            dsimp only
            rw [if_pos rfl]
            have b13 := b12.trans b3
            refine ⟨_, rfl, _, rfl, _, _, rfl, rfl, _, rfl, p, l, ?_, b13.src, hl.bt b13, fun H3 u x b4 hx hu => ?_⟩
            · show [V.ref p, V.int (((n + 1 : Nat) : Int) - 1), V.ref l] = [V.ref p, V.int (n : Int), V.ref l]
              rw [show (((n + 1 : Nat) : Int) - 1) = (n : Int) from by omega]
            have hacc3 : H3 L = some (.lst acc) := b4.at nLp hacc
            have sH : Same (hid L (hid p H')) (hid L (hid p H3)) := hid_mono b4.same
            have hLp : (hid p H3) L = some (.lst acc) := by rw [hid_ne nLp]; exact hacc3
            have hu2 : DQ K (hid L (hid p H3)) u x.dat := Flat.hide hLp _ _ hx.flat hu
            have lacc : acc.length = i := by rw [hdq.len, datL_map, List.length_map, hil]
            refine ⟨acc, hacc3, by rw [sizeLine_eq]; omega, hi, ?_, nL, acc ++ [u], its ++ [x], upd_same, by rw [List.length_append, hil]; rfl, fun y hy => ?_, ?_⟩
            · have b5 := b3.trans b4
              refine ⟨fun b w e => ?_, ?_⟩
              · obtain ⟨e1, e2⟩ := hid_at e
                rw [hid_ne e1, upd_ne (ne_of_none e2 nL)]
                exact b5.at e1 e2
              · obtain ⟨x1, x2, e, r⟩ := b5.src
                exact ⟨x1, x2, by rw [upd_ne (Ne.symm nLp)]; exact e, r⟩
            · rcases List.mem_append.mp hy with q | q
              · exact hdr y q
              · rw [List.mem_singleton.mp q]; exact hx
            · rw [hid_comm, hid_put, hid_comm, datL_map, List.map_append, ← datL_map]
              exact (hdq.to sH).app (.cons hu2 .nil)
          · rintro H' ⟨_, b3, _, acc, its, hacc, hil, hdr, hdq⟩
            have b13 := b12.trans b3
            refine ⟨L, acc, rfl, .inl ⟨SqL.of hacc, fun q nq => ?_⟩⟩
            have hil3 : its.length ≤ 3 := by omega
            have hdq' : DQs K (hid p H') acc (datL its) := hdq.to (hid_same L _)
            obtain ⟨b4, dq4⟩ := tup_new b13 nq hdq'
            generalize upd H' q (.tup acc) = H4 at b4 dq4 ⊢
            refine ⟨_, rfl, _, _, rfl, rfl, _, rfl, ?_⟩
            have s22 : 2 ≤ sizeLine := sizeL (by decide) (m := 2)
            have s33 : 3 ≤ sizeLine := sizeL (by decide) (m := 3)
            by_cases c7 : r < 7
            · rw [decide_eq_true c7]
              refine iteT ⟨s33, fun t nt => ⟨_, rfl, _, _, rfl, rfl, t, [.str "block", .str "sum", .str "product"], r - 4, ?_⟩⟩
              have b5 := b4.new (o := .lst [.str "block", .str "sum", .str "product"]) nt
              have e5 := @upd_same H4 t (.lst [.str "block", .str "sum", .str "product"])
              have dq5 := dq4.to (hid_mono (K0.same_upd (o := .lst [.str "block", .str "sum", .str "product"]) nt))
              generalize upd H4 t (.lst [.str "block", .str "sum", .str "product"]) = H5 at b5 e5 dq5 ⊢
              have fin : ∀ (kd : List PyData) (kn : Str) (o : List Nat) (bb : Bool), kd = [.str kn] → kn.length ≤ 1000 → NdK kd o bb → ∀ q2, H5 q2 = none → Q (.ref q2) (upd H5 q2 (.tup [.str kn, .ref q])) := by
                intro kd kn o bb e1 e2 hk q2 nq2
                obtain ⟨g1, g2⟩ := tup_new (K := K) (us := [.str kn, .ref q]) (ds := [.str kn, .tuple (datL its)]) b5 nq2 (.cons (.str _ e2) (.cons dq5 .nil))
                refine k _ _ (.node kd o bb its) g1 (.node hk hil3 hdr) ?_
                rw [It.dat, e1]
                exact g2
              obtain rfl | rfl | rfl : r = 4 ∨ r = 5 ∨ r = 6 := by omega
              · exact ⟨.str "block", rfl, rfl, SqL.of e5, atI_nat (j := 0) rfl, _, rfl, s22, fin _ _ _ _ rfl (by decide +kernel) .block⟩
              · exact ⟨.str "sum", rfl, rfl, SqL.of e5, atI_nat (j := 1) rfl, _, rfl, s22, fin _ _ _ _ rfl (by decide +kernel) .sum⟩
              · exact ⟨.str "product", rfl, rfl, SqL.of e5, atI_nat (j := 2) rfl, _, rfl, s22, fin _ _ _ _ rfl (by decide +kernel) .product⟩
            · rw [decide_eq_false c7]
              have hl4 := hl.bt b4
              refine iteF ⟨_, rfl, _, rfl, sizeL (by decide) (m := 1), fun t nt => ?_⟩
              have tp := Bt.ne b4.src nt
              have hlt : (upd H4 t (.lst [.str "b"])) l = some (.lst nameV) := by rw [upd_ne (ne_of_none hl4.1 nt)]; exact hl4.1
              refine ⟨l, t, nameV, [.str "b"], rfl, rfl, hlt, upd_same, by rw [sizeLine_eq]; decide, fun s' ns => ?_⟩
              have b5 := (b4.new (o := .lst [.str "b"]) nt).new (o := .lst (nameV ++ [.str "b"])) ns
              have dq5 := (dq4.to (hid_mono (K0.same_upd (o := .lst [.str "b"]) nt))).to (hid_mono (K0.same_upd (o := .lst (nameV ++ [.str "b"])) ns))
              have sp := Bt.ne (b4.new (o := .lst [.str "b"]) nt).src ns
              have e5 := @upd_same (upd H4 t (.lst [.str "b"])) s' (.lst (nameV ++ [.str "b"]))
              generalize upd (upd H4 t (.lst [.str "b"])) s' (.lst (nameV ++ [.str "b"])) = H5 at b5 dq5 e5 ⊢
              refine ⟨p, s', _, (nameC ++ [[98]]).map (fun w => PyData.str (sO w)), rfl, b5.src, SqL.of (by rw [hid_ne sp]; exact e5), names_b, by decide, by decide, fun H6 u d hd b6 hu => ⟨_, rfl, s33, fun q2 nq2 => ?_⟩⟩
              obtain ⟨w, hw, rfl⟩ := name_inb hd
              obtain ⟨g1, g2⟩ := tup_new (K := K) (us := [.str "let", u, .ref q]) (ds := [.str "let", .str (sO w), .tuple (datL its)]) (b5.trans b6) nq2 (.cons (.str _ (by decide +kernel)) (.cons hu (.cons (dq5.to b6.same) .nil)))
              refine k _ _ (.node [.str "let", .str (sO w)] (40 :: (w ++ [32, 61])) false its) g1 (.node (.let_ w hw) hil3 hdr) ?_
              rw [It.dat]
              exact g2
end
end K1
set_option maxHeartbeats 4000000
/-! _law_program; words as texts -/
namespace K1
open PySem L2
def spProg (K : PySem.W.Frag) : Sp := fun vs H Q _ => ∃ (p l : Addr), vs = [.ref p, .ref l] ∧ Src H p ∧ NamesAt H p l ∧ ∀ H' u its, Bt p H H' → its.length ≤ 4 → (∀ x ∈ its, Dr 3 x) → DQ K (hid p H') u (.tuple (datL its)) → Q u H'
section
variable {P : Program} {w : World} {K : PySem.W.Frag} {mg : Str → Option Value} {base : Heap}
theorem sc_program : FnScope ["_law_pool_here", "_law_names", "_law_turn"] ["_law_pool_here", "_law_names"] (defScope (top 31)) := ⟨rfl, rfl, rfl, by decide +kernel, rfl, by decide +kernel, by decide +kernel⟩
theorem cl_program (T : All K mg) (M : Nms mg) (hrange : mg "range" = none) : Cl P w K mg base 7 "_law_program" ["_law_pool_here", "_law_names"] (spProg K) := by
  obtain ⟨g, fd, D⟩ := T.dn 31 _ _ rfl
  have ih : Cl P w K mg base 6 "_law_item" ["_law_pool_here", "_law_deep", "_law_names"] (spIt K 3) := cl_item T M hrange 3
  refine D.cl (D.fn.ok sc_program (fun vs H Q E h => ?_) (fun cdv A outer s H vs Q E hr h => ?_))
  · obtain ⟨p, l, rfl, _⟩ := h
    rfl
  · obtain ⟨p, l, rfl, src, hl, k⟩ := h
    refine ⟨_, (pss_one (ps_ret (pe_callTy call_tuple_of (by rfl) T.bi.tuple (by decide +kernel) (pa_cons (pe_lc (own := [("_law_turn", 2)]) (g := gName 2) (tt := tYes) (te := (tCall (spIt K 3) [] E0 (tCons (tVar 0) (tCons (tC (.int 3)) (tCons (tVar 1) tNil))))) rfl sc_program.nd (pi_range1 rfl hrange (pa_cons (pe_cl (cl_takeB T M) hr (by decide) (pa_cons (pv 0) (pa_cons pe_int pa_nil))) pa_nil)) (blkOk_by (own := [("_law_turn", 2)]) (N := ["_law_pool_here", "_law_names", "_law_turn"]) (sc := defScope (top 31)) (by decide +kernel)) (fun _ _ _ _ _ => (pg_name (i := 2) sc_program.nd rfl (Or.inl rfl))) (fun _ _ _ _ _ => pts_nil) (fun _ _ _ _ _ => (pe_cl ih hr (by decide) (pa_cons (pv 0) (pa_cons pe_int (pa_cons (pv 1) pa_nil)))))) pa_nil)))), ?_⟩
    refine ⟨_, rfl, p, 5, rfl, src, by decide, by decide, fun m H2 m0 m1 b12 => ⟨m, rfl, by omega, by omega, fun L nL => ?_⟩⟩
    have nLp := Bt.ne b12.src nL
    refine lc_range (lo := 0) (n := m.toNat) (fun i H' => i ≤ m.toNat ∧ Bt p H2 H' ∧ ∃ acc its, H' L = some (.lst acc) ∧ its.length = i ∧ (∀ x ∈ its, Dr 3 x) ∧ DQs K (hid L (hid p H')) acc (datL its)) ⟨Nat.zero_le _, (Bt.refl b12.src).new nL, [], [], upd_same, rfl, fun x hx => (by cases hx), by rw [datL]; exact .nil⟩ ?_ ?_
    · rintro i H' hi ⟨hle, b3, acc, its, hacc, hil, hdr, hdq⟩
      refine ⟨rfl, ?_⟩
      unfold tYes
      dsimp only
      rw [if_pos rfl]
      have b13 := b12.trans b3
      refine ⟨_, rfl, _, rfl, p, l, rfl, b13.src, hl.bt b13, fun H3 u x b4 hx hu => ?_⟩
      have hacc3 : H3 L = some (.lst acc) := b4.at nLp hacc
      have sH : Same (hid L (hid p H')) (hid L (hid p H3)) := hid_mono b4.same
      have hLp : (hid p H3) L = some (.lst acc) := by rw [hid_ne nLp]; exact hacc3
      have hu2 : DQ K (hid L (hid p H3)) u x.dat := Flat.hide hLp _ _ hx.flat hu
      have lacc : acc.length = i := by rw [hdq.len, datL_map, List.length_map, hil]
      refine ⟨acc, hacc3, by rw [sizeLine_eq]; omega, hi, ?_, acc ++ [u], its ++ [x], upd_same, by rw [List.length_append, hil]; rfl, fun y hy => ?_, ?_⟩
      · have b5 := b3.trans b4
        refine ⟨fun b w e => ?_, ?_⟩
        · obtain ⟨e1, e2⟩ := hid_at e
          rw [hid_ne e1, upd_ne (ne_of_none e2 nL)]
          exact b5.at e1 e2
        · obtain ⟨x1, x2, e, r⟩ := b5.src
          exact ⟨x1, x2, by rw [upd_ne (Ne.symm nLp)]; exact e, r⟩
      · rcases List.mem_append.mp hy with q | q
        · exact hdr y q
        · rw [List.mem_singleton.mp q]; exact hx
      · rw [hid_comm, hid_put, hid_comm, datL_map, List.map_append, ← datL_map]
        exact (hdq.to sH).app (.cons hu2 .nil)
    · rintro H' ⟨_, b3, acc, its, hacc, hil, hdr, hdq⟩
      refine ⟨L, acc, rfl, .inl ⟨SqL.of hacc, fun q nq => ?_⟩⟩
      obtain ⟨b4, dq4⟩ := tup_new (b12.trans b3) nq (hdq.to (hid_same L _))
      exact k _ _ its b4 (by omega) hdr dq4
end
theorem sO_app (a b : List Nat) : sO a ++ sO b = sO (a ++ b) := by
  show (⟨a.toArray ++ b.toArray⟩ : Str) = ⟨(a ++ b).toArray⟩
  simp
theorem join_fold : ∀ (l : List It) (acc : Array Nat), (l.map fun x => sO x.word).foldl (fun acc p => acc ++ (sO [32]).cps ++ p.cps) acc = acc ++ (gapped l).toArray
  | [], acc => by rw [gapped]; simp
  | x :: r, acc => by
    rw [List.map_cons, List.foldl_cons, join_fold r, gapped]
    simp [sO]
/-- words behind a first one -/
theorem join_cons (o : List Nat) (l : List It) : Txt.join (sO [32]) (sO o :: l.map fun x => sO x.word) = sO (o ++ gapped l) := by
  show (⟨((sO o :: l.map fun x => sO x.word).drop 1).foldl (fun acc p => acc ++ (sO [32]).cps ++ p.cps) ((sO o :: l.map fun x => sO x.word).headD Str.empty).cps⟩ : Str) = _
  rw [List.drop_succ_cons, List.drop_zero, join_fold]
  simp [sO]
theorem join_words (l : List It) : Txt.join (sO [32]) (l.map fun x => sO x.word) = sO (textM l) := by
  unfold textM
  cases l with
  | nil => rw [gapped]; rfl
  | cons x r =>
    rw [List.map_cons, join_cons, gapped]
    rfl
theorem blank : (" " : Str) = sO [32] := by decide +kernel
theorem sum_words {B : Nat} : ∀ {l : List It}, (∀ x ∈ l, x.word.length ≤ B) → ((l.map fun x => sO x.word).map (·.length)).sum ≤ l.length * B
  | [], _ => Nat.zero_le _
  | x :: r, h => by
    have h1 := h x List.mem_cons_self
    have h2 := sum_words (B := B) (l := r) fun y hy => h y (List.mem_cons_of_mem _ hy)
    rw [List.map_cons, List.map_cons, List.sum_cons, List.length_cons, Nat.succ_mul, sO_len]
    omega
end K1
set_option maxHeartbeats 4000000
/-! _law_word, _law_text -/
namespace K1
open PySem L2
theorem call_strS {X : Cx} : CallR X (.type "str") (fun xs H Q => ∃ a, xs = [.str a] ∧ Q (.str a) H) := by
  intro pins s σ H xs us Q I r h
  obtain ⟨a, rfl, q⟩ := h
  obtain ⟨u, rfl, t, rfl⟩ := vals1 r
  exact PySem.P.str_of_str ⟨.str a, H, I, ⟨t, rfl⟩, q⟩
/-- str of a number, of a text, of a tuple -/
def rStrAny (K : PySem.W.Frag) : List V → Hp → VK → Prop := fun xs H Q => (∃ i, xs = [.int i] ∧ i.natAbs.log2 < 1920 ∧ Q (.str (toString i)) H) ∨ (∃ a, xs = [.str a] ∧ Q (.str a) H) ∨ rStrT K xs H Q
theorem call_strAny {X : Cx} (hg : X.A.guards = some []) (hu : X.A.units + 64 < cLine) : CallR X (.type "str") (rStrAny X.K) := by
  intro pins s σ H xs us Q I r h
  rcases h with h | h | h
  · exact call_str_int pins s σ H xs us Q I r h
  · exact call_strS pins s σ H xs us Q I r h
  · exact call_strT hg hu pins s σ H xs us Q I r h
/-- is it an item of that kind -/
def tKind (K : PySem.W.Frag) (y : Str) : TT := fun σ H Q => ∃ (v : V) (k : Str) (r : List PyData), σ[0]? = some (some v) ∧ DQ K H v (.tuple (.str k :: r)) ∧ Q (decide (k = y)) H
theorem kind_ask {K : PySem.W.Frag} {y : Str} {σ : St} {H : Hp} {Q : Bool → Hp → Prop} (hh : tKind K y σ H Q) : tTest (tOp rEq (tOp (rIxT K) (tVar 0) (tC (.int 0))) (tC (.str y))) σ H Q := by
  obtain ⟨v, k, r, h0, hd, q⟩ := hh
  obtain ⟨a, xs, u, rfl, hT, hi, hu⟩ := hd.item (i := 0) rfl
  cases hu
  refine ⟨_, h0, a, xs, _, _, rfl, rfl, hT, hi, rfl, _, rfl, ?_⟩
  rw [dec_str]
  exact q
/-- a comprehension over a tuple, each item to be asked of something that makes new things -/
theorem lc_funT2 {K : PySem.W.Frag} {a : Addr} {xs : List V} {te : TE} {j : Nat} {σ : St} {H1 : Hp} {D : Addr} {Qd : Hp → Prop} (f : Nat → V) (nD : H1 D = none) (ha : SqT K H1 a xs) (hz : xs.length ≤ 1000) (hw : ∀ x, wipe ((wipe σ [j]).set j (some x)) [j] = wipe σ [j])
    (he : ∀ i x H' Q, xs[i]? = some x → Same H1 H' → (∀ H'', Same H' H'' → Q (f i) H'') → te ((wipe σ [j]).set j (some x)) H' Q) (hd : ∀ H', Same H1 H' → H' D = some (.lst ((List.range xs.length).map f)) → Qd H') :
    ∃ W : Nat → Nat → Hp → Prop, (∃ m, W 0 m (upd H1 D (.lst []))) ∧ ∀ i m H, W i m H →
      ((Itt K a).stop i H ∧ Qd H) ∨ ((Itt K a).go i H ∧ ∃ Nx : Hp → Prop, (∀ H', Nx H' → ∃ m', m' < m ∧ W (i + 1) m' H') ∧ ∀ x H', (Itt K a).yld i H x H' → (gName j) x (wipe σ [j]) H' fun σ2 H2 => wipe σ2 [j] = wipe σ [j] ∧ tYes σ2 H2 fun b H3 =>
        if b = true then te σ2 H3 fun y H4 => ∃ acc, H4 D = some (.lst acc) ∧ acc.length < sizeLine ∧ Nx (upd H4 D (.lst (acc ++ [y]))) else Nx H3) := by
  refine lc_tup (K := K) (a := a) (xs := xs) (fun i H' => i ≤ xs.length ∧ Same H1 H' ∧ H' D = some (.lst ((List.range i).map f))) ⟨Nat.zero_le _, K0.same_upd nD, upd_same⟩ (fun i H' _ ⟨_, s, _⟩ => K0.seqT_same s ha) ?_ (fun H' ⟨_, s, h⟩ => hd H' s h)
  intro i x H' hi ⟨hle, s, h⟩
  have hlt := (List.getElem?_eq_some_iff.mp hi).1
  refine ⟨hw x, ?_⟩
  unfold tYes
  dsimp only
  rw [if_pos rfl]
  refine he i x H' _ hi s fun H'' s2 => ⟨_, s2 _ _ h, ?_, hlt, K0.same_over (s.trans s2) nD, ?_⟩
  · rw [List.length_map, List.length_range, sizeLine_eq]
    omega
  · rw [upd_same, List.range_succ, List.map_append]
    rfl
theorem range_words : ∀ (l : List It) , (List.range l.length).map (fun i => V.str (sO ((l.getD i (.leaf [] [])).word))) = (l.map fun x => sO x.word).map V.str := by
  intro l
  refine List.ext_getElem? fun i => ?_
  rw [List.getElem?_map, List.getElem?_map, List.getElem?_map]
  by_cases h : i < l.length
  · rw [List.getElem?_range h, List.getElem?_eq_getElem h]
    show some (V.str (sO ((l.getD i (.leaf [] [])).word))) = _
    rw [List.getD_eq_getElem?_getD, List.getElem?_eq_getElem h]
    rfl
  · rw [List.getElem?_eq_none (by rw [List.length_range]; omega), List.getElem?_eq_none (by omega)]
    rfl
theorem DQ.last {K : PySem.W.Frag} {H : Hp} {v : V} {ds : List PyData} {d : PyData} (h : DQ K H v (.tuple (ds ++ [d]))) (hl : ds.length ≤ 1000) : ∃ a xs u, v = .ref a ∧ SqT K H a xs ∧ atI xs (-1) = some u ∧ DQ K H u d := by
  cases h with
  | @tup a xs _ h1 h2 =>
    obtain ⟨u, e, q⟩ := h2.get (i := ds.length) (d := d) (by rw [List.getElem?_append_right (Nat.le_refl _), Nat.sub_self]; rfl)
    have hl2 := h2.len
    rw [List.length_append] at hl2
    refine ⟨a, xs, u, rfl, h1, atI_end ?_ (by simp at hl2; omega), q⟩
    rw [List.getLast?_eq_getElem?, hl2]
    exact e
theorem wB_le {n : Nat} (h : n ≤ 3) : wB n ≤ 251 := by
  match n, h with
  | 0, _ => decide
  | 1, _ => decide
  | 2, _ => decide
  | 3, _ => decide
theorem dB_le {n : Nat} (h : n ≤ 3) : 3 * (dB n + 1) ≤ 2 ^ 17 := by
  match n, h with
  | 0, _ => decide
  | 1, _ => decide
  | 2, _ => decide
  | 3, _ => decide
theorem NdK.kind {h : List PyData} {o : List Nat} {b : Bool} (k : NdK h o b) : ∃ kn r, h = .str kn :: r ∧ decide (kn = ("number" : Str)) = false ∧ decide (kn = ("lost" : Str)) = false ∧ decide (kn = ("use" : Str)) = false ∧ h.length ≤ 2 := by
  cases k with
  | block => exact ⟨_, _, rfl, by decide +kernel, by decide +kernel, by decide +kernel, by decide⟩
  | sum => exact ⟨_, _, rfl, by decide +kernel, by decide +kernel, by decide +kernel, by decide⟩
  | product => exact ⟨_, _, rfl, by decide +kernel, by decide +kernel, by decide +kernel, by decide⟩
  | let_ w hw => exact ⟨_, _, rfl, by decide +kernel, by decide +kernel, by decide +kernel, Nat.le_refl _⟩
theorem lit_open : ("(" : Str) = sO [40] := by decide +kernel
theorem lit_close : (")" : Str) = sO [41] := by decide +kernel
theorem lit_sum : ("(+" : Str) = sO [40, 43] := by decide +kernel
theorem lit_product : ("(*" : Str) = sO [40, 42] := by decide +kernel
theorem lit_eq : (" =" : Str) = sO [32, 61] := by decide +kernel
def spWord (K : PySem.W.Frag) (n : Nat) : Sp := fun vs H Q _ => ∃ v x, vs = [v] ∧ Dr n x ∧ DQ K H v x.dat ∧ ∀ H', Same H H' → Q (.str (sO x.word)) H'
/-- what shows in a repr of items -/
theorem shown_small {d : PyData} {W : Nat} {k : Nat} (h : Nice k W d) (hW : W ≤ 2 ^ 17) : d.shown.length ≤ 3000000 := by
  have z := PyData.shown_le 13 (by decide) d h.lv
  have e : (2 : Nat) ^ 17 = 131072 := by decide
  have := h.wt
  omega
abbrev NW : List Str := ["_law_item_here", "_law_words", "_law_opening", "_law_one_here"]
section
variable {P : Program} {w : World} {K : PySem.W.Frag} {mg : Str → Option Value} {base : Heap}
theorem sc_word : FnScope NW ["_law_item_here"] (defScope (top 32)) := ⟨rfl, rfl, rfl, by decide +kernel, rfl, by decide +kernel, by decide +kernel⟩
theorem cl_word (T : All K mg) : ∀ n : Nat, n ≤ 3 → ClG P w K mg base (n + 1) "_law_word" ["_law_item_here"] (spWord K n) := by
  obtain ⟨g, fd, D⟩ := T.dn 32 _ _ rfl
  intro n
  induction n with
  | zero =>
    intro _
    refine ⟨g, fd, okG D.fn sc_word (fun vs H Q E h => ?_) (fun cdv A outer s H vs Q E hgd hr h => ?_), D.mg, D.fn.kp, D.bn⟩
    · obtain ⟨v, x, rfl, _⟩ := h
      rfl
    · obtain ⟨v, x, rfl, hx, hd, k⟩ := h
      refine ⟨_, (pss_cons (ps_if (pt_imp (t' := tKind K "number") (pt_cmpR op_eq (pe_ix ix_tup (pv 0) pe_int (fun _ _ => rfl)) pe_str (nomark _)) (fun σ H Q hh => kind_ask hh)) (pss_one (ps_ret (pe_callTy (call_strAny hgd hr.units) (by rfl) T.bi.str (by decide +kernel) (pa_cons (pe_ix ix_tup (pv 0) pe_int (fun _ _ => rfl)) pa_nil)))) pss_nil)
      (pss_cons (ps_if (pt_imp (t' := tKind K "lost") (pt_cmpR op_eq (pe_ix ix_tup (pv 0) pe_int (fun _ _ => rfl)) pe_str (nomark _)) (fun σ H Q hh => kind_ask hh)) (pss_one (ps_ret pe_str)) pss_nil)
      (pss_cons (ps_if (pt_imp (t' := tKind K "use") (pt_cmpR op_eq (pe_ix ix_tup (pv 0) pe_int (fun _ _ => rfl)) pe_str (nomark _)) (fun σ H Q hh => kind_ask hh)) (pss_one (ps_ret (pe_ix ix_tup (pv 0) pe_int (fun _ _ => rfl)))) pss_nil)
      (pss_cons ps_never
      (pss_cons ps_never
      (pss_cons ps_never
      (pss_one ps_never))))))), ?_⟩
      cases hx with
      | leaf hk =>
        rw [It.dat] at hd
        rw [It.word] at k
        cases hk with
        | num m hm =>
          refine ⟨v, _, _, rfl, hd, ?_⟩
          rw [decide_eq_true rfl]
          obtain ⟨a1, xs1, u1, rfl, hT1, hi1, hu1⟩ := hd.item (i := 1) rfl
          cases hu1
          refine iteT ⟨_, rfl, a1, xs1, _, _, rfl, rfl, hT1, hi1, .inl ⟨_, rfl, ?_, ?_⟩⟩
          · exact Nat.lt_of_le_of_lt (Nat.log2_le_self _) (by omega)
          · have e := num_text ⟨m, hm⟩
            have e' : Str.ofString (toString (m : Int)) = sO (numC m) := e
            show Q (.str (Str.ofString (toString (m : Int)))) H
            rw [e']
            exact k H (Same.refl H)
        | lost =>
          refine ⟨v, _, _, rfl, hd, ?_⟩
          rw [show decide (("lost" : Str) = "number") = false from by decide +kernel]
          refine iteF ⟨v, _, _, rfl, hd, ?_⟩
          rw [decide_eq_true rfl]
          refine iteT ?_
          have e : ("?" : Str) = sO [63] := by decide +kernel
          show Q (.str "?") H
          rw [e]
          exact k H (Same.refl H)
        | use w hw =>
          refine ⟨v, _, _, rfl, hd, ?_⟩
          rw [show decide (("use" : Str) = "number") = false from by decide +kernel]
          refine iteF ⟨v, _, _, rfl, hd, ?_⟩
          rw [show decide (("use" : Str) = "lost") = false from by decide +kernel]
          refine iteF ⟨v, _, _, rfl, hd, ?_⟩
          rw [decide_eq_true rfl]
          obtain ⟨a1, xs1, u1, rfl, hT1, hi1, hu1⟩ := hd.item (i := 1) rfl
          cases hu1
          exact iteT ⟨_, rfl, a1, xs1, _, _, rfl, rfl, hT1, hi1, k H (Same.refl H)⟩
  | succ n ih =>
    intro hn3
    have IH := ih (by omega)
    refine ⟨g, fd, okG D.fn sc_word (fun vs H Q E h => ?_) (fun cdv A outer s H vs Q E hgd hr h => ?_), D.mg, D.fn.kp, D.bn⟩
    · obtain ⟨v, x, rfl, _⟩ := h
      rfl
    · obtain ⟨v, x, rfl, hx, hd, k⟩ := h
      have hrn : Room (n + 1) _ := hr
      refine ⟨_, (pss_cons (ps_if (pt_imp (t' := tKind K "number") (pt_cmpR op_eq (pe_ix ix_tup (pv 0) pe_int (fun _ _ => rfl)) pe_str (nomark _)) (fun σ H Q hh => kind_ask hh)) (pss_one (ps_ret (pe_callTy (call_strAny hgd hr.units) (by rfl) T.bi.str (by decide +kernel) (pa_cons (pe_ix ix_tup (pv 0) pe_int (fun _ _ => rfl)) pa_nil)))) pss_nil)
      (pss_cons (ps_if (pt_imp (t' := tKind K "lost") (pt_cmpR op_eq (pe_ix ix_tup (pv 0) pe_int (fun _ _ => rfl)) pe_str (nomark _)) (fun σ H Q hh => kind_ask hh)) (pss_one (ps_ret pe_str)) pss_nil)
      (pss_cons (ps_if (pt_imp (t' := tKind K "use") (pt_cmpR op_eq (pe_ix ix_tup (pv 0) pe_int (fun _ _ => rfl)) pe_str (nomark _)) (fun σ H Q hh => kind_ask hh)) (pss_one (ps_ret (pe_ix ix_tup (pv 0) pe_int (fun _ _ => rfl)))) pss_nil)
      (pss_cons (ps_setLc (i := 1) (own := [("_law_one_here", 3)]) (g := gName 3) (tt := tYes) (te := (tCall (spWord K n) [] E0 (tCons (tVar 3) tNil))) rfl sc_word.nd rfl rfl (sw_true rfl rfl rfl (by decide +kernel)) (pi_tup (pe_ix ix_tup (pv 0) (pe_un un_neg pe_int) (fun _ _ => rfl))) (blkOk_by (own := [("_law_one_here", 3)]) (N := NW) (sc := defScope (top 32)) (by decide +kernel)) (fun _ _ _ _ _ => (pg_name (i := 3) sc_word.nd rfl (Or.inl rfl))) (fun _ _ _ _ _ => pts_nil) (fun _ _ _ _ _ => (pe_clG IH hgd hrn (Nat.le_refl _) (pa_cons (pv 3) pa_nil))))
      (pss_cons (ps_if (pt_imp (t' := tKind K "block") (pt_cmpR op_eq (pe_ix ix_tup (pv 0) pe_int (fun _ _ => rfl)) pe_str (nomark _)) (fun σ H Q hh => kind_ask hh)) (pss_one (ps_ret (pe_op op_add_str (pe_op op_add_str pe_str (pe_join pe_str (pv 1))) pe_str))) pss_nil)
      (pss_cons (ps_set (i := 2) sc_word.nd rfl (Or.inl rfl) (pe_dget2 (hu_of hr) (pe_disp (pps_cons pe_str pe_str (pps_cons pe_str pe_str pps_nil)) (by rfl) (by rfl) (fun z => by cases z) (by decide)) (pe_ix ix_tup (pv 0) pe_int (fun _ _ => rfl)) (pe_op op_add_str (pe_op op_add_str pe_str (pe_callTy (call_strAny hgd hr.units) (by rfl) T.bi.str (by decide +kernel) (pa_cons (pe_ix ix_tup (pv 0) pe_int (fun _ _ => rfl)) pa_nil))) pe_str) ⟨by rfl, by rfl, by rfl, by rfl⟩))
      (pss_one (ps_ret (pe_op op_add_str (pe_join pe_str (pe_op op_cat (pe_lst (pa_cons (pv 2) pa_nil)) (pv 1))) pe_str))))))))), ?_⟩
      cases hx with
      | leaf hk =>
        rw [It.dat] at hd
        rw [It.word] at k
        cases hk with
        | num m hm =>
          refine ⟨v, _, _, rfl, hd, ?_⟩
          rw [decide_eq_true rfl]
          obtain ⟨a1, xs1, u1, rfl, hT1, hi1, hu1⟩ := hd.item (i := 1) rfl
          cases hu1
          refine iteT ⟨_, rfl, a1, xs1, _, _, rfl, rfl, hT1, hi1, .inl ⟨_, rfl, ?_, ?_⟩⟩
          · exact Nat.lt_of_le_of_lt (Nat.log2_le_self _) (by omega)
          · have e := num_text ⟨m, hm⟩
            have e' : Str.ofString (toString (m : Int)) = sO (numC m) := e
            show Q (.str (Str.ofString (toString (m : Int)))) H
            rw [e']
            exact k H (Same.refl H)
        | lost =>
          refine ⟨v, _, _, rfl, hd, ?_⟩
          rw [show decide (("lost" : Str) = "number") = false from by decide +kernel]
          refine iteF ⟨v, _, _, rfl, hd, ?_⟩
          rw [decide_eq_true rfl]
          refine iteT ?_
          have e : ("?" : Str) = sO [63] := by decide +kernel
          show Q (.str "?") H
          rw [e]
          exact k H (Same.refl H)
        | use w hw =>
          refine ⟨v, _, _, rfl, hd, ?_⟩
          rw [show decide (("use" : Str) = "number") = false from by decide +kernel]
          refine iteF ⟨v, _, _, rfl, hd, ?_⟩
          rw [show decide (("use" : Str) = "lost") = false from by decide +kernel]
          refine iteF ⟨v, _, _, rfl, hd, ?_⟩
          rw [decide_eq_true rfl]
          obtain ⟨a1, xs1, u1, rfl, hT1, hi1, hu1⟩ := hd.item (i := 1) rfl
          cases hu1
          exact iteT ⟨_, rfl, a1, xs1, _, _, rfl, rfl, hT1, hi1, k H (Same.refl H)⟩
      | @node _ h o b l hk hl hc =>
        rw [It.dat] at hd
        rw [word_node] at k
        obtain ⟨kn, kr, eh, f1, f2, f3, hl2⟩ := hk.kind
        have hdl := hd
        rw [eh] at hd
        refine ⟨v, _, _, rfl, hd, ?_⟩
        rw [f1]
        refine iteF ⟨v, _, _, rfl, hd, ?_⟩
        rw [f2]
        refine iteF ⟨v, _, _, rfl, hd, ?_⟩
        rw [f3]
        have hBn : wB n ≤ 251 := wB_le (by omega)
        have hBl : ∀ x ∈ l, x.word.length ≤ 251 := fun x hx => Nat.le_trans (hc x hx).len hBn
        have hg := gapped_len hBl
        have hg' : l.length * (251 + 1) ≤ 3 * 252 := Nat.mul_le_mul_right _ hl
        obtain ⟨a, xs, u, rfl, hT, hi, hu⟩ := hdl.last (by omega)
        obtain ⟨ti, xs2, rfl, hT2, hD2⟩ : ∃ ti xs2, u = .ref ti ∧ SqT K H ti xs2 ∧ DQs K H xs2 (datL l) := by
          cases hu with
          | tup h1 h2 => exact ⟨_, _, rfl, h1, h2⟩
        have lx2 : xs2.length = l.length := by rw [hD2.len, datL_map, List.length_map]
        refine iteF ⟨_, rfl, _, rfl, a, xs, _, _, rfl, rfl, hT, hi, ti, rfl, ⟨_, hT2⟩, fun L nL => ?_⟩
        refine lc_funT2 (K := K) (a := ti) (xs := xs2) (j := 3) (fun i => V.str (sO ((l.getD i (.leaf [] [])).word))) nL hT2 (by omega) (fun _ => rfl) ?_ ?_
        · intro i y H' Q' hy s' q'
          have hlt := (List.getElem?_eq_some_iff.mp hy).1
          have el : l[i]? = some l[i] := List.getElem?_eq_getElem (by omega)
          obtain ⟨y', ey, dy⟩ := hD2.get (i := i) (d := l[i].dat) (by rw [datL_map, List.getElem?_map, el]; rfl)
          rw [hy] at ey
          cases ey
          refine ⟨_, rfl, y, l[i], rfl, hc _ (List.getElem_mem _), dy.to s', fun H'' s'' => ?_⟩
          have := q' H'' s''
          rw [List.getD_eq_getElem?_getD, el] at this
          exact this
        · intro H1 s1 hL
          rw [lx2, range_words] at hL
          have hd1 := hd.to s1
          have hdl1 := hdl.to s1
          refine ⟨_, _, _, rfl, hd1, ?_⟩
          have hsum := sum_words hBl
          have hlw : (l.map fun x => sO x.word).length = l.length := List.length_map _
          have sum3 : l.length * 251 ≤ 3 * 251 := Nat.mul_le_mul_right _ hl
          cases hk with
          | block =>
            cases eh
            rw [decide_eq_true rfl]
            refine iteT ⟨⟨_, rfl⟩, _, rfl, _, L, l.map (fun x => sO x.word), rfl, rfl, .inl (SqL.of hL), ?_, _, _, rfl, rfl, ?_, _, _, rfl, rfl, ?_, ?_⟩
            · rw [hlw, blank, sO_len]
              show _ + l.length * 1 ≤ _
              omega
            · rw [blank, join_words, lit_open, sO_len, sO_len, sizeLine_eq]
              unfold textM
              rw [List.length_drop]
              show 1 + _ ≤ _
              omega
            · rw [blank, join_words, lit_open, sO_app, lit_close, sO_len, sO_len, sizeLine_eq]
              unfold textM
              rw [List.length_append, List.length_drop]
              show 1 + _ + 1 ≤ _
              omega
            · rw [blank, join_words, lit_open, sO_app, lit_close, sO_app]
              exact k H1 s1
          | sum =>
            cases eh
            rw [show decide (("sum" : Str) = "block") = false from by decide +kernel]
            refine iteF (fun pd nd => ⟨upd_same, [((.inr "sum" : Key), V.str "(+"), (.inr "product", .str "(*")], rfl, by decide, pd, rfl, .inl ⟨_, .inl upd_same⟩, ?_⟩)
            have s3 : Same H1 (upd (upd H1 pd (.dK [])) pd (.dK (mergeK [] [((.inr "sum" : Key), V.str "(+"), (.inr "product", .str "(*")]))) := fun b u e => by
              rw [upd_ne (ne_of_none e nd), upd_ne (ne_of_none e nd)]
              exact e
            have gd : (upd (upd H1 pd (.dK [])) pd (.dK (mergeK [] [((.inr "sum" : Key), V.str "(+"), (.inr "product", .str "(*")]))) pd = some (.dK (mergeK [] [((.inr "sum" : Key), V.str "(+"), (.inr "product", .str "(*")])) := upd_same
            generalize upd (upd H1 pd (.dK [])) pd (.dK (mergeK [] [((.inr "sum" : Key), V.str "(+"), (.inr "product", .str "(*")])) = H3 at s3 gd ⊢
            obtain ⟨a3, xs3, u3, ea3, hT3, hi3, hu3⟩ := (hdl1.to s3).item (i := 0) rfl
            cases ea3
            cases hu3
            obtain ⟨a4, xs4, u4, ea4, hT4, hi4, hu4⟩ := (hdl1.to s3).item (i := 1) rfl
            cases ea4
            have hnice := items_nice hl fun x hx => (hc x hx).nice
            have hsh : Shows K H3 u4 (.tuple (datL l)) := shows_of hu4 hnice (by omega) (Nat.le_trans (dB_le (by omega)) (by decide)) fun z => absurd z (by
              have hp : Pure (.tuple (datL l)) := by
                rw [datL_map]
                refine Pure.tuple fun d hd => ?_
                obtain ⟨y, hy, rfl⟩ := List.mem_map.mp hd
                exact (hc y hy).pure
              rw [hp.1]
              exact Bool.false_ne_true)
            have hshl := shown_small hnice (dB_le (by omega))
            refine ⟨_, rfl, a, xs3, _, _, rfl, rfl, hT3, hi3, _, rfl, a, xs4, _, _, rfl, rfl, hT4, hi4, .inr (.inr ⟨u4, _, rfl, hsh, _, _, rfl, rfl, ?_, _, _, rfl, rfl, ?_, ?_⟩)⟩
            · rw [lit_open, sO_len, sizeLine_eq]
              show 1 + _ ≤ _
              omega
            · have e : ("(" ++ PyData.shown (.tuple (datL l)) : Str).length = 1 + (PyData.shown (.tuple (datL l))).length := by
                show (("(" : Str).cps ++ (PyData.shown (.tuple (datL l))).cps).size = _
                rw [Array.size_append]
                rfl
              rw [e, sizeLine_eq]
              show _ + 2 ≤ _
              omega
            have ev : valV (mergeK [] [((.inr "sum" : Key), V.str "(+"), (.inr "product", .str "(*")]) (.inr ("sum" : Str)) = some (.str "(+") := by decide +kernel
            refine ⟨_, .inl ⟨_, .inr ("sum" : Str), .inl gd, rfl, rfl⟩, ?_⟩
            rw [ev]
            rw [Option.getD_some, lit_sum]
            refine ⟨⟨_, rfl⟩, _, rfl, sizeL (m := 1) (Nat.le_refl _), fun q nq => ⟨_, rfl, q, L, _, _, rfl, rfl, upd_same, (upd_ne (ne_of_none (s3 _ _ hL) nq)).trans (s3 _ _ hL), ?_, fun s' ns => ⟨_, s', sO [40, 43] :: l.map (fun x => sO x.word), rfl, rfl, .inl (SqL.of upd_same), ?_, _, _, rfl, rfl, ?_, ?_⟩⟩⟩
            · rw [List.length_map, hlw, sizeLine_eq]
              show 1 + _ ≤ _
              omega
            · rw [List.map_cons, List.sum_cons, List.length_cons, hlw, blank, sO_len, sO_len]
              show 2 + _ + (l.length + 1) * 1 ≤ _
              omega
            · rw [blank, join_cons, lit_close, sO_len, sO_len, sizeLine_eq, List.length_append]
              show 2 + _ + 1 ≤ _
              omega
            · rw [blank, join_cons, lit_close, sO_app, List.append_assoc]
              exact k _ (((s1.trans s3).trans (K0.same_upd nq)).trans (K0.same_upd ns))
          | product =>
            cases eh
            rw [show decide (("product" : Str) = "block") = false from by decide +kernel]
            refine iteF (fun pd nd => ⟨upd_same, [((.inr "sum" : Key), V.str "(+"), (.inr "product", .str "(*")], rfl, by decide, pd, rfl, .inl ⟨_, .inl upd_same⟩, ?_⟩)
            have s3 : Same H1 (upd (upd H1 pd (.dK [])) pd (.dK (mergeK [] [((.inr "sum" : Key), V.str "(+"), (.inr "product", .str "(*")]))) := fun b u e => by
              rw [upd_ne (ne_of_none e nd), upd_ne (ne_of_none e nd)]
              exact e
            have gd : (upd (upd H1 pd (.dK [])) pd (.dK (mergeK [] [((.inr "sum" : Key), V.str "(+"), (.inr "product", .str "(*")]))) pd = some (.dK (mergeK [] [((.inr "sum" : Key), V.str "(+"), (.inr "product", .str "(*")])) := upd_same
            generalize upd (upd H1 pd (.dK [])) pd (.dK (mergeK [] [((.inr "sum" : Key), V.str "(+"), (.inr "product", .str "(*")])) = H3 at s3 gd ⊢
            obtain ⟨a3, xs3, u3, ea3, hT3, hi3, hu3⟩ := (hdl1.to s3).item (i := 0) rfl
            cases ea3
            cases hu3
            obtain ⟨a4, xs4, u4, ea4, hT4, hi4, hu4⟩ := (hdl1.to s3).item (i := 1) rfl
            cases ea4
            have hnice := items_nice hl fun x hx => (hc x hx).nice
            have hsh : Shows K H3 u4 (.tuple (datL l)) := shows_of hu4 hnice (by omega) (Nat.le_trans (dB_le (by omega)) (by decide)) fun z => absurd z (by
              have hp : Pure (.tuple (datL l)) := by
                rw [datL_map]
                refine Pure.tuple fun d hd => ?_
                obtain ⟨y, hy, rfl⟩ := List.mem_map.mp hd
                exact (hc y hy).pure
              rw [hp.1]
              exact Bool.false_ne_true)
            have hshl := shown_small hnice (dB_le (by omega))
            refine ⟨_, rfl, a, xs3, _, _, rfl, rfl, hT3, hi3, _, rfl, a, xs4, _, _, rfl, rfl, hT4, hi4, .inr (.inr ⟨u4, _, rfl, hsh, _, _, rfl, rfl, ?_, _, _, rfl, rfl, ?_, ?_⟩)⟩
            · rw [lit_open, sO_len, sizeLine_eq]
              show 1 + _ ≤ _
              omega
            · have e : ("(" ++ PyData.shown (.tuple (datL l)) : Str).length = 1 + (PyData.shown (.tuple (datL l))).length := by
                show (("(" : Str).cps ++ (PyData.shown (.tuple (datL l))).cps).size = _
                rw [Array.size_append]
                rfl
              rw [e, sizeLine_eq]
              show _ + 2 ≤ _
              omega
            have ev : valV (mergeK [] [((.inr "sum" : Key), V.str "(+"), (.inr "product", .str "(*")]) (.inr ("product" : Str)) = some (.str "(*") := by decide +kernel
            refine ⟨_, .inl ⟨_, .inr ("product" : Str), .inl gd, rfl, rfl⟩, ?_⟩
            rw [ev]
            rw [Option.getD_some, lit_product]
            refine ⟨⟨_, rfl⟩, _, rfl, sizeL (m := 1) (Nat.le_refl _), fun q nq => ⟨_, rfl, q, L, _, _, rfl, rfl, upd_same, (upd_ne (ne_of_none (s3 _ _ hL) nq)).trans (s3 _ _ hL), ?_, fun s' ns => ⟨_, s', sO [40, 42] :: l.map (fun x => sO x.word), rfl, rfl, .inl (SqL.of upd_same), ?_, _, _, rfl, rfl, ?_, ?_⟩⟩⟩
            · rw [List.length_map, hlw, sizeLine_eq]
              show 1 + _ ≤ _
              omega
            · rw [List.map_cons, List.sum_cons, List.length_cons, hlw, blank, sO_len, sO_len]
              show 2 + _ + (l.length + 1) * 1 ≤ _
              omega
            · rw [blank, join_cons, lit_close, sO_len, sO_len, sizeLine_eq, List.length_append]
              show 2 + _ + 1 ≤ _
              omega
            · rw [blank, join_cons, lit_close, sO_app, List.append_assoc]
              exact k _ (((s1.trans s3).trans (K0.same_upd nq)).trans (K0.same_upd ns))
          | let_ w hw =>
            cases eh
            rw [show decide (("let" : Str) = "block") = false from by decide +kernel]
            refine iteF (fun pd nd => ⟨upd_same, [((.inr "sum" : Key), V.str "(+"), (.inr "product", .str "(*")], rfl, by decide, pd, rfl, .inl ⟨_, .inl upd_same⟩, ?_⟩)
            have s3 : Same H1 (upd (upd H1 pd (.dK [])) pd (.dK (mergeK [] [((.inr "sum" : Key), V.str "(+"), (.inr "product", .str "(*")]))) := fun b u e => by
              rw [upd_ne (ne_of_none e nd), upd_ne (ne_of_none e nd)]
              exact e
            have gd : (upd (upd H1 pd (.dK [])) pd (.dK (mergeK [] [((.inr "sum" : Key), V.str "(+"), (.inr "product", .str "(*")]))) pd = some (.dK (mergeK [] [((.inr "sum" : Key), V.str "(+"), (.inr "product", .str "(*")])) := upd_same
            generalize upd (upd H1 pd (.dK [])) pd (.dK (mergeK [] [((.inr "sum" : Key), V.str "(+"), (.inr "product", .str "(*")])) = H3 at s3 gd ⊢
            obtain ⟨a3, xs3, u3, ea3, hT3, hi3, hu3⟩ := (hdl1.to s3).item (i := 0) rfl
            cases ea3
            cases hu3
            obtain ⟨a4, xs4, u4, ea4, hT4, hi4, hu4⟩ := (hdl1.to s3).item (i := 1) rfl
            cases ea4
            cases hu4
            obtain ⟨w1, w2, w3⟩ := name_len hw
            refine ⟨_, rfl, a, xs3, _, _, rfl, rfl, hT3, hi3, _, rfl, a, xs4, _, _, rfl, rfl, hT4, hi4, .inr (.inl ⟨_, rfl, _, _, rfl, rfl, ?_, _, _, rfl, rfl, ?_, ?_⟩)⟩
            · rw [lit_open, sO_len, sO_len, sizeLine_eq]
              show 1 + _ ≤ _
              omega
            · rw [lit_open, sO_app, sO_len, lit_eq, sO_len, sizeLine_eq]
              simp only [List.length_append, List.length_cons, List.length_nil]
              omega
            have ev : valV (mergeK [] [((.inr "sum" : Key), V.str "(+"), (.inr "product", .str "(*")]) (.inr ("let" : Str)) = none := by decide +kernel
            refine ⟨_, .inl ⟨_, .inr ("let" : Str), .inl gd, rfl, rfl⟩, ?_⟩
            rw [ev]
            rw [Option.getD_none, lit_open, sO_app, lit_eq, sO_app]
            have ol : ([40] ++ w ++ [32, 61]).length = w.length + 3 := by simp
            refine ⟨⟨_, rfl⟩, _, rfl, sizeL (m := 1) (Nat.le_refl _), fun q nq => ⟨_, rfl, q, L, _, _, rfl, rfl, upd_same, (upd_ne (ne_of_none (s3 _ _ hL) nq)).trans (s3 _ _ hL), ?_, fun s' ns => ⟨_, s', sO ([40] ++ w ++ [32, 61]) :: l.map (fun x => sO x.word), rfl, rfl, .inl (SqL.of upd_same), ?_, _, _, rfl, rfl, ?_, ?_⟩⟩⟩
            · rw [List.length_map, hlw, sizeLine_eq]
              show 1 + _ ≤ _
              omega
            · rw [List.map_cons, List.sum_cons, List.length_cons, hlw, blank, sO_len, sO_len]
              rw [ol]
              show w.length + 3 + _ + (l.length + 1) * 1 ≤ _
              omega
            · rw [blank, join_cons, lit_close, sO_len, sO_len, sizeLine_eq, List.length_append]
              rw [ol]
              show w.length + 3 + _ + 1 ≤ _
              omega
            · rw [blank, join_cons, lit_close, sO_app, List.append_assoc]
              exact k _ (((s1.trans s3).trans (K0.same_upd nq)).trans (K0.same_upd ns))
end
end K1
set_option maxHeartbeats 4000000
/-! _law_text, _law_spans -/
namespace K1
open PySem L2
def spText (K : PySem.W.Frag) : Sp := fun vs H Q _ => ∃ v its, vs = [v] ∧ its.length ≤ 4 ∧ (∀ x ∈ its, Dr 3 x) ∧ DQ K H v (.tuple (datL its)) ∧ ∀ H', Same H H' → Q (.str (sO (textM its))) H'
theorem gapped_app : ∀ (l m : List It), gapped (l ++ m) = gapped l ++ gapped m
  | [], m => by rw [gapped]; rfl
  | x :: r, m => by
    rw [List.cons_append, gapped, gapped, gapped_app r m]
    simp
theorem rowsL_snoc (x : It) : ∀ (l : List It) (p : List Int) (k a : Nat), rowsL p k a (l ++ [x]) = rowsL p k a l ++ x.rows (p ++ [((k + l.length : Nat) : Int)]) (a + (gapped l).length)
  | [], p, k, a => by
    rw [List.nil_append, rowsL, rowsL, rowsL, gapped]
    simp
  | y :: r, p, k, a => by
    rw [List.cons_append, rowsL, rowsL, rowsL_snoc x r, List.append_assoc, gapped]
    have e1 : k + 1 + r.length = k + (y :: r).length := by rw [List.length_cons]; omega
    have e2 : a + y.word.length + 1 + (gapped r).length = a + (32 :: (y.word ++ gapped r)).length := by
      rw [List.length_cons, List.length_append]; omega
    rw [e1, e2]
theorem flat_row (r : List Int × Int × Int) : Flat (rowD r) := by
  refine .tup (.cons (.tup (Flats.of fun e he => ?_)) (.cons (.int _) (.cons (.int _) .nil)))
  obtain ⟨i, _, rfl⟩ := List.mem_map.mp he
  exact .int i
theorem flats_rows (rs : List (List Int × Int × Int)) : Flats (rs.map rowD) := Flats.of fun e he => by
  obtain ⟨r, _, rfl⟩ := List.mem_map.mp he
  exact flat_row r
/-- a path, and a number behind it -/
theorem path_cat {K : PySem.W.Frag} {H : Hp} {v u : V} {l : List Int} {i : Int} {Q : VK} (h : DQ K H v (pathD l)) (g : DQ K H u (pathD [i])) (hl : l.length ≤ 1000) (k : ∀ H' z, Same H H' → DQ K H' z (pathD (l ++ [i])) → Q z H') : rCatA K v u H Q := by
  have g0 := g
  cases h with
  | @tup a xs _ h1 h2 =>
    cases g with
    | @tup b ys _ g1 g2 =>
      have l1 := h2.len
      have l2 := g2.len
      rw [List.length_map] at l1 l2
      refine ⟨a, b, xs, ys, rfl, rfl, h1, g1, by rw [sizeLine_eq, l2]; show _ + 1 ≤ _; omega, fun e => ?_, fun _ e => ?_, fun _ _ q nq => ?_⟩
      · subst e
        cases l with
        | nil => exact k H _ (Same.refl H) g0
        | cons _ _ => cases l1
      · subst e
        cases l2
      · have s1 := K0.same_upd (o := .tup (xs ++ ys)) nq
        refine k _ _ s1 (.tup (.inl (.inl upd_same)) ?_)
        rw [List.map_append]
        exact (h2.to s1).app (g2.to s1)
def spSp (K : PySem.W.Frag) (n : Nat) : Sp := fun vs H Q _ => ∃ (v pv : V) (pth : List Int) (f : Nat) (l : List It), vs = [v, pv, .int (f : Int)] ∧ l.length ≤ 4 ∧ (∀ x ∈ l, Dr n x) ∧ pth.length + n ≤ 10 ∧ DQ K H v (.tuple (datL l)) ∧ DQ K H pv (pathD pth) ∧
  ∀ H' q vs, Same H H' → H q = none → H' q = some (.lst vs) → DQs K (hid q H') vs ((rowsL pth 0 f l).map rowD) → Q (.ref q) H'
section
variable {P : Program} {w : World} {K : PySem.W.Frag} {mg : Str → Option Value} {base : Heap}
theorem sc_text : FnScope ["_law_program_here", "_law_item_here"] ["_law_program_here"] (defScope (top 33)) := ⟨rfl, rfl, rfl, by decide +kernel, rfl, by decide +kernel, by decide +kernel⟩
theorem cl_text (T : All K mg) : ClG P w K mg base 5 "_law_text" ["_law_program_here"] (spText K) := by
  obtain ⟨g, fd, D⟩ := T.dn 33 _ _ rfl
  have IH : ClG P w K mg base 4 "_law_word" ["_law_item_here"] (spWord K 3) := cl_word T 3 (Nat.le_refl _)
  refine ⟨g, fd, okG D.fn sc_text (fun vs H Q E h => ?_) (fun cdv A outer s H vs Q E hgd hr h => ?_), D.mg, D.fn.kp, D.bn⟩
  · obtain ⟨v, its, rfl, _⟩ := h
    rfl
  · obtain ⟨v, its, rfl, hl, hc, hd, k⟩ := h
    refine ⟨_, (pss_one (ps_ret (pe_join pe_str (pe_lc (own := [("_law_item_here", 1)]) (g := gName 1) (tt := tYes) (te := (tCall (spWord K 3) [] E0 (tCons (tVar 1) tNil))) rfl sc_text.nd (pi_tup (pv 0)) (blkOk_by (own := [("_law_item_here", 1)]) (N := ["_law_program_here", "_law_item_here"]) (sc := defScope (top 33)) (by decide +kernel)) (fun _ _ _ _ _ => (pg_name (i := 1) sc_text.nd rfl (Or.inl rfl))) (fun _ _ _ _ _ => pts_nil) (fun _ _ _ _ _ => (pe_clG IH hgd hr (by decide) (pa_cons (pv 1) pa_nil))))))), ?_⟩
    obtain ⟨ti, xs2, rfl, hT2, hD2⟩ : ∃ ti xs2, v = .ref ti ∧ SqT K H ti xs2 ∧ DQs K H xs2 (datL its) := by
      cases hd with
      | tup h1 h2 => exact ⟨_, _, rfl, h1, h2⟩
    have lx2 : xs2.length = its.length := by rw [hD2.len, datL_map, List.length_map]
    refine ⟨⟨_, rfl⟩, _, rfl, ti, rfl, ⟨_, hT2⟩, fun L nL => ?_⟩
    refine lc_funT2 (K := K) (a := ti) (xs := xs2) (j := 1) (fun i => V.str (sO ((its.getD i (.leaf [] [])).word))) nL hT2 (by omega) (fun _ => rfl) ?_ ?_
    · intro i y H' Q' hy s' q'
      have hlt := (List.getElem?_eq_some_iff.mp hy).1
      have el : its[i]? = some its[i] := List.getElem?_eq_getElem (by omega)
      obtain ⟨y', ey, dy⟩ := hD2.get (i := i) (d := its[i].dat) (by rw [datL_map, List.getElem?_map, el]; rfl)
      rw [hy] at ey
      cases ey
      refine ⟨_, rfl, y, its[i], rfl, hc _ (List.getElem_mem _), dy.to s', fun H'' s'' => ?_⟩
      have := q' H'' s''
      rw [List.getD_eq_getElem?_getD, el] at this
      exact this
    · intro H1 s1 hL
      rw [lx2, range_words] at hL
      have hBl : ∀ x ∈ its, x.word.length ≤ 251 := fun x hx => Nat.le_trans (hc x hx).len (by decide)
      have hsum := sum_words hBl
      have sum3 : its.length * 251 ≤ 4 * 251 := Nat.mul_le_mul_right _ hl
      refine ⟨_, L, its.map (fun x => sO x.word), rfl, rfl, .inl (SqL.of hL), ?_, ?_⟩
      · rw [List.length_map, blank, sO_len]
        show _ + its.length * 1 ≤ _
        omega
      · rw [blank, join_words]
        exact k H1 s1
end
end K1
set_option maxHeartbeats 4000000
/-! _law_spans -/
namespace K1
open PySem L2
abbrev NS : List Str := ["_law_items", "_law_path", "_law_first", "_law_rows", "_law_at", "_law_item_here", "_law_own", "_law_behind", "_law_opening"]
/-- what stands when i items have been gone through -/
def PvS (K : PySem.W.Frag) (H : Hp) (v pw : V) (pth : List Int) (f : Nat) (l : List It) : Nat → St → Hp → Prop := fun i σ H' => i ≤ l.length ∧ Same H H' ∧ ∃ (q : Addr) (vs : List V) (o4 o5 o6 o7 o8 : Option V),
  σ = [some v, some pw, some (.int ((f + (gapped (l.take i)).length : Nat) : Int)), some (.ref q), o4, o5, o6, o7, o8] ∧ H q = none ∧ H' q = some (.lst vs) ∧ DQs K (hid q H') vs ((rowsL pth 0 f (l.take i)).map rowD)
/-- a row more -/
theorem cB_le {n : Nat} (h : n ≤ 3) : cB n ≤ 40 := by
  match n, h with
  | 0, _ => decide
  | 1, _ => decide
  | 2, _ => decide
  | 3, _ => decide
theorem rows_more {K : PySem.W.Frag} {q t : Addr} {H' : Hp} {vs : List V} {rs : List (List Int × Int × Int)} {r : List Int × Int × Int} {ov : V} (hq : H' q = some (.lst vs)) (dv : DQs K (hid q H') vs (rs.map rowD)) (do_ : DQ K H' ov (pathD r.1)) (nt : H' t = none) :
    Same (hid q H') (upd (upd H' t (.tup [ov, .int r.2.1, .int r.2.2])) q (.lst (vs ++ [.ref t]))) ∧ DQs K (hid q (upd (upd H' t (.tup [ov, .int r.2.1, .int r.2.2])) q (.lst (vs ++ [.ref t])))) (vs ++ [.ref t]) ((rs ++ [r]).map rowD) := by
  have tq : t ≠ q := fun e => by rw [e, hq] at nt; cases nt
  have s1 := K0.same_upd (o := .tup [ov, .int r.2.1, .int r.2.2]) nt
  have hq1 : (upd H' t (.tup [ov, .int r.2.1, .int r.2.2])) q = some (.lst vs) := by rw [upd_ne (Ne.symm tq)]; exact hq
  refine ⟨fun b u e => ?_, ?_⟩
  · obtain ⟨e1, e2⟩ := hid_at e
    rw [upd_ne e1]
    exact s1 _ _ e2
  · rw [hid_put, List.map_append]
    refine (dv.to (hid_mono s1)).app (.cons ?_ .nil)
    refine .tup (.inl (.inl (by rw [hid_ne tq, upd_same]))) (.cons ?_ (.cons (.int _) (.cons (.int _) .nil)))
    refine Flat.hide hq1 _ _ (.tup (Flats.of fun e he => ?_)) (do_.to s1)
    obtain ⟨i, _, rfl⟩ := List.mem_map.mp he
    exact .int i
section
variable {P : Program} {w : World} {K : PySem.W.Frag} {mg : Str → Option Value} {base : Heap}
theorem sc_lsp : FnScope NS ["_law_items", "_law_path", "_law_first"] (defScope (top 34)) := ⟨rfl, rfl, rfl, by decide +kernel, rfl, by decide +kernel, by decide +kernel⟩
theorem cl_lsp (T : All K mg) (hrange : mg "range" = none) : ∀ n : Nat, n ≤ 3 → ClG P w K mg base (n + 2) "_law_spans" ["_law_items", "_law_path", "_law_first"] (spSp K n) := by
  obtain ⟨g, fd, D⟩ := T.dn 34 _ _ rfl
  intro n
  induction n with
  | zero =>
    intro _
    have WC : ClG P w K mg base 1 "_law_word" ["_law_item_here"] (spWord K 0) := cl_word T 0 (by decide)
    refine ⟨g, fd, okG D.fn sc_lsp (fun vs H Q E h => ?_) (fun cdv A outer s H vs Q E hgd hr h => ?_), D.mg, D.fn.kp, D.bn⟩
    · obtain ⟨v, pw, pth, f, l, rfl, _⟩ := h
      rfl
    · obtain ⟨v, pw, pth, f, l, rfl, hl, hc, hpl, hd, hp, k⟩ := h
      have hrn : Room 1 _ := hr
      have hn3 : 0 ≤ 3 := by decide
      refine ⟨_, (pss_cons (ps_set (i := 3) sc_lsp.nd rfl (Or.inl rfl) (pe_lst pa_nil))
      (pss_cons (ps_for PassesOwn.never rfl (pi_range1 rfl hrange (pa_cons (pe_callB call_len_seq (by rfl) T.bi.len PySem.boot_len (pa_cons (pv 0) pa_nil)) pa_nil)) (pg_name (i := 4) sc_lsp.nd rfl (Or.inl rfl)) (pss_cons (ps_par (i := 5) (j := 6) rfl sc_lsp.nd rfl rfl (by decide) rfl rfl (pa_cons (pe_ix ix_tup (pv 0) (pv 4) (fun _ _ => rfl)) (pa_cons (pe_op op_catA (pv 1) (pe_tup (pa_cons (pv 4) pa_nil))) pa_nil)) (by rfl))
      (pss_cons (ps_set (i := 7) sc_lsp.nd rfl (Or.inl rfl) (pe_op op_add (pv 2) (pe_callB call_len_str (by rfl) T.bi.len PySem.boot_len (pa_cons (pe_clG WC hgd hrn (Nat.le_refl _) (pa_cons (pv 5) pa_nil)) pa_nil))))
      (pss_cons (ps_expr (pe_bm PySem.F.plainAttrs_list PySem.F.slot_list_append PySem.F.type_list_append mt_append (pv 3) (pa_cons (pe_tup (pa_cons (pv 6) (pa_cons (pv 2) (pa_cons (pv 7) pa_nil)))) pa_nil)))
      (pss_cons (ps_if (pt_cmpR op_in_seq (pe_ix ix_tup (pv 5) pe_int (fun _ _ => rfl)) (pe_tup (pa_cons pe_str (pa_cons pe_str (pa_cons pe_str (pa_cons pe_str pa_nil))))) rfl) (pss_cons ps_never
      (pss_cons ps_never
      (pss_one ps_never))) pss_nil)
      (pss_one (ps_set (i := 2) sc_lsp.nd rfl (Or.inl rfl) (pe_op op_add (pv 7) pe_int))))))))
      (pss_one (ps_ret (pv 3))))), ?_⟩
      obtain ⟨ta, txs, rfl, hT, hD⟩ : ∃ ta txs, v = .ref ta ∧ SqT K H ta txs ∧ DQs K H txs (datL l) := by
        cases hd with
        | tup h1 h2 => exact ⟨_, _, rfl, h1, h2⟩
      have ltx : txs.length = l.length := by rw [hD.len, datL_map, List.length_map]
      refine ⟨Nat.zero_le _, fun q0 nq0 => ?_⟩
      have s0 := K0.same_upd (o := .lst []) nq0
      refine ⟨_, rfl, ta, txs, rfl, .inr (K0.seqT_same s0 hT), _, rfl, by omega, by omega, ?_⟩
      rw [Int.toNat_natCast, ltx]
      refine for_range (lo := 0) (n := l.length) (PvS K H (.ref ta) pw pth f l) ⟨Nat.zero_le _, s0, q0, [], _, _, _, _, _, rfl, nq0, upd_same, by rw [List.take_zero, rowsL]; exact .nil⟩ ?_ ?_
      · rintro i σ H1 hi ⟨hle, s1, q, vs, o4, o5, o6, o7, o8, rfl, nq, hq, dv⟩
        have ei : l[i]? = some l[i] := List.getElem?_eq_getElem hi
        have hdr := hc l[i] (List.getElem_mem hi)
        generalize l[i] = x at ei hdr
        have htk : l.take (i + 1) = l.take i ++ [x] := by rw [List.take_succ, ei]; rfl
        have lti : (l.take i).length = i := by rw [List.length_take]; omega
        have htr : (rowsL pth 0 f (l.take (i + 1))) = rowsL pth 0 f (l.take i) ++ x.rows (pth ++ [(i : Int)]) (f + (gapped (l.take i)).length) := by
          rw [htk, rowsL_snoc, lti, Nat.zero_add]
        have htg : f + (gapped (l.take (i + 1))).length = f + (gapped (l.take i)).length + x.word.length + 1 := by
          rw [htk, gapped_app, gapped, gapped, List.length_append, List.length_cons, List.append_nil]
          omega
        generalize hfi : f + (gapped (l.take i)).length = fi at htr htg ⊢
        obtain ⟨u, hu, du⟩ := hD.get (i := i) (d := x.dat) (by rw [datL_map, List.getElem?_map, ei]; rfl)
        -- item, own
        refine ⟨_, rfl, _, rfl, ta, txs, _, u, rfl, rfl, K0.seqT_same s1 hT, by rw [Int.zero_add]; exact atI_nat hu, _, rfl, _, rfl, sizeL (m := 1) (Nat.le_refl _), fun t nt => ?_⟩
        have s2 := K0.same_upd (o := .tup [V.int (0 + (i : Int))]) nt
        rw [Int.zero_add] at s2 ⊢
        have hq2 : (upd H1 t (.tup [V.int (i : Int)])) q = some (.lst vs) := s2 _ _ hq
        have dv2 := dv.to (hid_mono (p := q) s2)
        have s12 := s1.trans s2
        have dT : DQ K (upd H1 t (.tup [V.int (i : Int)])) (.ref t) (pathD [(i : Int)]) := .tup (.inl (.inl upd_same)) (.cons (.int _) .nil)
        generalize upd H1 t (.tup [V.int (i : Int)]) = H2 at hq2 dv2 s12 dT ⊢
        refine path_cat (hp.to s12) dT (by omega) fun H3 ov s3 dov => ⟨_, _, rfl, ?_⟩
        have hq3 := s3 _ _ hq2
        have dv3 := dv2.to (hid_mono (p := q) s3)
        have s13 := s12.trans s3
        -- behind
        refine ⟨_, rfl, _, rfl, u, x, rfl, hdr, du.to s13, fun H4 s4 => ?_⟩
        have hq4 := s4 _ _ hq3
        have dv4 := dv3.to (hid_mono (p := q) s4)
        have s14 := s13.trans s4
        have dov4 := dov.to s4
        have hwl : x.word.length ≤ 251 := Nat.le_trans hdr.len (wB_le hn3)
        refine ⟨_, rfl, by rw [sO_len]; exact sizeL (m := 251) hwl, _, _, rfl, rfl, ?_⟩
        have eb : (fi : Int) + ((sO x.word).length : Int) = ((fi + x.word.length : Nat) : Int) := by rw [sO_len]; omega
        dsimp only
        rw [eb]
        have lvs : vs.length ≤ 160 := by
          rw [dv.len, List.length_map]
          have h1 := rowsL_len (p := pth) (k := 0) (a := f) (l := l.take i) (B := 40) fun y hy p a => Nat.le_trans ((hc y (List.mem_of_mem_take hy)).rows p a) (cB_le hn3)
          have h2 : (l.take i).length * 40 ≤ 4 * 40 := Nat.mul_le_mul_right _ (by omega)
          omega
        refine ⟨_, rfl, .inl ⟨rfl, _, SqL.of hq4⟩, _, rfl, _, rfl, _, rfl, sizeL (m := 3) (Nat.le_refl _), fun t2 nt2 => ⟨q, vs, _, rfl, rfl, (upd_ne (ne_of_none hq4 nt2)).trans hq4, by rw [sizeLine_eq]; omega, ?_⟩⟩
        obtain ⟨s5, dv5⟩ := rows_more (r := (pth ++ [(i : Int)], ((fi : Int)), ((fi + x.word.length : Nat) : Int))) hq4 dv4 dov4 nt2
        have s15 : Same H (upd (upd H4 t2 (.tup [ov, .int (fi : Int), .int ((fi + x.word.length : Nat) : Int)])) q (.lst (vs ++ [.ref t2]))) := fun b w e => by
          rw [upd_ne (ne_of_none e nq), upd_ne (ne_of_none (s14 _ _ e) nt2)]
          exact s14 _ _ e
        have hq5 := @upd_same (upd H4 t2 (.tup [ov, .int (fi : Int), .int ((fi + x.word.length : Nat) : Int)])) q (.lst (vs ++ [.ref t2]))
        have dov5 : DQ K (upd (upd H4 t2 (.tup [ov, .int (fi : Int), .int ((fi + x.word.length : Nat) : Int)])) q (.lst (vs ++ [.ref t2]))) ov (pathD (pth ++ [(i : Int)])) := by
          refine (Flat.hide hq4 _ _ ?_ dov4).to s5
          refine .tup (Flats.of fun e he => ?_)
          obtain ⟨j, _, rfl⟩ := List.mem_map.mp he
          exact .int j
        dsimp only at s15 hq5 dv5 dov5 ⊢
        generalize upd (upd H4 t2 (.tup [ov, .int (fi : Int), .int ((fi + x.word.length : Nat) : Int)])) q (.lst (vs ++ [.ref t2])) = H5 at s15 hq5 dv5 dov5 ⊢
        have du5 := du.to s15
        -- what the turn ends with
        have fin : ∀ (H6 : Hp) (q' : Addr) (vs' : List V) (o8' : Option V), Same H H6 → H q' = none → H6 q' = some (.lst vs') → DQs K (hid q' H6) vs' ((rowsL pth 0 f (l.take (i + 1))).map rowD) →
            PvS K H (.ref ta) pw pth f l (i + 1) [some (.ref ta), some pw, some (.int (((fi + x.word.length : Nat) : Int) + 1)), some (.ref q'), some (.int (i : Int)), some u, some ov, some (.int ((fi + x.word.length : Nat) : Int)), o8'] H6 := by
          intro H6 q' vs' o8' h1 h2 h3 h4
          refine ⟨hi, h1, q', vs', some (.int (i : Int)), some u, some ov, some (.int ((fi + x.word.length : Nat) : Int)), o8', ?_, h2, h3, h4⟩
          rw [htg]
          rfl
        cases hdr with
        | @leaf _ h wd hk =>
          rw [It.dat] at du5
          rw [It.rows] at htr
          have htr' : rowsL pth 0 f (l.take (i + 1)) = rowsL pth 0 f (l.take i) ++ [(pth ++ [(i : Int)], ((fi : Int)), ((fi + (It.leaf h wd).word.length : Nat) : Int))] := by rw [htr, It.word]
          rw [← htr'] at dv5
          cases hk with
          | num m hm =>
            obtain ⟨a1, xs1, u1, rfl, hT1, hi1, hu1⟩ := du5.item (i := 0) rfl
            cases hu1
            refine ⟨_, rfl, a1, xs1, _, _, rfl, rfl, hT1, hi1, sizeL (m := 4) (Nat.le_refl _), fun t3 nt3 => ⟨t3, _, rfl, .inr (.inl (.inl upd_same)), rfl, rfl, _, rfl, ?_⟩⟩
            have s6 := K0.same_upd (o := .tup [V.str "block", V.str "sum", V.str "product", V.str "let"]) nt3
            rw [show inV (.str "number") [.str "block", .str "sum", .str "product", .str "let"] = false from by decide +kernel]
            exact iteF ⟨_, rfl, _, _, rfl, rfl, fin _ q _ _ (s15.trans s6) nq (s6 _ _ hq5) (dv5.to (hid_mono s6))⟩
          | lost =>
            obtain ⟨a1, xs1, u1, rfl, hT1, hi1, hu1⟩ := du5.item (i := 0) rfl
            cases hu1
            refine ⟨_, rfl, a1, xs1, _, _, rfl, rfl, hT1, hi1, sizeL (m := 4) (Nat.le_refl _), fun t3 nt3 => ⟨t3, _, rfl, .inr (.inl (.inl upd_same)), rfl, rfl, _, rfl, ?_⟩⟩
            have s6 := K0.same_upd (o := .tup [V.str "block", V.str "sum", V.str "product", V.str "let"]) nt3
            rw [show inV (.str "lost") [.str "block", .str "sum", .str "product", .str "let"] = false from by decide +kernel]
            exact iteF ⟨_, rfl, _, _, rfl, rfl, fin _ q _ _ (s15.trans s6) nq (s6 _ _ hq5) (dv5.to (hid_mono s6))⟩
          | use w hw =>
            obtain ⟨a1, xs1, u1, rfl, hT1, hi1, hu1⟩ := du5.item (i := 0) rfl
            cases hu1
            refine ⟨_, rfl, a1, xs1, _, _, rfl, rfl, hT1, hi1, sizeL (m := 4) (Nat.le_refl _), fun t3 nt3 => ⟨t3, _, rfl, .inr (.inl (.inl upd_same)), rfl, rfl, _, rfl, ?_⟩⟩
            have s6 := K0.same_upd (o := .tup [V.str "block", V.str "sum", V.str "product", V.str "let"]) nt3
            rw [show inV (.str "use") [.str "block", .str "sum", .str "product", .str "let"] = false from by decide +kernel]
            exact iteF ⟨_, rfl, _, _, rfl, rfl, fin _ q _ _ (s15.trans s6) nq (s6 _ _ hq5) (dv5.to (hid_mono s6))⟩
      · rintro σ H1 ⟨_, s1, q, vs, o4, o5, o6, o7, o8, rfl, nq, hq, dv⟩
        rw [List.take_length] at dv
        exact ⟨_, rfl, k H1 q vs s1 nq hq dv⟩
  | succ n ih =>
    intro hn3
    have IH := ih (by omega)
    have WC : ClG P w K mg base (n + 2) "_law_word" ["_law_item_here"] (spWord K (n + 1)) := cl_word T (n + 1) hn3
    refine ⟨g, fd, okG D.fn sc_lsp (fun vs H Q E h => ?_) (fun cdv A outer s H vs Q E hgd hr h => ?_), D.mg, D.fn.kp, D.bn⟩
    · obtain ⟨v, pw, pth, f, l, rfl, _⟩ := h
      rfl
    · obtain ⟨v, pw, pth, f, l, rfl, hl, hc, hpl, hd, hp, k⟩ := h
      have hrn : Room (n + 2) _ := hr
      refine ⟨_, (pss_cons (ps_set (i := 3) sc_lsp.nd rfl (Or.inl rfl) (pe_lst pa_nil))
      (pss_cons (ps_for PassesOwn.never rfl (pi_range1 rfl hrange (pa_cons (pe_callB call_len_seq (by rfl) T.bi.len PySem.boot_len (pa_cons (pv 0) pa_nil)) pa_nil)) (pg_name (i := 4) sc_lsp.nd rfl (Or.inl rfl)) (pss_cons (ps_par (i := 5) (j := 6) rfl sc_lsp.nd rfl rfl (by decide) rfl rfl (pa_cons (pe_ix ix_tup (pv 0) (pv 4) (fun _ _ => rfl)) (pa_cons (pe_op op_catA (pv 1) (pe_tup (pa_cons (pv 4) pa_nil))) pa_nil)) (by rfl))
      (pss_cons (ps_set (i := 7) sc_lsp.nd rfl (Or.inl rfl) (pe_op op_add (pv 2) (pe_callB call_len_str (by rfl) T.bi.len PySem.boot_len (pa_cons (pe_clG WC hgd hrn (Nat.le_refl _) (pa_cons (pv 5) pa_nil)) pa_nil))))
      (pss_cons (ps_expr (pe_bm PySem.F.plainAttrs_list PySem.F.slot_list_append PySem.F.type_list_append mt_append (pv 3) (pa_cons (pe_tup (pa_cons (pv 6) (pa_cons (pv 2) (pa_cons (pv 7) pa_nil)))) pa_nil)))
      (pss_cons (ps_if (pt_cmpR op_in_seq (pe_ix ix_tup (pv 5) pe_int (fun _ _ => rfl)) (pe_tup (pa_cons pe_str (pa_cons pe_str (pa_cons pe_str (pa_cons pe_str pa_nil))))) rfl) (pss_cons (ps_set (i := 8) sc_lsp.nd rfl (Or.inl rfl) (pe_dget2 (hu_of hr) (pe_disp (pps_cons pe_str pe_int (pps_cons pe_str pe_int (pps_cons pe_str pe_int pps_nil))) (by rfl) (by rfl) (fun z => by cases z) (by decide)) (pe_ix ix_tup (pv 5) pe_int (fun _ _ => rfl)) pe_int ⟨by rfl, by rfl, by rfl, by rfl⟩))
      (pss_cons (ps_set (i := 8) sc_lsp.nd rfl (Or.inl rfl) (pe_ifExp (pt_cmpR op_ne (pe_ix ix_tup (pv 5) pe_int (fun _ _ => rfl)) pe_str (nomark _)) (pv 8) (pe_op op_add (pe_callB call_len_str (by rfl) T.bi.len PySem.boot_len (pa_cons (pe_ix ix_tup (pv 5) pe_int (fun _ _ => rfl)) pa_nil)) pe_int)))
      (pss_one (ps_set (i := 3) sc_lsp.nd rfl (Or.inl rfl) (pe_op op_cat (pv 3) (pe_clG IH hgd hrn (Nat.le_refl _) (pa_cons (pe_ix ix_tup (pv 5) (pe_un un_neg pe_int) (fun _ _ => rfl)) (pa_cons (pv 6) (pa_cons (pe_op op_add (pv 2) (pv 8)) pa_nil))))))))) pss_nil)
      (pss_one (ps_set (i := 2) sc_lsp.nd rfl (Or.inl rfl) (pe_op op_add (pv 7) pe_int))))))))
      (pss_one (ps_ret (pv 3))))), ?_⟩
      obtain ⟨ta, txs, rfl, hT, hD⟩ : ∃ ta txs, v = .ref ta ∧ SqT K H ta txs ∧ DQs K H txs (datL l) := by
        cases hd with
        | tup h1 h2 => exact ⟨_, _, rfl, h1, h2⟩
      have ltx : txs.length = l.length := by rw [hD.len, datL_map, List.length_map]
      refine ⟨Nat.zero_le _, fun q0 nq0 => ?_⟩
      have s0 := K0.same_upd (o := .lst []) nq0
      refine ⟨_, rfl, ta, txs, rfl, .inr (K0.seqT_same s0 hT), _, rfl, by omega, by omega, ?_⟩
      rw [Int.toNat_natCast, ltx]
      refine for_range (lo := 0) (n := l.length) (PvS K H (.ref ta) pw pth f l) ⟨Nat.zero_le _, s0, q0, [], _, _, _, _, _, rfl, nq0, upd_same, by rw [List.take_zero, rowsL]; exact .nil⟩ ?_ ?_
      · rintro i σ H1 hi ⟨hle, s1, q, vs, o4, o5, o6, o7, o8, rfl, nq, hq, dv⟩
        have ei : l[i]? = some l[i] := List.getElem?_eq_getElem hi
        have hdr := hc l[i] (List.getElem_mem hi)
        generalize l[i] = x at ei hdr
        have htk : l.take (i + 1) = l.take i ++ [x] := by rw [List.take_succ, ei]; rfl
        have lti : (l.take i).length = i := by rw [List.length_take]; omega
        have htr : (rowsL pth 0 f (l.take (i + 1))) = rowsL pth 0 f (l.take i) ++ x.rows (pth ++ [(i : Int)]) (f + (gapped (l.take i)).length) := by
          rw [htk, rowsL_snoc, lti, Nat.zero_add]
        have htg : f + (gapped (l.take (i + 1))).length = f + (gapped (l.take i)).length + x.word.length + 1 := by
          rw [htk, gapped_app, gapped, gapped, List.length_append, List.length_cons, List.append_nil]
          omega
        generalize hfi : f + (gapped (l.take i)).length = fi at htr htg ⊢
        obtain ⟨u, hu, du⟩ := hD.get (i := i) (d := x.dat) (by rw [datL_map, List.getElem?_map, ei]; rfl)
        -- item, own
        refine ⟨_, rfl, _, rfl, ta, txs, _, u, rfl, rfl, K0.seqT_same s1 hT, by rw [Int.zero_add]; exact atI_nat hu, _, rfl, _, rfl, sizeL (m := 1) (Nat.le_refl _), fun t nt => ?_⟩
        have s2 := K0.same_upd (o := .tup [V.int (0 + (i : Int))]) nt
        rw [Int.zero_add] at s2 ⊢
        have hq2 : (upd H1 t (.tup [V.int (i : Int)])) q = some (.lst vs) := s2 _ _ hq
        have dv2 := dv.to (hid_mono (p := q) s2)
        have s12 := s1.trans s2
        have dT : DQ K (upd H1 t (.tup [V.int (i : Int)])) (.ref t) (pathD [(i : Int)]) := .tup (.inl (.inl upd_same)) (.cons (.int _) .nil)
        generalize upd H1 t (.tup [V.int (i : Int)]) = H2 at hq2 dv2 s12 dT ⊢
        refine path_cat (hp.to s12) dT (by omega) fun H3 ov s3 dov => ⟨_, _, rfl, ?_⟩
        have hq3 := s3 _ _ hq2
        have dv3 := dv2.to (hid_mono (p := q) s3)
        have s13 := s12.trans s3
        -- behind
        refine ⟨_, rfl, _, rfl, u, x, rfl, hdr, du.to s13, fun H4 s4 => ?_⟩
        have hq4 := s4 _ _ hq3
        have dv4 := dv3.to (hid_mono (p := q) s4)
        have s14 := s13.trans s4
        have dov4 := dov.to s4
        have hwl : x.word.length ≤ 251 := Nat.le_trans hdr.len (wB_le hn3)
        refine ⟨_, rfl, by rw [sO_len]; exact sizeL (m := 251) hwl, _, _, rfl, rfl, ?_⟩
        have eb : (fi : Int) + ((sO x.word).length : Int) = ((fi + x.word.length : Nat) : Int) := by rw [sO_len]; omega
        dsimp only
        rw [eb]
        have lvs : vs.length ≤ 160 := by
          rw [dv.len, List.length_map]
          have h1 := rowsL_len (p := pth) (k := 0) (a := f) (l := l.take i) (B := 40) fun y hy p a => Nat.le_trans ((hc y (List.mem_of_mem_take hy)).rows p a) (cB_le hn3)
          have h2 : (l.take i).length * 40 ≤ 4 * 40 := Nat.mul_le_mul_right _ (by omega)
          omega
        refine ⟨_, rfl, .inl ⟨rfl, _, SqL.of hq4⟩, _, rfl, _, rfl, _, rfl, sizeL (m := 3) (Nat.le_refl _), fun t2 nt2 => ⟨q, vs, _, rfl, rfl, (upd_ne (ne_of_none hq4 nt2)).trans hq4, by rw [sizeLine_eq]; omega, ?_⟩⟩
        obtain ⟨s5, dv5⟩ := rows_more (r := (pth ++ [(i : Int)], ((fi : Int)), ((fi + x.word.length : Nat) : Int))) hq4 dv4 dov4 nt2
        have s15 : Same H (upd (upd H4 t2 (.tup [ov, .int (fi : Int), .int ((fi + x.word.length : Nat) : Int)])) q (.lst (vs ++ [.ref t2]))) := fun b w e => by
          rw [upd_ne (ne_of_none e nq), upd_ne (ne_of_none (s14 _ _ e) nt2)]
          exact s14 _ _ e
        have hq5 := @upd_same (upd H4 t2 (.tup [ov, .int (fi : Int), .int ((fi + x.word.length : Nat) : Int)])) q (.lst (vs ++ [.ref t2]))
        have dov5 : DQ K (upd (upd H4 t2 (.tup [ov, .int (fi : Int), .int ((fi + x.word.length : Nat) : Int)])) q (.lst (vs ++ [.ref t2]))) ov (pathD (pth ++ [(i : Int)])) := by
          refine (Flat.hide hq4 _ _ ?_ dov4).to s5
          refine .tup (Flats.of fun e he => ?_)
          obtain ⟨j, _, rfl⟩ := List.mem_map.mp he
          exact .int j
        dsimp only at s15 hq5 dv5 dov5 ⊢
        generalize upd (upd H4 t2 (.tup [ov, .int (fi : Int), .int ((fi + x.word.length : Nat) : Int)])) q (.lst (vs ++ [.ref t2])) = H5 at s15 hq5 dv5 dov5 ⊢
        have du5 := du.to s15
        -- what the turn ends with
        have fin : ∀ (H6 : Hp) (q' : Addr) (vs' : List V) (o8' : Option V), Same H H6 → H q' = none → H6 q' = some (.lst vs') → DQs K (hid q' H6) vs' ((rowsL pth 0 f (l.take (i + 1))).map rowD) →
            PvS K H (.ref ta) pw pth f l (i + 1) [some (.ref ta), some pw, some (.int (((fi + x.word.length : Nat) : Int) + 1)), some (.ref q'), some (.int (i : Int)), some u, some ov, some (.int ((fi + x.word.length : Nat) : Int)), o8'] H6 := by
          intro H6 q' vs' o8' h1 h2 h3 h4
          refine ⟨hi, h1, q', vs', some (.int (i : Int)), some u, some ov, some (.int ((fi + x.word.length : Nat) : Int)), o8', ?_, h2, h3, h4⟩
          rw [htg]
          rfl
        cases hdr with
        | @leaf _ h wd hk =>
          rw [It.dat] at du5
          rw [It.rows] at htr
          have htr' : rowsL pth 0 f (l.take (i + 1)) = rowsL pth 0 f (l.take i) ++ [(pth ++ [(i : Int)], ((fi : Int)), ((fi + (It.leaf h wd).word.length : Nat) : Int))] := by rw [htr, It.word]
          rw [← htr'] at dv5
          cases hk with
          | num m hm =>
            obtain ⟨a1, xs1, u1, rfl, hT1, hi1, hu1⟩ := du5.item (i := 0) rfl
            cases hu1
            refine ⟨_, rfl, a1, xs1, _, _, rfl, rfl, hT1, hi1, sizeL (m := 4) (Nat.le_refl _), fun t3 nt3 => ⟨t3, _, rfl, .inr (.inl (.inl upd_same)), rfl, rfl, _, rfl, ?_⟩⟩
            have s6 := K0.same_upd (o := .tup [V.str "block", V.str "sum", V.str "product", V.str "let"]) nt3
            rw [show inV (.str "number") [.str "block", .str "sum", .str "product", .str "let"] = false from by decide +kernel]
            exact iteF ⟨_, rfl, _, _, rfl, rfl, fin _ q _ _ (s15.trans s6) nq (s6 _ _ hq5) (dv5.to (hid_mono s6))⟩
          | lost =>
            obtain ⟨a1, xs1, u1, rfl, hT1, hi1, hu1⟩ := du5.item (i := 0) rfl
            cases hu1
            refine ⟨_, rfl, a1, xs1, _, _, rfl, rfl, hT1, hi1, sizeL (m := 4) (Nat.le_refl _), fun t3 nt3 => ⟨t3, _, rfl, .inr (.inl (.inl upd_same)), rfl, rfl, _, rfl, ?_⟩⟩
            have s6 := K0.same_upd (o := .tup [V.str "block", V.str "sum", V.str "product", V.str "let"]) nt3
            rw [show inV (.str "lost") [.str "block", .str "sum", .str "product", .str "let"] = false from by decide +kernel]
            exact iteF ⟨_, rfl, _, _, rfl, rfl, fin _ q _ _ (s15.trans s6) nq (s6 _ _ hq5) (dv5.to (hid_mono s6))⟩
          | use w hw =>
            obtain ⟨a1, xs1, u1, rfl, hT1, hi1, hu1⟩ := du5.item (i := 0) rfl
            cases hu1
            refine ⟨_, rfl, a1, xs1, _, _, rfl, rfl, hT1, hi1, sizeL (m := 4) (Nat.le_refl _), fun t3 nt3 => ⟨t3, _, rfl, .inr (.inl (.inl upd_same)), rfl, rfl, _, rfl, ?_⟩⟩
            have s6 := K0.same_upd (o := .tup [V.str "block", V.str "sum", V.str "product", V.str "let"]) nt3
            rw [show inV (.str "use") [.str "block", .str "sum", .str "product", .str "let"] = false from by decide +kernel]
            exact iteF ⟨_, rfl, _, _, rfl, rfl, fin _ q _ _ (s15.trans s6) nq (s6 _ _ hq5) (dv5.to (hid_mono s6))⟩
        | @node _ h o b lc hk hlc hcc =>
          rw [It.dat] at du5
          rw [It.rows] at htr
          have hopn : fi + o.length + (if b = true then 0 else 1) = fi + (o.length + if b = true then 0 else 1) := by omega
          rw [hopn] at htr
          have hcl : ∀ y ∈ lc, Dr n y := hcc
          have hrl : (rowsL (pth ++ [(i : Int)]) 0 (fi + (o.length + if b = true then 0 else 1)) lc).length ≤ lc.length * 40 := rowsL_len fun y hy p a => Nat.le_trans ((hcc y hy).rows p a) (cB_le (by omega))
          have hrl' : lc.length * 40 ≤ 3 * 40 := Nat.mul_le_mul_right _ hlc
          cases hk with
          | block =>
            have hol : ([40] : List Nat).length + (if true = true then 0 else 1) = 1 := by simp
            rw [hol] at htr hrl
            obtain ⟨a1, xs1, u1, rfl, hT1, hi1, hu1⟩ := du5.item (i := 0) rfl
            cases hu1
            refine ⟨_, rfl, a1, xs1, _, _, rfl, rfl, hT1, hi1, sizeL (m := 4) (Nat.le_refl _), fun t3 nt3 => ⟨t3, _, rfl, .inr (.inl (.inl upd_same)), rfl, rfl, _, rfl, ?_⟩⟩
            have s6 := K0.same_upd (o := .tup [V.str "block", V.str "sum", V.str "product", V.str "let"]) nt3
            generalize upd H5 t3 (.tup [V.str "block", V.str "sum", V.str "product", V.str "let"]) = H6 at s6 ⊢
            rw [show inV (.str "block") [.str "block", .str "sum", .str "product", .str "let"] = true from by decide +kernel]
            refine iteT (fun pd nd => ⟨upd_same, [((.inr "block" : Key), V.int 1), (.inr "sum", .int 3), (.inr "product", .int 3)], rfl, by decide, pd, rfl, .inl ⟨_, .inl upd_same⟩, ?_⟩)
            have s3 : Same H6 (upd (upd H6 pd (.dK [])) pd (.dK (mergeK [] [((.inr "block" : Key), V.int 1), (.inr "sum", .int 3), (.inr "product", .int 3)]))) := fun b u e => by
              rw [upd_ne (ne_of_none e nd), upd_ne (ne_of_none e nd)]
              exact e
            have gd : (upd (upd H6 pd (.dK [])) pd (.dK (mergeK [] [((.inr "block" : Key), V.int 1), (.inr "sum", .int 3), (.inr "product", .int 3)]))) pd = some (.dK (mergeK [] [((.inr "block" : Key), V.int 1), (.inr "sum", .int 3), (.inr "product", .int 3)])) := upd_same
            generalize upd (upd H6 pd (.dK [])) pd (.dK (mergeK [] [((.inr "block" : Key), V.int 1), (.inr "sum", .int 3), (.inr "product", .int 3)])) = H7 at s3 gd ⊢
            have s67 := s6.trans s3
            have du7 := du5.to s67
            have ev : valV (mergeK [] [((.inr "block" : Key), V.int 1), (.inr "sum", .int 3), (.inr "product", .int 3)]) (.inr ("block" : Str)) = some (.int 1) := by decide +kernel
            obtain ⟨a7, xs7, u7, ea7, hT7, hi7, hu7⟩ := du7.item (i := 0) rfl
            cases ea7
            cases hu7
            refine ⟨_, rfl, a1, xs7, _, _, rfl, rfl, hT7, hi7, _, .inl ⟨_, .inr ("block" : Str), .inl gd, rfl, rfl⟩, ?_⟩
            rw [ev, Option.getD_some]
            refine ⟨_, rfl, a1, xs7, _, _, rfl, rfl, hT7, hi7, rfl, ?_⟩
            rw [show (!decide ((V.str "block") = V.str "let")) = true from by decide +kernel]
            refine ⟨_, rfl, iteT ⟨_, rfl, ?_⟩⟩
            have hq7 := s67 _ _ hq5
            have dv7 := dv5.to (hid_mono (p := q) s67)
            have s17 := s15.trans s67
            obtain ⟨a8, xs8, u8, ea8, hT8, hi8, hu8⟩ := du7.last (ds := [.str "block"]) (by decide)
            cases ea8
            refine ⟨_, rfl, _, rfl, _, rfl, a1, xs8, _, _, rfl, rfl, hT8, hi8, _, rfl, _, rfl, _, rfl, _, _, rfl, rfl, u8, ov, pth ++ [(i : Int)], fi + (1), lc, by rw [Int.natCast_add]; rfl, Nat.le_trans hlc (by decide), hcl, by rw [List.length_append]; show pth.length + 1 + n ≤ 10; omega, hu8, dov5.to s67, fun H8 q8 zs s8 nq8 hq8 dz => ?_⟩
            have hq78 := s8 _ _ hq7
            have lzs : zs.length ≤ 3 * 40 := by
              rw [dz.len, List.length_map]
              exact Nat.le_trans hrl hrl'
            refine ⟨q, q8, vs ++ [.ref t2], zs, rfl, rfl, hq78, hq8, by rw [sizeLine_eq, List.length_append, List.length_singleton]; omega, fun s' ns => ?_⟩
            have s8' : Same H8 (hid s' (upd H8 s' (.lst (vs ++ [.ref t2] ++ zs)))) := fun b u e => by
              rw [hid_ne (ne_of_none e ns), upd_ne (ne_of_none e ns)]
              exact e
            have s18 := s17.trans s8
            have dd := (dv7.to (((hid_mono (p := q) s8).trans fun b u e => (hid_at e).2).trans s8')).app (dz.to (Same.trans (fun b u e => (hid_at e).2) s8'))
            rw [List.append_cons] at htr
            rw [← List.map_append, ← htr] at dd
            exact ⟨_, rfl, _, _, rfl, rfl, fin _ s' _ _ (s18.trans (K0.same_upd ns)) (by
              cases e : H s' with
              | none => rfl
              | some u =>
                rw [s18 _ _ e] at ns
                cases ns) upd_same dd⟩
          | sum =>
            have hol : ([40, 43] : List Nat).length + (if false = true then 0 else 1) = 3 := by simp
            rw [hol] at htr hrl
            obtain ⟨a1, xs1, u1, rfl, hT1, hi1, hu1⟩ := du5.item (i := 0) rfl
            cases hu1
            refine ⟨_, rfl, a1, xs1, _, _, rfl, rfl, hT1, hi1, sizeL (m := 4) (Nat.le_refl _), fun t3 nt3 => ⟨t3, _, rfl, .inr (.inl (.inl upd_same)), rfl, rfl, _, rfl, ?_⟩⟩
            have s6 := K0.same_upd (o := .tup [V.str "block", V.str "sum", V.str "product", V.str "let"]) nt3
            generalize upd H5 t3 (.tup [V.str "block", V.str "sum", V.str "product", V.str "let"]) = H6 at s6 ⊢
            rw [show inV (.str "sum") [.str "block", .str "sum", .str "product", .str "let"] = true from by decide +kernel]
            refine iteT (fun pd nd => ⟨upd_same, [((.inr "block" : Key), V.int 1), (.inr "sum", .int 3), (.inr "product", .int 3)], rfl, by decide, pd, rfl, .inl ⟨_, .inl upd_same⟩, ?_⟩)
            have s3 : Same H6 (upd (upd H6 pd (.dK [])) pd (.dK (mergeK [] [((.inr "block" : Key), V.int 1), (.inr "sum", .int 3), (.inr "product", .int 3)]))) := fun b u e => by
              rw [upd_ne (ne_of_none e nd), upd_ne (ne_of_none e nd)]
              exact e
            have gd : (upd (upd H6 pd (.dK [])) pd (.dK (mergeK [] [((.inr "block" : Key), V.int 1), (.inr "sum", .int 3), (.inr "product", .int 3)]))) pd = some (.dK (mergeK [] [((.inr "block" : Key), V.int 1), (.inr "sum", .int 3), (.inr "product", .int 3)])) := upd_same
            generalize upd (upd H6 pd (.dK [])) pd (.dK (mergeK [] [((.inr "block" : Key), V.int 1), (.inr "sum", .int 3), (.inr "product", .int 3)])) = H7 at s3 gd ⊢
            have s67 := s6.trans s3
            have du7 := du5.to s67
            have ev : valV (mergeK [] [((.inr "block" : Key), V.int 1), (.inr "sum", .int 3), (.inr "product", .int 3)]) (.inr ("sum" : Str)) = some (.int 3) := by decide +kernel
            obtain ⟨a7, xs7, u7, ea7, hT7, hi7, hu7⟩ := du7.item (i := 0) rfl
            cases ea7
            cases hu7
            refine ⟨_, rfl, a1, xs7, _, _, rfl, rfl, hT7, hi7, _, .inl ⟨_, .inr ("sum" : Str), .inl gd, rfl, rfl⟩, ?_⟩
            rw [ev, Option.getD_some]
            refine ⟨_, rfl, a1, xs7, _, _, rfl, rfl, hT7, hi7, rfl, ?_⟩
            rw [show (!decide ((V.str "sum") = V.str "let")) = true from by decide +kernel]
            refine ⟨_, rfl, iteT ⟨_, rfl, ?_⟩⟩
            have hq7 := s67 _ _ hq5
            have dv7 := dv5.to (hid_mono (p := q) s67)
            have s17 := s15.trans s67
            obtain ⟨a8, xs8, u8, ea8, hT8, hi8, hu8⟩ := du7.last (ds := [.str "sum"]) (by decide)
            cases ea8
            refine ⟨_, rfl, _, rfl, _, rfl, a1, xs8, _, _, rfl, rfl, hT8, hi8, _, rfl, _, rfl, _, rfl, _, _, rfl, rfl, u8, ov, pth ++ [(i : Int)], fi + (3), lc, by rw [Int.natCast_add]; rfl, Nat.le_trans hlc (by decide), hcl, by rw [List.length_append]; show pth.length + 1 + n ≤ 10; omega, hu8, dov5.to s67, fun H8 q8 zs s8 nq8 hq8 dz => ?_⟩
            have hq78 := s8 _ _ hq7
            have lzs : zs.length ≤ 3 * 40 := by
              rw [dz.len, List.length_map]
              exact Nat.le_trans hrl hrl'
            refine ⟨q, q8, vs ++ [.ref t2], zs, rfl, rfl, hq78, hq8, by rw [sizeLine_eq, List.length_append, List.length_singleton]; omega, fun s' ns => ?_⟩
            have s8' : Same H8 (hid s' (upd H8 s' (.lst (vs ++ [.ref t2] ++ zs)))) := fun b u e => by
              rw [hid_ne (ne_of_none e ns), upd_ne (ne_of_none e ns)]
              exact e
            have s18 := s17.trans s8
            have dd := (dv7.to (((hid_mono (p := q) s8).trans fun b u e => (hid_at e).2).trans s8')).app (dz.to (Same.trans (fun b u e => (hid_at e).2) s8'))
            rw [List.append_cons] at htr
            rw [← List.map_append, ← htr] at dd
            exact ⟨_, rfl, _, _, rfl, rfl, fin _ s' _ _ (s18.trans (K0.same_upd ns)) (by
              cases e : H s' with
              | none => rfl
              | some u =>
                rw [s18 _ _ e] at ns
                cases ns) upd_same dd⟩
          | product =>
            have hol : ([40, 42] : List Nat).length + (if false = true then 0 else 1) = 3 := by simp
            rw [hol] at htr hrl
            obtain ⟨a1, xs1, u1, rfl, hT1, hi1, hu1⟩ := du5.item (i := 0) rfl
            cases hu1
            refine ⟨_, rfl, a1, xs1, _, _, rfl, rfl, hT1, hi1, sizeL (m := 4) (Nat.le_refl _), fun t3 nt3 => ⟨t3, _, rfl, .inr (.inl (.inl upd_same)), rfl, rfl, _, rfl, ?_⟩⟩
            have s6 := K0.same_upd (o := .tup [V.str "block", V.str "sum", V.str "product", V.str "let"]) nt3
            generalize upd H5 t3 (.tup [V.str "block", V.str "sum", V.str "product", V.str "let"]) = H6 at s6 ⊢
            rw [show inV (.str "product") [.str "block", .str "sum", .str "product", .str "let"] = true from by decide +kernel]
            refine iteT (fun pd nd => ⟨upd_same, [((.inr "block" : Key), V.int 1), (.inr "sum", .int 3), (.inr "product", .int 3)], rfl, by decide, pd, rfl, .inl ⟨_, .inl upd_same⟩, ?_⟩)
            have s3 : Same H6 (upd (upd H6 pd (.dK [])) pd (.dK (mergeK [] [((.inr "block" : Key), V.int 1), (.inr "sum", .int 3), (.inr "product", .int 3)]))) := fun b u e => by
              rw [upd_ne (ne_of_none e nd), upd_ne (ne_of_none e nd)]
              exact e
            have gd : (upd (upd H6 pd (.dK [])) pd (.dK (mergeK [] [((.inr "block" : Key), V.int 1), (.inr "sum", .int 3), (.inr "product", .int 3)]))) pd = some (.dK (mergeK [] [((.inr "block" : Key), V.int 1), (.inr "sum", .int 3), (.inr "product", .int 3)])) := upd_same
            generalize upd (upd H6 pd (.dK [])) pd (.dK (mergeK [] [((.inr "block" : Key), V.int 1), (.inr "sum", .int 3), (.inr "product", .int 3)])) = H7 at s3 gd ⊢
            have s67 := s6.trans s3
            have du7 := du5.to s67
            have ev : valV (mergeK [] [((.inr "block" : Key), V.int 1), (.inr "sum", .int 3), (.inr "product", .int 3)]) (.inr ("product" : Str)) = some (.int 3) := by decide +kernel
            obtain ⟨a7, xs7, u7, ea7, hT7, hi7, hu7⟩ := du7.item (i := 0) rfl
            cases ea7
            cases hu7
            refine ⟨_, rfl, a1, xs7, _, _, rfl, rfl, hT7, hi7, _, .inl ⟨_, .inr ("product" : Str), .inl gd, rfl, rfl⟩, ?_⟩
            rw [ev, Option.getD_some]
            refine ⟨_, rfl, a1, xs7, _, _, rfl, rfl, hT7, hi7, rfl, ?_⟩
            rw [show (!decide ((V.str "product") = V.str "let")) = true from by decide +kernel]
            refine ⟨_, rfl, iteT ⟨_, rfl, ?_⟩⟩
            have hq7 := s67 _ _ hq5
            have dv7 := dv5.to (hid_mono (p := q) s67)
            have s17 := s15.trans s67
            obtain ⟨a8, xs8, u8, ea8, hT8, hi8, hu8⟩ := du7.last (ds := [.str "product"]) (by decide)
            cases ea8
            refine ⟨_, rfl, _, rfl, _, rfl, a1, xs8, _, _, rfl, rfl, hT8, hi8, _, rfl, _, rfl, _, rfl, _, _, rfl, rfl, u8, ov, pth ++ [(i : Int)], fi + (3), lc, by rw [Int.natCast_add]; rfl, Nat.le_trans hlc (by decide), hcl, by rw [List.length_append]; show pth.length + 1 + n ≤ 10; omega, hu8, dov5.to s67, fun H8 q8 zs s8 nq8 hq8 dz => ?_⟩
            have hq78 := s8 _ _ hq7
            have lzs : zs.length ≤ 3 * 40 := by
              rw [dz.len, List.length_map]
              exact Nat.le_trans hrl hrl'
            refine ⟨q, q8, vs ++ [.ref t2], zs, rfl, rfl, hq78, hq8, by rw [sizeLine_eq, List.length_append, List.length_singleton]; omega, fun s' ns => ?_⟩
            have s8' : Same H8 (hid s' (upd H8 s' (.lst (vs ++ [.ref t2] ++ zs)))) := fun b u e => by
              rw [hid_ne (ne_of_none e ns), upd_ne (ne_of_none e ns)]
              exact e
            have s18 := s17.trans s8
            have dd := (dv7.to (((hid_mono (p := q) s8).trans fun b u e => (hid_at e).2).trans s8')).app (dz.to (Same.trans (fun b u e => (hid_at e).2) s8'))
            rw [List.append_cons] at htr
            rw [← List.map_append, ← htr] at dd
            exact ⟨_, rfl, _, _, rfl, rfl, fin _ s' _ _ (s18.trans (K0.same_upd ns)) (by
              cases e : H s' with
              | none => rfl
              | some u =>
                rw [s18 _ _ e] at ns
                cases ns) upd_same dd⟩
          | let_ wn hwn =>
            have hol : ((40 :: (wn ++ [32, 61])) : List Nat).length + (if false = true then 0 else 1) = wn.length + 4 := by simp
            rw [hol] at htr hrl
            obtain ⟨a1, xs1, u1, rfl, hT1, hi1, hu1⟩ := du5.item (i := 0) rfl
            cases hu1
            refine ⟨_, rfl, a1, xs1, _, _, rfl, rfl, hT1, hi1, sizeL (m := 4) (Nat.le_refl _), fun t3 nt3 => ⟨t3, _, rfl, .inr (.inl (.inl upd_same)), rfl, rfl, _, rfl, ?_⟩⟩
            have s6 := K0.same_upd (o := .tup [V.str "block", V.str "sum", V.str "product", V.str "let"]) nt3
            generalize upd H5 t3 (.tup [V.str "block", V.str "sum", V.str "product", V.str "let"]) = H6 at s6 ⊢
            rw [show inV (.str "let") [.str "block", .str "sum", .str "product", .str "let"] = true from by decide +kernel]
            refine iteT (fun pd nd => ⟨upd_same, [((.inr "block" : Key), V.int 1), (.inr "sum", .int 3), (.inr "product", .int 3)], rfl, by decide, pd, rfl, .inl ⟨_, .inl upd_same⟩, ?_⟩)
            have s3 : Same H6 (upd (upd H6 pd (.dK [])) pd (.dK (mergeK [] [((.inr "block" : Key), V.int 1), (.inr "sum", .int 3), (.inr "product", .int 3)]))) := fun b u e => by
              rw [upd_ne (ne_of_none e nd), upd_ne (ne_of_none e nd)]
              exact e
            have gd : (upd (upd H6 pd (.dK [])) pd (.dK (mergeK [] [((.inr "block" : Key), V.int 1), (.inr "sum", .int 3), (.inr "product", .int 3)]))) pd = some (.dK (mergeK [] [((.inr "block" : Key), V.int 1), (.inr "sum", .int 3), (.inr "product", .int 3)])) := upd_same
            generalize upd (upd H6 pd (.dK [])) pd (.dK (mergeK [] [((.inr "block" : Key), V.int 1), (.inr "sum", .int 3), (.inr "product", .int 3)])) = H7 at s3 gd ⊢
            have s67 := s6.trans s3
            have du7 := du5.to s67
            have ev : valV (mergeK [] [((.inr "block" : Key), V.int 1), (.inr "sum", .int 3), (.inr "product", .int 3)]) (.inr ("let" : Str)) = none := by decide +kernel
            obtain ⟨a7, xs7, u7, ea7, hT7, hi7, hu7⟩ := du7.item (i := 0) rfl
            cases ea7
            cases hu7
            refine ⟨_, rfl, a1, xs7, _, _, rfl, rfl, hT7, hi7, _, .inl ⟨_, .inr ("let" : Str), .inl gd, rfl, rfl⟩, ?_⟩
            rw [ev, Option.getD_none]
            refine ⟨_, rfl, a1, xs7, _, _, rfl, rfl, hT7, hi7, rfl, ?_⟩
            rw [show (!decide ((V.str "let") = V.str "let")) = false from by decide +kernel]
            obtain ⟨a9, xs9, u9, ea9, hT9, hi9, hu9⟩ := du7.item (i := 1) rfl
            cases ea9
            cases hu9
            obtain ⟨w1, w2, w3⟩ := name_len hwn
            refine ⟨_, rfl, iteF ⟨_, rfl, a1, xs9, _, _, rfl, rfl, hT9, hi9, _, rfl, by rw [sO_len]; exact sizeL (m := 4) w2, _, _, rfl, rfl, ?_⟩⟩
            have hq7 := s67 _ _ hq5
            have dv7 := dv5.to (hid_mono (p := q) s67)
            have s17 := s15.trans s67
            obtain ⟨a8, xs8, u8, ea8, hT8, hi8, hu8⟩ := du7.last (ds := [.str "let", .str (sO wn)]) (by simp)
            cases ea8
            refine ⟨_, rfl, _, rfl, _, rfl, a1, xs8, _, _, rfl, rfl, hT8, hi8, _, rfl, _, rfl, _, rfl, _, _, rfl, rfl, u8, ov, pth ++ [(i : Int)], fi + (wn.length + 4), lc, by rw [Int.natCast_add, Int.natCast_add]; rfl, Nat.le_trans hlc (by decide), hcl, by rw [List.length_append]; show pth.length + 1 + n ≤ 10; omega, hu8, dov5.to s67, fun H8 q8 zs s8 nq8 hq8 dz => ?_⟩
            have hq78 := s8 _ _ hq7
            have lzs : zs.length ≤ 3 * 40 := by
              rw [dz.len, List.length_map]
              exact Nat.le_trans hrl hrl'
            refine ⟨q, q8, vs ++ [.ref t2], zs, rfl, rfl, hq78, hq8, by rw [sizeLine_eq, List.length_append, List.length_singleton]; omega, fun s' ns => ?_⟩
            have s8' : Same H8 (hid s' (upd H8 s' (.lst (vs ++ [.ref t2] ++ zs)))) := fun b u e => by
              rw [hid_ne (ne_of_none e ns), upd_ne (ne_of_none e ns)]
              exact e
            have s18 := s17.trans s8
            have dd := (dv7.to (((hid_mono (p := q) s8).trans fun b u e => (hid_at e).2).trans s8')).app (dz.to (Same.trans (fun b u e => (hid_at e).2) s8'))
            rw [List.append_cons] at htr
            rw [← List.map_append, ← htr] at dd
            exact ⟨_, rfl, _, _, rfl, rfl, fin _ s' _ _ (s18.trans (K0.same_upd ns)) (by
              cases e : H s' with
              | none => rfl
              | some u =>
                rw [s18 _ _ e] at ns
                cases ns) upd_same dd⟩
      · rintro σ H1 ⟨_, s1, q, vs, o4, o5, o6, o7, o8, rfl, nq, hq, dv⟩
        rw [List.take_length] at dv
        exact ⟨_, rfl, k H1 q vs s1 nq hq dv⟩
end
end K1
set_option maxHeartbeats 4000000
/-! _law_told -/
namespace K1
open PySem L2
/-- the suite of a clause: return [word, e.told] -/
def tsTold2 (C : Addr) (word : Str) : SuiteT := fun a cls d => lenT 3 (tRet (tLst (tCons (tC (.str word)) (tCons (tXf a cls d C "told" (tVar 2)) tNil))))
def tellPost (K : PySem.W.Frag) (H : Hp) (Q : VK) (x : PyData) : Prop := ∀ H' u, Same H H' → DQ K H' u x → Q u H'
def toldD (z : Str) (rs : List (List Int × Int × Int)) : PyData → PyData
  | .int i => if fromD 0 ((z.length : Int) - 1) (.int i) then pathD (lastIn rs i) else .list [.str "index", .int i]
  | d => .list [.str "index", d]
def toldPost (K : PySem.W.Frag) (H : Hp) (Q : VK) (z : Str) (d : PyData) : Nat ⊕ Sc → Prop
  | .inl e => tellPost K H Q (.list [.str "text", .int e])
  | .inr S' => ∃ rs, RowsOf S' rs ∧ rs.length ≤ 1000 ∧ tellPost K H Q (toldD z rs d)
def spTold (K : PySem.W.Frag) : Sp := fun vs H Q _ => ∃ v ix d, vs = [v, ix] ∧ DQ K H ix d ∧ srcPost v (tellPost K H Q (.list [.str "text", .int 0])) (fun z r => toldPost K H Q z d r)
abbrev NTo : List Str := ["_law_text_here", "_law_index", "e"]
section
variable {P : Program} {w : World} {K : PySem.W.Frag} {mg : Str → Option Value} {base : Heap}
theorem sc_told : FnScope NTo ["_law_text_here", "_law_index"] (defScope (top 35)) := ⟨rfl, rfl, rfl, by decide +kernel, rfl, by decide +kernel, by decide +kernel⟩
theorem cl_told {C B N fI fN : Addr} (T : All K mg) (W : ScC K mg C) (R : Er K mg "BadText" B fI) (RN : Er K mg "NoIndex" N fN) (eBN : PySem.W.exmOne K (.ref B) (.ref N) = some false) (hzip : mg "zip" = none) (hlist : mg "list" = none) : ClG P w K mg base 12 "_law_told" ["_law_text_here", "_law_index"] (spTold K) := by
  obtain ⟨g, fd, D⟩ := T.dn 35 _ _ rfl
  refine ⟨g, fd, okG D.fn sc_told (fun vs H Q E h => ?_) (fun cdv A outer s H vs Q E hgd hr h => ?_), D.mg, D.fn.kp, D.bn⟩
  · obtain ⟨v, ix, d, rfl, _⟩ := h
    rfl
  · obtain ⟨v, ix, d, rfl, hd, hv⟩ := h
    refine ⟨_, pss_one (ps_try_each (X := (cxOf CX0 P w K mg base NTo "_law_told" (defScope (top 35)) g cdv A outer s H E).nox) (n := "e") (i := 2) rfl rfl sc_told.nd rfl rfl takes_none5 (fun W' pn xe tk _ => pss_one (ps_ret (pe_clX (cl_itemat T W R RN hzip hlist) hr tk (by decide) (pa_cons (pv 0) (pa_cons (pv 1) pa_nil)))))
      (.cons (c := .ref N) (ts := tsTold2 N "index") ⟨(by rfl), (by decide), .inl RN.mg⟩ (fun a oe cls d pn hz hf => pss_len (pss_one (ps_ret (pe_lst (pa_cons pe_str (pa_cons (pe_xf RN.xf RN.noN hz hf (pv 2)) pa_nil))))) rfl)
      (.cons (c := .ref B) (ts := tsTold2 B "text") ⟨(by rfl), (by decide), .inl R.mg⟩ (fun a oe cls d pn hz hf => pss_len (pss_one (ps_ret (pe_lst (pa_cons pe_str (pa_cons (pe_xf R.xf R.noN hz hf (pv 2)) pa_nil))))) rfl)
      .nil))), ?_⟩
    have suite : ∀ (C0 : Addr) (word : Str) (a dd : Addr) (v0 : V) (x : PyData) (σ' : St) (H' : Hp) (D' : Ends), D'.rt = Q → word.length ≤ 1000 → Same H H' → H' dd = some (.xd [("told", v0)]) → DQ K H v0 x → tellPost K H Q (.list [.str word, x]) →
        tsTold2 C0 word a (.ref C0) (some dd) (gone 2 D') (σ'.set 2 (some (.ref a))) H' := by
      intro C0 word a dd v0 x σ' H' D' hD hw s1 hx dv ht hlen
      rw [List.length_set] at hlen
      have get : (σ'.set 2 (some (V.ref a)))[2]? = some (some (V.ref a)) := by
        rw [List.getElem?_set_self (by omega)]
      refine ⟨_, get, rfl, rfl, dd, _, v0, rfl, hx, by simp [List.lookup], (by show 2 ≤ sizeLine; rw [sizeLine_eq]; decide), fun p new => ?_⟩
      show D'.rt _ _
      rw [hD]
      have s2 := K0.same_upd (o := .lst [.str word, v0]) new
      exact ht _ _ (s1.trans s2) (.lst (SqL.of upd_same) (.cons (.str _ hw) (.cons (dv.to (s1.trans s2)) .nil)))
    refine ⟨_, rfl, _, rfl, v, ix, d, rfl, hd, ?_⟩
    rcases hv with ⟨hn, k⟩ | ⟨z, r, rfl, hz, hR, k⟩
    · refine .inl ⟨hn, fun H' dd s1 hx => ?_⟩
      exact ⟨false, eBN, fun z => Bool.noConfusion z, fun _ => ⟨true, R.te, fun _ a na => suite B "text" a dd _ _ _ H' _ rfl (by decide) s1 hx (.int 0) k, fun z => Bool.noConfusion z⟩⟩
    · refine .inr ⟨z, r, rfl, hz, hR, ?_⟩
      cases r with
      | inl e =>
        intro H' dd s1 hx
        exact ⟨false, eBN, fun z => Bool.noConfusion z, fun _ => ⟨true, R.te, fun _ a na => suite B "text" a dd _ _ _ H' _ rfl (by decide) s1 hx (.int _) k, fun z => Bool.noConfusion z⟩⟩
      | inr S' =>
        obtain ⟨rs, hrs, hn, k⟩ := k
        refine ⟨rs, hrs, hn, fun ef H' dd s1 hx => ?_, fun i ei ef H' u s1 du => ?_⟩
        · have ek : toldD z rs d = .list [.str "index", d] := by
            cases d with
            | int i =>
              show (if _ then _ else _) = _
              rw [ef]
              rfl
            | _ => rfl
          rw [ek] at k
          exact ⟨true, RN.te, fun _ a na => suite N "index" a dd _ _ _ H' _ rfl (by decide) s1 hx hd k, fun z => Bool.noConfusion z⟩
        · subst ei
          have ek : toldD z rs (.int i) = pathD (lastIn rs i) := by
            show (if _ then _ else _) = _
            rw [ef]
            rfl
          rw [ek] at k
          exact k H' u s1 du
end
end K1
set_option maxHeartbeats 4000000
/-! rows: where they stand, what holds a sign -/
namespace K1
open PySem L2
/-- a row that stands between a and b -/
def Stands (a b : Nat) (r : List Int × Int × Int) : Prop := ∃ a1 b1 : Nat, r.2.1 = (a1 : Int) ∧ r.2.2 = (b1 : Int) ∧ a ≤ a1 ∧ a1 < b1 ∧ b1 ≤ b
theorem rowsL_stand : ∀ {l : List It}, (∀ x ∈ l, ∀ p a r, r ∈ x.rows p a → Stands a (a + x.word.length) r) → ∀ (p : List Int) (k a : Nat) (r : List Int × Int × Int), r ∈ rowsL p k a l → Stands a (a + (gapped l).length - 1) r
  | [], _, p, k, a, r, hr => by
    rw [rowsL] at hr
    cases hr
  | x :: l, h, p, k, a, r, hr => by
    rw [rowsL] at hr
    have eg : (gapped (x :: l)).length = x.word.length + (gapped l).length + 1 := by
      rw [gapped, List.length_cons, List.length_append]
    rw [eg]
    rcases List.mem_append.mp hr with hr | hr
    · obtain ⟨a1, b1, e1, e2, h1, h2, h3⟩ := h x List.mem_cons_self _ _ _ hr
      exact ⟨a1, b1, e1, e2, h1, h2, by omega⟩
    · obtain ⟨a1, b1, e1, e2, h1, h2, h3⟩ := rowsL_stand (fun y hy => h y (List.mem_cons_of_mem _ hy)) _ _ _ _ hr
      exact ⟨a1, b1, e1, e2, by omega, h2, by omega⟩
theorem Dr.stand {n : Nat} {x : It} (d : Dr n x) : ∀ p a r, r ∈ x.rows p a → Stands a (a + x.word.length) r := by
  induction d with
  | @leaf n h w k =>
    intro p a r hr
    rw [It.rows] at hr
    rw [List.mem_singleton.mp hr]
    obtain ⟨c, t, e, _⟩ := k.ok.st
    refine ⟨a, a + w.length, rfl, rfl, Nat.le_refl _, ?_, ?_⟩
    · rw [e, List.length_cons]
      omega
    · rw [It.word]
      omega
  | @node n h o b l k hl hc ih =>
    intro p a r hr
    rw [It.rows] at hr
    have ew : (It.node h o b l).word.length = o.length + ((if b = true then (gapped l).drop 1 else gapped l).length + 1) := by
      rw [word_node, List.length_append, List.length_append, List.length_singleton]
    rcases List.mem_cons.mp hr with rfl | hr
    · exact ⟨a, a + (It.node h o b l).word.length, rfl, rfl, Nat.le_refl _, by omega, by omega⟩
    · obtain ⟨a1, b1, e1, e2, h1, h2, h3⟩ := rowsL_stand (fun y hy => ih y hy) _ _ _ _ hr
      refine ⟨a1, b1, e1, e2, by omega, h2, ?_⟩
      rw [ew]
      cases b with
      | true =>
        simp only [if_true, List.length_drop] at h3 ⊢
        omega
      | false =>
        simp only [Bool.false_eq_true, if_false] at h3 ⊢
        omega
theorem rows_stand {l : List It} (h : ∀ x ∈ l, Dr 3 x) {r : List Int × Int × Int} (hr : r ∈ rowsL [] 0 0 l) : Stands 0 (textM l).length r := by
  have := rowsL_stand (fun x hx => (h x hx).stand) _ _ _ _ hr
  unfold textM
  rw [List.length_drop]
  rw [Nat.zero_add] at this
  exact this
/-- the last path of those rows that hold the sign, or what stood before -/
def dueR (init : PyData) (i : Int) (rs : List (List Int × Int × Int)) : PyData := (((rs.filter (inRow i)).getLast?).map fun r => pathD r.1).getD init
theorem dueR_nil {init : PyData} {i : Int} : dueR init i [] = init := rfl
theorem dueR_snoc {init : PyData} {i : Int} {rs : List (List Int × Int × Int)} {r : List Int × Int × Int} : dueR init i (rs ++ [r]) = if inRow i r = true then pathD r.1 else dueR init i rs := by
  unfold dueR
  rw [List.filter_append]
  cases e : inRow i r with
  | true =>
    rw [List.filter_cons_of_pos e, List.filter_nil, List.getLast?_append]
    rfl
  | false =>
    rw [List.filter_cons_of_neg (by rw [e]; exact Bool.false_ne_true), List.filter_nil, List.append_nil]
    rfl
theorem dueR_in {i : Int} {rs : List (List Int × Int × Int)} : dueR (pathD []) i rs = pathD (lastIn rs i) := by
  unfold dueR lastIn
  cases (rs.filter (inRow i)).getLast? <;> rfl
theorem dueR_out {init : PyData} {i : Int} {rs : List (List Int × Int × Int)} {b : Nat} (h : ∀ r ∈ rs, Stands 0 b r) (hi : (b : Int) ≤ i) : dueR init i rs = init := by
  unfold dueR
  have e : rs.filter (inRow i) = [] := by
    rw [List.filter_eq_nil_iff]
    intro r hr
    obtain ⟨a1, b1, e1, e2, h1, h2, h3⟩ := h r hr
    unfold inRow
    rw [e1, e2]
    simp only [Bool.and_eq_true, decide_eq_true_eq]
    omega
  rw [e]
  rfl
/-- what the law holds due at a sign that is asked -/
def firstD (n : Nat) (i : Int) : PyData := if i < (n : Int) then pathD [] else .list [.str "index", .int i]
theorem due_told {z : Str} {i : Int} {rs : List (List Int × Int × Int)} (h : ∀ r ∈ rs, Stands 0 z.length r) (h0 : 0 ≤ i) : dueR (firstD z.length i) i rs = toldD z rs (.int i) := by
  have ef : fromD 0 ((z.length : Int) - 1) (.int i) = decide (i < (z.length : Int)) := by
    show (decide (0 ≤ i) && decide (i ≤ (z.length : Int) - 1)) = _
    rw [decide_eq_true h0, Bool.true_and]
    exact decide_eq_decide.mpr (by omega)
  unfold toldD firstD
  dsimp only
  rw [ef]
  by_cases c : i < (z.length : Int)
  · rw [if_pos c, if_pos (decide_eq_true c), dueR_in]
  · rw [if_neg c, decide_eq_false c, dueR_out h (by omega)]
    rfl
/-! .. as data that may be compared -/
theorem lay_ints : ∀ p : List Int, PyData.canLayAll0 (p.map .int) = true ∧ PyData.depthAll (p.map PyData.int) = 0
  | [] => ⟨by simp [PyData.canLayAll0], rfl⟩
  | i :: p => by
    obtain ⟨h1, h2⟩ := lay_ints p
    refine ⟨by simp [PyData.canLayAll0, PyData.canLay0, h1], ?_⟩
    show max 0 (PyData.depthAll (p.map PyData.int)) = 0
    rw [h2]
    rfl
theorem lay_path (p : List Int) : (pathD p).canLay0 = true ∧ (pathD p).depth = 1 := by
  obtain ⟨h1, h2⟩ := lay_ints p
  unfold pathD
  refine ⟨by simp only [PyData.canLay0]; exact h1, ?_⟩
  show PyData.depthAll (p.map PyData.int) + 1 = 1
  rw [h2]
theorem lay_row (r : List Int × Int × Int) : (rowD r).canLay0 = true ∧ (rowD r).depth = 2 := by
  obtain ⟨h1, h2⟩ := lay_path r.1
  unfold rowD
  refine ⟨by simp [PyData.canLay0, PyData.canLayAll0, h1], ?_⟩
  show max (pathD r.1).depth (max 0 (max 0 0)) + 1 = 2
  rw [h2]
  rfl
theorem lay_rows : ∀ rs : List (List Int × Int × Int), PyData.canLayAll0 (rs.map rowD) = true ∧ PyData.depthAll (rs.map rowD) ≤ 2
  | [] => ⟨by simp [PyData.canLayAll0], Nat.zero_le _⟩
  | r :: rs => by
    obtain ⟨h1, h2⟩ := lay_rows rs
    obtain ⟨g1, g2⟩ := lay_row r
    refine ⟨by simp [PyData.canLayAll0, g1, h1], ?_⟩
    show max (rowD r).depth (PyData.depthAll (rs.map rowD)) ≤ 2
    rw [g2]
    exact Nat.max_le.mpr ⟨Nat.le_refl _, h2⟩
theorem shaped_mk {d : PyData} (h1 : d.canLay0 = true) (h2 : d.depth ≤ 64) : SeqAt.shaped d = true := by
  unfold SeqAt.shaped
  rw [h1, decide_eq_true h2]
  rfl
theorem shaped_rows (rs : List (List Int × Int × Int)) : SeqAt.shaped (.list (rs.map rowD)) = true := by
  obtain ⟨h1, h2⟩ := lay_rows rs
  refine shaped_mk (by simp only [PyData.canLay0]; exact h1) ?_
  show PyData.depthAll (rs.map rowD) + 1 ≤ 64
  omega
theorem shaped_path (p : List Int) : SeqAt.shaped (pathD p) = true := by
  obtain ⟨h1, h2⟩ := lay_path p
  exact shaped_mk h1 (by omega)
theorem shaped_told {z : Str} {rs : List (List Int × Int × Int)} {d : PyData} (h1 : d.canLay0 = true) (h2 : d.depth = 0) (hs : PyData.strOk "index" = true) : SeqAt.shaped (toldD z rs d) = true := by
  have e : SeqAt.shaped (.list [.str "index", d]) = true := by
    refine shaped_mk (by simp [PyData.canLay0, PyData.canLayAll0, h1, hs]) ?_
    show max 0 (max d.depth 0) + 1 ≤ 64
    rw [h2]
    decide
  unfold toldD
  split
  · split
    · exact shaped_path _
    · exact e
  · exact e
end K1
set_option maxHeartbeats 8000000
/-! law -/
namespace K1
open PySem L2
theorem pe_clN {X : Cx} {k m : Nat} {x : Str} {ps : List Str} {sp : Sp} {e : Expr} {es : List Expr} {t : TA} {p pos : Pos} (C : ClX X.prog X.w X.K X.mg X.base k x ps sp) (hr : Room m X.A) (hk : k ≤ m) (ha : PA X (e :: es) t) (hg : Gl X x := by rfl) (hdb : (x == ("__debug__" : Str)) = false := by decide)
    (he : starEach (e :: es) X.env = (false, eval e X.env) :: starEach es X.env := by rfl) (hpl : (backTo pos (starEach es X.env)).any (·.1) = false := by rfl) : PE X (.Call (.Name x p) (e :: es) [] pos) (tCallS sp (fun _ => E0) t) := by
  obtain ⟨g, fd, F, hm, hk', hb⟩ := C
  exact pe_callS F (hr.mono hk) hg hm hk' hb (fun σ => passN) ha hdb he hpl
/-- what is told of data beside a pool -/
theorem nodict_told {z : Str} {rs : List (List Int × Int × Int)} {d : PyData} (h : d.hasDict = false) : (toldD z rs d).hasDict = false := by
  have hp : ∀ p : List Int, (pathD p).hasDict = false := fun p => (flat_pure _ (.tup (Flats.of fun e he => by
    obtain ⟨i, _, rfl⟩ := List.mem_map.mp he
    exact .int i))).1
  have e : (PyData.list [.str "index", d]).hasDict = false := by
    show (false || (d.hasDict || false)) = false
    rw [h]
    rfl
  unfold toldD
  split
  · split
    · exact hp _
    · exact e
  · exact e
theorem nodict_rows (rs : List (List Int × Int × Int)) : (PyData.list (rs.map rowD)).hasDict = false := (flats_pure _ (flats_rows rs)).1
/-- a text of the law's own, scanned -/
theorem scan_ok {its : List It} (h : ∀ x ∈ its, Dr 3 x) : ScanR (sO (textM its)).cps.toList (.inr (endM its)) ∧ RowsOf (endM its) (rowsL [] 0 0 its) := by
  refine ⟨?_, ⟨rfl, rfl, rfl⟩⟩
  have e : (sO (textM its)).cps.toList = textM its := rfl
  rw [e]
  cases its with
  | nil => exact .inl ⟨rfl, rfl⟩
  | cons x r =>
    have g : ∀ y ∈ x :: r, Gd 3 y := fun y hy => (h y hy).gd
    obtain ⟨S1, m, h1, h2⟩ := runs_ok x r g
    refine .inr ⟨?_, .inr ⟨S1, m, h1, h2⟩⟩
    obtain ⟨c, t, e, _⟩ := (g x List.mem_cons_self).st
    unfold textM
    rw [gapped, e]
    simp
theorem scan_bad {its : List It} (h : ∀ x ∈ its, Dr 3 x) : ScanR (sO (textM its ++ [32])).cps.toList (.inl (if its = [] then 0 else (textM its).length + 1)) := by
  have e : (sO (textM its ++ [32])).cps.toList = textM its ++ [32] := rfl
  rw [e]
  cases its with
  | nil => exact .inr ⟨by simp, .inl ⟨0, begin_blank, rfl⟩⟩
  | cons x r =>
    have g : ∀ y ∈ x :: r, Gd 3 y := fun y hy => (h y hy).gd
    obtain ⟨S1, m, h1, h2⟩ := runs_bad x r g
    exact .inr ⟨by simp, .inr ⟨S1, m, h1, h2⟩⟩
theorem text_len {its : List It} (h : ∀ x ∈ its, Dr 3 x) (hl : its.length ≤ 4) : (sO (textM its)).length ≤ 1008 := by
  have h1 := gapped_len (B := 251) fun x hx => Nat.le_trans (h x hx).len (wB_le (Nat.le_refl _))
  have h2 : its.length * (251 + 1) ≤ 4 * 252 := Nat.mul_le_mul_right _ hl
  rw [sO_len]
  unfold textM
  rw [List.length_drop]
  omega
def spLaw (K : PySem.W.Frag) : Sp := fun vs H Q _ => ∃ (a : Addr) (ns : List Int), vs = [.ref a] ∧ SqL K H a (ns.map V.int) ∧ ∀ H', Q (.bl true) H'
abbrev NLaw : List Str := ["_law_script", "_law_k", "_law_pool_here", "_law_program_here", "_law_text_here", "_law_rows", "_law_turn", "_law_row", "_law_index", "_law_due", "_law_path", "_law_first", "_law_behind", "_law_odd"]
def tTurns (K : PySem.W.Frag) : TE := fun σ H Q => ∃ q vs, σ[5]? = some (some (.ref q)) ∧ SqL K H q vs ∧ ∀ H', Same H H' → Q (.int (if vs.isEmpty = true then 0 else 4)) H'
def tThree (K : PySem.W.Frag) : TE := fun σ H Q => ∃ (ta : Addr) (pp : V) (a1 b1 : Int), σ[7]? = some (some (.ref ta)) ∧ SqT K H ta [pp, .int a1, .int b1] ∧ ∀ l, H l = none → ∀ H', H' = upd H l (.lst [.int a1, .int (b1 - 1), .int b1]) → Q (.ref l) H'
def oddV (n : Nat) : List V := [.int (-1), .int (n : Int), .bl true, .non, .str "0", .int (10 ^ 20)]
def tOdds (K : PySem.W.Frag) : TE := fun σ H Q => ∃ z : Str, σ[4]? = some (some (.str z)) ∧ z.length ≤ 2000 ∧ ∀ l, H l = none → ∀ H', H' = upd H l (.lst (oddV z.length)) → Q (.ref l) H'
theorem odd_of {K : PySem.W.Frag} {z : Str} {rs : List (List Int × Int × Int)} {x : V} (hz : z.length ≤ 2000) (h : x ∈ oddV z.length) : ∃ d, (∀ H, DQ K H x d) ∧ toldD z rs d = .list [.str "index", d] ∧ d.canLay0 = true ∧ d.depth = 0 ∧ d.hasDict = false := by
  have num : ∀ i : Int, fromD 0 ((z.length : Int) - 1) (.int i) = false → ∃ d, (∀ H, DQ K H (.int i) d) ∧ toldD z rs d = .list [.str "index", d] ∧ d.canLay0 = true ∧ d.depth = 0 ∧ d.hasDict = false := fun i e => by
    refine ⟨.int i, fun H => .int i, ?_, by simp [PyData.canLay0], rfl, rfl⟩
    show (if _ then _ else _) = _
    rw [e]
    rfl
  have fr : ∀ i : Int, ¬ (0 ≤ i ∧ i ≤ (z.length : Int) - 1) → fromD 0 ((z.length : Int) - 1) (.int i) = false := fun i e => by
    show (decide (0 ≤ i) && decide (i ≤ (z.length : Int) - 1)) = false
    rw [Bool.and_eq_false_iff, decide_eq_false_iff_not, decide_eq_false_iff_not]
    omega
  unfold oddV at h
  simp only [List.mem_cons, List.not_mem_nil, or_false] at h
  rcases h with rfl | rfl | rfl | rfl | rfl | rfl
  · exact num _ (fr _ (by omega))
  · exact num _ (fr _ (by omega))
  · exact ⟨.bool true, fun H => .bl true, rfl, by simp [PyData.canLay0], rfl, rfl⟩
  · exact ⟨.none, fun H => .non, rfl, by simp [PyData.canLay0], rfl, rfl⟩
  · exact ⟨.str "0", fun H => .str _ (by decide), rfl, by decide +kernel, rfl, rfl⟩
  · exact num _ (fr _ (by omega))
def tFirst (K : PySem.W.Frag) : TE := fun σ H Q => ∃ (z : Str) (i : Int), σ[4]? = some (some (.str z)) ∧ σ[8]? = some (some (.int i)) ∧ z.length ≤ 2000 ∧ ∀ H' u, Same H H' → DQ K H' u (firstD z.length i) → Q u H'
section
variable {P : Program} {w : World} {K : PySem.W.Frag} {mg : Str → Option Value} {base : Heap}
theorem sc_law : FnScope NLaw ["_law_script"] (defScope (top 36)) := ⟨rfl, rfl, rfl, by decide +kernel, rfl, by decide +kernel, by decide +kernel⟩
theorem genH {F : Hp → Prop} {J : Hp} (h : ∀ J', J' = J → F J') : F J := h J rfl
theorem list14 {σ : St} (h : σ.length = 14) : ∃ z0 z1 z2 z3 z4 z5 z6 z7 z8 z9 z10 z11 z12 z13, σ = [z0, z1, z2, z3, z4, z5, z6, z7, z8, z9, z10, z11, z12, z13] := by
  match σ, h with
  | [z0, z1, z2, z3, z4, z5, z6, z7, z8, z9, z10, z11, z12, z13], _ => exact ⟨_, _, _, _, _, _, _, _, _, _, _, _, _, _, rfl⟩
theorem cl_law {C B N0 fI fN : Addr} (T : All K mg) (N : Nms mg) (W : ScC K mg C) (R : Er K mg "BadText" B fI) (RN : Er K mg "NoIndex" N0 fN) (eBN : PySem.W.exmOne K (.ref B) (.ref N0) = some false) (hrange : mg "range" = none) (hmin : mg "min" = none) (hzip : mg "zip" = none) (hlist : mg "list" = none) : ClG P w K mg base 13 "law" ["_law_script"] (spLaw K) := by
  obtain ⟨g, fd, D⟩ := T.dn 36 _ _ rfl
  have TOLD : ClG P w K mg base 12 "_law_told" ["_law_text_here", "_law_index"] (spTold K) := cl_told T W R RN eBN hzip hlist
  have TEXT : ClG P w K mg base 5 "_law_text" ["_law_program_here"] (spText K) := cl_text T
  have SP : ClG P w K mg base 5 "_law_spans" ["_law_items", "_law_path", "_law_first"] (spSp K 3) := cl_lsp T hrange 3 (Nat.le_refl _)
  refine ⟨g, fd, okG D.fn sc_law (fun vs H Q E h => ?_) (fun cdv A outer s H vs Q E hgd hr h => ?_), D.mg, D.fn.kp, D.bn⟩
  · obtain ⟨a, ns, rfl, _⟩ := h
    rfl
  · obtain ⟨a, ns, rfl, ha, k⟩ := h
    refine ⟨_, (pss_cons (ps_for PassesOwn.never rfl (pi_range1 rfl hrange (pa_cons (pe_callB (call_max2 rfl) (by rfl) N.max (by decide +kernel) (pa_cons pe_int (pa_cons (pe_callB (call_min2 rfl) (by rfl) hmin (by decide +kernel) (pa_cons pe_int (pa_cons (pe_callB call_len_seq (by rfl) T.bi.len PySem.boot_len (pa_cons (pv 0) pa_nil)) pa_nil))) pa_nil))) pa_nil)) (pg_name (i := 1) sc_law.nd rfl (Or.inl rfl)) (pss_cons (ps_set (i := 2) sc_law.nd rfl (Or.inl rfl) (pe_cl (cl_pool T N) hr (by decide) (pa_cons (pv 0) (pa_cons (pv 1) pa_nil))))
      (pss_cons (ps_set (i := 3) sc_law.nd rfl (Or.inl rfl) (pe_cl (cl_program T N hrange) hr (by decide) (pa_cons (pv 2) (pa_cons (pe_lst (pa_cons pe_str (pa_cons pe_str (pa_cons pe_str (pa_cons pe_str (pa_cons pe_str (pa_cons pe_str (pa_cons pe_str pa_nil)))))))) pa_nil))))
      (pss_cons (ps_par (i := 4) (j := 5) rfl sc_law.nd rfl rfl (by decide) rfl rfl (pa_cons (pe_clG TEXT hgd hr (by decide) (pa_cons (pv 3) pa_nil)) (pa_cons (pe_clG SP hgd hr (by decide) (pa_cons (pv 3) (pa_cons (pe_tup pa_nil) (pa_cons pe_int pa_nil)))) pa_nil)) (by rfl))
      (pss_cons (ps_if (pt_cmpR (op_neD hr.units) (pe_clN (cl_spans T W R hzip hlist) hr (by decide) (pa_cons (pv 4) pa_nil)) (pv 5) (nomark _)) (pss_one (ps_ret pe_bl)) pss_nil)
      (pss_cons (ps_for PassesOwn.never rfl (pi_range1 rfl hrange (pa_cons (K0.pe_imp (t' := tTurns K) (pe_ifExp (pt_cmpR (op_neE hr.units) (pv 5) (pe_lst pa_nil) (nomark _)) pe_int pe_int) (fun σ H Q hh => ?_)) pa_nil)) (pg_name (i := 6) sc_law.nd rfl (Or.inl rfl)) (pss_cons (ps_set (i := 7) sc_law.nd rfl (Or.inl rfl) (pe_cl (cl_one T N) hr (by decide) (pa_cons (pv 2) (pa_cons (pv 5) pa_nil))))
      (pss_one (ps_for PassesOwn.never rfl (pi_list (K0.pe_imp (t' := tThree K) (pe_lst (pa_cons (pe_ix ix_tup (pv 7) pe_int (fun _ _ => rfl)) (pa_cons (pe_op op_sub (pe_ix ix_tup (pv 7) pe_int (fun _ _ => rfl)) pe_int) (pa_cons (pe_ix ix_tup (pv 7) pe_int (fun _ _ => rfl)) pa_nil)))) (fun σ H Q hh => ?_))) (pg_name (i := 8) sc_law.nd rfl (Or.inl rfl)) (pss_cons (ps_set (i := 9) sc_law.nd rfl (Or.inl rfl) (K0.pe_imp (t' := tFirst K) (pe_ifExp (pt_cmpR op_lt (pv 8) (pe_callB call_len_str (by rfl) T.bi.len PySem.boot_len (pa_cons (pv 4) pa_nil)) (nomark _)) (pe_tup pa_nil) (pe_lst (pa_cons pe_str (pa_cons (pv 8) pa_nil)))) (fun σ H Q hh => ?_)))
      (pss_cons (ps_for PassesOwn.never rfl (pi_list (pv 5)) (pg_tup (t := (gCons (gName 10) (gCons (gName 11) (gCons (gName 12) gNil)))) rfl (pgs_cons (pg_name (i := 10) sc_law.nd rfl (Or.inl rfl)) (pgs_cons (pg_name (i := 11) sc_law.nd rfl (Or.inl rfl)) (pgs_cons (pg_name (i := 12) sc_law.nd rfl (Or.inl rfl)) pgs_nil)))) (pss_one (ps_set (i := 9) sc_law.nd rfl (Or.inl rfl) (pe_ifExp (pt_chain op_le op_lt (pv 11) (pv 8) (pv 12)) (pv 10) (pv 9)))))
      (pss_one (ps_if (pt_cmpR (op_neD hr.units) (pe_clG TOLD hgd hr (by decide) (pa_cons (pv 4) (pa_cons (pv 8) pa_nil))) (pv 9) (nomark _)) (pss_one (ps_ret pe_bl)) pss_nil))))))))
      (pss_cons (ps_for PassesOwn.never rfl (pi_list (K0.pe_imp (t' := tOdds K) (pe_lst (pa_cons (pe_un un_neg pe_int) (pa_cons (pe_callB call_len_str (by rfl) T.bi.len PySem.boot_len (pa_cons (pv 4) pa_nil)) (pa_cons pe_bl (pa_cons pe_non (pa_cons pe_str (pa_cons (pe_op op_pow pe_int pe_int) pa_nil))))))) (fun σ H Q hh => ?_))) (pg_name (i := 13) sc_law.nd rfl (Or.inl rfl)) (pss_one (ps_if (pt_cmpR (op_neD hr.units) (pe_clG TOLD hgd hr (by decide) (pa_cons (pv 4) (pa_cons (pv 13) pa_nil))) (pe_lst (pa_cons pe_str (pa_cons (pv 13) pa_nil))) (nomark _)) (pss_one (ps_ret pe_bl)) pss_nil)))
      (pss_one (ps_if (PW.pt (pw_or (pt_cmpR (op_neD hr.units) (pe_clG TOLD hgd hr (by decide) (pa_cons (pe_op op_add_str (pv 4) pe_str) (pa_cons pe_int pa_nil))) (pe_lst (pa_cons pe_str (pa_cons (pe_op op_add (pe_callB call_len_str (by rfl) T.bi.len PySem.boot_len (pa_cons (pv 4) pa_nil)) (pe_callTy call_int1 (by rfl) N.int (by decide +kernel) (pa_cons (pe_cmpR op_ne (pv 4) pe_str (nomark _)) pa_nil))) pa_nil))) (nomark _)) (pw_or1 (pt_cmpR (op_neD hr.units) (pe_clG TOLD hgd hr (by decide) (pa_cons pe_non (pa_cons pe_non pa_nil))) (pe_lst (pa_cons pe_str (pa_cons pe_int pa_nil))) (nomark _))))) (pss_one (ps_ret pe_bl)) pss_nil)))))))))
      (pss_one (ps_ret pe_bl))), ?_⟩
    · obtain ⟨q, vs, h5, hq, kk⟩ := hh
      refine ⟨_, h5, Nat.zero_le _, fun t nt => ⟨q, t, vs, rfl, rfl, (K0.same_upd nt).seq hq, SqL.of upd_same, _, rfl, ?_⟩⟩
      have h := kk _ (K0.same_upd (o := .lst []) nt)
      cases e : vs.isEmpty with
      | true =>
        rw [e] at h
        exact iteF h
      | false =>
        rw [e] at h
        exact iteT h
    · obtain ⟨ta, pp, a1, b1, h7, hT, kk⟩ := hh
      exact ⟨_, h7, ta, _, _, _, rfl, rfl, hT, rfl, _, h7, ta, _, _, _, rfl, rfl, hT, rfl, _, _, rfl, rfl, _, h7, ta, _, _, _, rfl, rfl, hT, rfl, sizeL (m := 3) (Nat.le_refl 3), fun l nl => kk l nl _ rfl⟩
    · obtain ⟨z, i, h4, h8, hz, kk⟩ := hh
      refine ⟨_, h8, _, h4, z, rfl, sizeL hz, _, _, rfl, rfl, _, rfl, ?_⟩
      unfold firstD at kk
      by_cases c : i < (z.length : Int)
      · rw [if_pos c] at kk
        rw [decide_eq_true c]
        exact iteT ⟨Nat.zero_le _, fun t nt => kk _ _ (K0.same_upd nt) (.tup (.inl (.inl upd_same)) .nil)⟩
      · rw [if_neg c] at kk
        rw [decide_eq_false c]
        exact iteF ⟨_, h8, sizeL (m := 2) (Nat.le_refl 2), fun t nt => kk _ _ (K0.same_upd nt) (.lst (SqL.of upd_same) (.cons (.str _ (by decide)) (.cons (.int _) .nil)))⟩
    · obtain ⟨z, h4, hz, kk⟩ := hh
      refine ⟨_, rfl, _, h4, z, rfl, sizeL hz, _, _, rfl, rfl, ⟨by decide, by decide, by decide⟩, sizeL (m := 6) (Nat.le_refl 6), fun l nl => kk l nl _ rfl⟩
    refine ⟨_, rfl, a, _, rfl, .inl ha, _, _, rfl, _, _, rfl, ?_⟩
    rw [List.length_map]
    generalize hm : (if (if (ns.length : Int) < 3 then (ns.length : Int) else 3) > 1 then (if (ns.length : Int) < 3 then (ns.length : Int) else 3) else 1) = m
    have hm3 : 1 ≤ m ∧ m ≤ 3 := by
      rw [← hm]
      split <;> split at * <;> omega
    refine ⟨_, rfl, by omega, by omega, ?_⟩
    refine for_range (lo := 0) (n := m.toNat) (fun i σ J => σ.length = 14 ∧ σ[0]? = some (some (V.ref a)) ∧ SqL K J a (ns.map V.int)) ⟨rfl, rfl, ha⟩ ?_ ?_
    · rintro i σ J hi ⟨l14, t0, haJ⟩
      obtain ⟨z0, z1, z2, z3, z4, z5, z6, z7, z8, z9, z10, z11, z12, z13, rfl⟩ := list14 l14
      obtain rfl : z0 = some (V.ref a) := Option.some.inj t0
      refine ⟨_, rfl, _, rfl, a, ns, i, by rw [Int.zero_add]; rfl, by omega, haJ, fun p A0 B0 np b0 b1 => ?_⟩
      have S1 := K0.same_upd (o := .lst [.int A0, .int B0]) np
      have src : Src (upd J p (.lst [.int A0, .int B0])) p := ⟨A0, B0, upd_same, b0, b1⟩
      have haS : SqL K (hid p (upd J p (.lst [.int A0, .int B0]))) a (ns.map V.int) := Same.seq (fun b u e => by
        rw [hid_ne (ne_of_none e np), upd_ne (ne_of_none e np)]
        exact e) haJ
      generalize upd J p (.lst [.int A0, .int B0]) = J1 at S1 src haS ⊢
      refine ⟨_, rfl, sizeL (m := 7) (by decide), fun l nl => ?_⟩
      have bl : Bt p J1 (upd J1 l (.lst nameV)) := (Bt.refl src).new nl
      refine ⟨p, l, rfl, bl.src, ⟨upd_same, fun e => by
        obtain ⟨_, _, e2, _⟩ := src
        rw [← e, nl] at e2
        cases e2⟩, fun J2 u its b2 hl hc hd => ?_⟩
      have b12 := bl.trans b2
      have haS2 := Same.seq b12.same haS
      refine ⟨_, rfl, u, its, rfl, hl, hc, hd.to (hid_same p J2), fun J3 s23 => ?_⟩
      refine ⟨_, rfl, Nat.zero_le _, fun t nt => ?_⟩
      have s3 := K0.same_upd (o := .tup []) nt
      refine ⟨u, .ref t, [], 0, its, rfl, hl, hc, by decide, hd.to ((hid_same p J2).trans (s23.trans s3)), .tup (.inl (.inl upd_same)) .nil, fun J4 q vs s4 nq hq dz => ?_⟩
      have b3 := b12.grow (s23.trans s3)
      have qp := Bt.ne b3.src nq
      have b4 := b3.grow s4
      have haS4 := Same.seq b4.same haS
      have src4 := b4.src
      have dP : DQs K (hid p J4) vs ((rowsL [] 0 0 its).map rowD) := by
        obtain ⟨_, _, e4, _⟩ := src4
        exact Flats.hide e4 _ _ (flats_rows _) (dz.to (hid_same q J4))
      have hz := text_len hc hl
      obtain ⟨hR, hRows⟩ := scan_ok hc
      have hbad := scan_bad hc
      have hst : ∀ r ∈ rowsL [] 0 0 its, Stands 0 (sO (textM its)).length r := fun r hr => by
        rw [sO_len]
        exact rows_stand hc hr
      have lrs : (rowsL [] 0 0 its).length ≤ 160 := by
        have h1 := rowsL_len (p := []) (k := 0) (a := 0) (l := its) (B := 40) fun y hy p a => Nat.le_trans ((hc y hy).rows p a) (cB_le (Nat.le_refl _))
        have h2 : its.length * 40 ≤ 4 * 40 := Nat.mul_le_mul_right _ hl
        omega
      have hzb : (sO (textM its ++ [32])).length = (sO (textM its)).length + 1 := by
        rw [sO_len, sO_len, List.length_append, List.length_singleton]
      have hemp : (decide (V.str (sO (textM its)) = V.str "")) = decide (its = []) := by
        refine decide_eq_decide.mpr ⟨fun e => ?_, fun e => ?_⟩
        · cases its with
          | nil => rfl
          | cons x r =>
            exfalso
            obtain ⟨c, t, ew, _⟩ := (hc x List.mem_cons_self).gd.st
            have e2 := congrArg Str.length (V.str.inj e)
            rw [sO_len] at e2
            unfold textM at e2
            rw [gapped, ew] at e2
            exact absurd e2 (by
              show _ ≠ 0
              simp)
        · rw [e]
          exact congrArg V.str (by decide +kernel)
      have hlen : its = [] → (sO (textM its)).length = 0 := fun e => by
        rw [e]
        rfl
      have hsum : (" " : Str) = sO [32] := blank
      have hadd : sO (textM its) ++ sO [32] = sO (textM its ++ [32]) := sO_app _ _
      generalize rowsL [] 0 0 its = rs at *
      generalize ez : sO (textM its) = z at *
      have hz2 : z.length ≤ 2000 := by omega
      -- the spans
      refine ⟨_, _, rfl, _, rfl, .str z, rfl, .inr ⟨z, .inr (endM its), rfl, by omega, hR, rs, hRows, by omega, fun J5 q5 vs5 s5 nq5 hq5 dv5 => ?_⟩⟩
      refine ⟨_, rfl, .list (rs.map rowD), .list (rs.map rowD), DQ.dp _ _ (nodict_rows rs) (.lst (SqL.of hq5) dv5), DQ.dp _ _ (nodict_rows rs) (.lst (SqL.of (s5 _ _ hq)) (dP.to ((hid_same p J4).trans s5))), shaped_rows rs, shaped_rows rs, _, rfl, ?_⟩
      rw [K0.eqv_shaped (shaped_rows rs), Bool.not_true]
      refine iteF ?_
      have b5 := b4.grow s5
      have haS5 := Same.seq b5.same haS
      have hq5' := s5 _ _ hq
      have dP5 : DQs K (hid p J5) vs (rs.map rowD) := dP.to (hid_mono s5)
      refine ⟨q, vs, rfl, SqL.of hq5', fun J6 s6 => ?_⟩
      have b6 := b5.grow s6
      have hq6 := s6 _ _ hq5'
      have dP6 : DQs K (hid p J6) vs (rs.map rowD) := dP5.to (hid_mono s6)
      have lvs : vs.length = rs.length := by rw [dP6.len, List.length_map]
      generalize hn : (if vs.isEmpty = true then (0 : Int) else 4) = tn
      have htn : 0 ≤ tn ∧ tn ≤ 4 ∧ (0 < tn → 0 < vs.length) := by
        rw [← hn]
        cases vs with
        | nil => exact ⟨by decide, by decide, fun z => absurd z (by decide)⟩
        | cons x r => exact ⟨(by show (0 : Int) ≤ 4; decide), (by show (4 : Int) ≤ 4; decide), fun _ => Nat.succ_pos _⟩
      refine ⟨_, rfl, by omega, by omega, ?_⟩
      refine for_range (lo := 0) (n := tn.toNat) (fun j σ J => (∃ y6 y7 y8 y9 y10 y11 y12 y13, σ = [some (.ref a), some (.int (0 + (i : Int))), some (.ref p), some u, some (.str z), some (.ref q), y6, y7, y8, y9, y10, y11, y12, y13]) ∧ Bt p J6 J) ⟨⟨_, _, _, _, _, _, _, _, rfl⟩, Bt.refl b6.src⟩ ?_ ?_
      · rintro j σ J hj ⟨⟨y6, y7, y8, y9, y10, y11, y12, y13, rfl⟩, b7⟩
        have qs7 : SqL K (hid p J) q vs := SqL.of (by rw [hid_ne qp]; exact b7.at qp hq6)
        have dP7 := dP6.to b7.same
        refine ⟨_, rfl, _, rfl, p, q, vs, rs.map rowD, rfl, b7.src, qs7, dP7, by rw [List.length_map]; omega, by rw [List.length_map]; omega, fun J8 ur d hdm b8 hdr => ?_⟩
        obtain ⟨r, hr, rfl⟩ := List.mem_map.mp hdm
        obtain ⟨a1, b1, e1, e2, h1, h2, h3⟩ := hst r hr
        have b78 := b7.trans b8
        have dr8 := hdr.to (hid_same p J8)
        unfold rowD at dr8
        rw [e1, e2] at dr8
        obtain ⟨ta, pp, rfl, hT⟩ : ∃ ta pp, ur = .ref ta ∧ SqT K J8 ta [pp, .int (a1 : Int), .int (b1 : Int)] := by
          cases dr8 with
          | tup g1 g2 =>
            cases g2 with
            | cons d1 g2 =>
            cases g2 with
            | cons d2 g2 =>
            cases g2 with
            | cons d3 g2 =>
            cases g2
            cases d2
            cases d3
            exact ⟨_, _, rfl, g1⟩
        refine ⟨ta, pp, _, _, rfl, hT, fun l3 nl3 J9 e9 => ⟨l3, rfl, ⟨_, SqL.of ((congrFun e9 l3).trans upd_same)⟩, ?_⟩⟩
        have b9 : Bt p J6 J9 := by
          rw [e9]
          exact b78.new nl3
        have f9 : J9 l3 = some (.lst [V.int (a1 : Int), .int ((b1 : Int) - 1), .int (b1 : Int)]) := by
          rw [e9]
          exact upd_same
        have qs9 : SqL K (hid p J9) q vs := SqL.of (by rw [hid_ne qp]; exact b9.at qp hq6)
        have dP9 := dP6.to b9.same
        refine for_list (K := K) (a := l3) (xs := [V.int (a1 : Int), .int ((b1 : Int) - 1), .int (b1 : Int)]) (fun m σ J => (∃ y8 y9 y10 y11 y12, σ = [some (.ref a), some (.int (0 + (i : Int))), some (.ref p), some u, some (.str z), some (.ref q), some (.int (0 + (j : Int))), some (.ref ta), y8, y9, y10, y11, y12, y13]) ∧ Same J9 J) ⟨⟨_, _, _, _, _, rfl⟩, Same.refl _⟩ (fun m σ J _ ⟨_, s⟩ => SqL.of (s _ _ f9)) ?_ ?_
        · rintro m x σ J hx ⟨⟨y8, y9, y10, y11, y12, rfl⟩, s9⟩
          obtain ⟨idx, rfl, hidx⟩ : ∃ idx : Int, x = .int idx ∧ 0 ≤ idx := by
            rcases List.mem_cons.mp (List.mem_of_getElem? hx) with rfl | hx
            · exact ⟨_, rfl, by omega⟩
            · rcases List.mem_cons.mp hx with rfl | hx
              · exact ⟨_, rfl, by omega⟩
              · rw [List.mem_singleton.mp hx]
                exact ⟨_, rfl, by omega⟩
          refine ⟨z, idx, rfl, rfl, by omega, fun J10 dv s10 ddv => ?_⟩
          have s910 := s9.trans s10
          have qs10 : SqL K J10 q vs := ((hid_same p J9).trans s910).seq qs9
          have dP10 : DQs K J10 vs (rs.map rowD) := dP9.to ((hid_same p J9).trans s910)
          refine ⟨_, rfl, q, rfl, ⟨_, qs10⟩, ?_⟩
          refine for_list (K := K) (a := q) (xs := vs) (fun m2 σ J => J = J10 ∧ ∃ dv2 y10 y11 y12, σ = [some (.ref a), some (.int (0 + (i : Int))), some (.ref p), some u, some (.str z), some (.ref q), some (.int (0 + (j : Int))), some (.ref ta), some (.int idx), some dv2, y10, y11, y12, y13] ∧ DQ K J10 dv2 (dueR (firstD z.length idx) idx (rs.take m2))) ⟨rfl, dv, _, _, _, rfl, by rw [List.take_zero, dueR_nil]; exact ddv⟩ (fun m2 σ J _ ⟨e, _⟩ => by rw [e]; exact qs10) ?_ ?_
          · rintro m2 x σ J hx2 ⟨rfl, dv2, y10, y11, y12, rfl, ddv2⟩
            have hlt := (List.getElem?_eq_some_iff.mp hx2).1
            have er : rs[m2]? = some rs[m2] := List.getElem?_eq_getElem (by omega)
            obtain ⟨ux, eu, du⟩ := dP10.get (i := m2) (d := rowD rs[m2]) (by rw [List.getElem?_map, er]; rfl)
            rw [hx2] at eu
            cases eu
            generalize hrr : rs[m2] = rr at *
            have tk : rs.take (m2 + 1) = rs.take m2 ++ [rr] := by rw [List.take_succ, er]; rfl
            obtain ⟨tx, txs3, rfl, hT3, hds⟩ : ∃ ta txs, x = .ref ta ∧ SqT K J ta txs ∧ DQs K J txs [pathD rr.1, .int rr.2.1, .int rr.2.2] := by
              cases du with
              | tup h1 h2 => exact ⟨_, _, rfl, h1, h2⟩
            cases hds with
            | @cons ux1 _ _ _ d1 hds =>
            cases hds with
            | cons d2 hds =>
            cases hds with
            | cons d3 hds =>
            cases hds
            cases d2
            cases d3
            refine ⟨tx, _, rfl, hT3, rfl, _, _, rfl, _, _, rfl, _, _, rfl, rfl, ?_⟩
            refine ⟨_, rfl, _, rfl, _, _, rfl, rfl, _, rfl, ?_⟩
            have no : inRow idx rr = false → dueR (firstD z.length idx) idx (rs.take (m2 + 1)) = dueR (firstD z.length idx) idx (rs.take m2) := fun e => by
              rw [tk, dueR_snoc, e]
              rfl
            by_cases c1 : rr.2.1 ≤ idx
            · rw [decide_eq_true c1]
              refine iteT ⟨_, rfl, _, _, rfl, rfl, _, rfl, ?_⟩
              by_cases c2 : idx < rr.2.2
              · rw [decide_eq_true c2]
                have e : inRow idx rr = true := by unfold inRow; rw [decide_eq_true c1, decide_eq_true c2]; rfl
                refine iteT ⟨_, rfl, rfl, _, _, _, _, rfl, ?_⟩
                rw [tk, dueR_snoc, if_pos e]
                exact d1
              · rw [decide_eq_false c2]
                refine iteF ⟨_, rfl, rfl, _, _, _, _, rfl, ?_⟩
                rw [no (by unfold inRow; rw [decide_eq_false c2, Bool.and_false])]
                exact ddv2
            · rw [decide_eq_false c1]
              refine iteF ⟨_, rfl, iteF ⟨_, rfl, rfl, _, _, _, _, rfl, ?_⟩⟩
              rw [no (by unfold inRow; rw [decide_eq_false c1, Bool.false_and])]
              exact ddv2
          · rintro σ J ⟨rfl, dv2, y10, y11, y12, rfl, ddv2⟩
            rw [lvs, List.take_length, due_told hst hidx] at ddv2
            refine ⟨_, rfl, _, rfl, .str z, .int idx, .int idx, rfl, .int _, .inr ⟨z, .inr (endM its), rfl, by omega, hR, rs, hRows, by omega, fun J11 ut s11 dut => ?_⟩⟩
            have sh := shaped_told (z := z) (rs := rs) (d := .int idx) (by simp [PyData.canLay0]) rfl (by decide +kernel)
            have nd := nodict_told (z := z) (rs := rs) (d := .int idx) rfl
            refine ⟨_, rfl, _, _, DQ.dp _ _ nd dut, DQ.dp _ _ nd (ddv2.to s11), sh, sh, _, rfl, ?_⟩
            rw [K0.eqv_shaped sh, Bool.not_true]
            exact iteF ⟨⟨_, _, _, _, _, rfl⟩, s910.trans s11⟩
        · rintro σ J ⟨⟨y8, y9, y10, y11, y12, rfl⟩, s9⟩
          exact ⟨⟨_, _, _, _, _, _, _, _, rfl⟩, b9.grow s9⟩
      · rintro σ J ⟨⟨y6, y7, y8, y9, y10, y11, y12, y13, rfl⟩, b7⟩
        refine ⟨z, rfl, by omega, fun l nl J7 e7 => ⟨l, rfl, ⟨_, SqL.of ((congrFun e7 l).trans upd_same)⟩, ?_⟩⟩
        have b8 : Bt p J6 J7 := by
          rw [e7]
          exact b7.new nl
        have f7 : J7 l = some (.lst (oddV z.length)) := (congrFun e7 l).trans upd_same
        refine for_list (K := K) (a := l) (xs := oddV z.length) (fun m σ J => (∃ y13, σ = [some (.ref a), some (.int (0 + (i : Int))), some (.ref p), some u, some (.str z), some (.ref q), y6, y7, y8, y9, y10, y11, y12, y13]) ∧ Same J7 J) ⟨⟨_, rfl⟩, Same.refl _⟩ (fun m σ J _ ⟨_, s⟩ => SqL.of (s _ _ f7)) ?_ ?_
        · rintro m x σ J hx ⟨⟨y13, rfl⟩, s8⟩
          obtain ⟨d, hd1, hd2, hd3, hd4, hd5⟩ := odd_of (K := K) (rs := rs) hz2 (List.mem_of_getElem? hx)
          refine ⟨_, rfl, _, rfl, .str z, x, d, rfl, hd1 _, .inr ⟨z, .inr (endM its), rfl, by omega, hR, rs, hRows, by omega, fun J9 ut s9 dut => ?_⟩⟩
          rw [hd2] at dut
          have sh := shaped_told (z := z) (rs := rs) hd3 hd4 (by decide +kernel)
          have nd := nodict_told (z := z) (rs := rs) hd5
          rw [hd2] at sh nd
          refine ⟨_, rfl, sizeL (m := 2) (Nat.le_refl 2), fun l2 nl2 => ?_⟩
          have s10 := K0.same_upd (o := .lst [.str "index", x]) nl2
          refine ⟨_, _, DQ.dp _ _ nd (dut.to s10), DQ.dp _ _ nd (.lst (SqL.of upd_same) (.cons (.str _ (by decide)) (.cons (hd1 _) .nil))), sh, sh, _, rfl, ?_⟩
          rw [K0.eqv_shaped sh, Bool.not_true]
          exact iteF ⟨⟨_, rfl⟩, (s8.trans s9).trans s10⟩
        · rintro σ J ⟨⟨y13, rfl⟩, s8⟩
          have b9 := b8.grow s8
          refine ⟨_, rfl, z, _, rfl, rfl, ?_, .str (z ++ " "), .int 0, .int 0, rfl, .int 0, .inr ⟨z ++ " ", .inl (if its = [] then 0 else (textM its).length + 1), rfl, ?_, ?_, fun J9 ut s9 dut => ?_⟩⟩
          · rw [hsum, sizeLine_eq]
            show _ + 1 ≤ _
            omega
          · rw [hsum, hadd, hzb]
            omega
          · rw [hsum, hadd]
            exact hbad
          refine ⟨_, rfl, z, rfl, sizeL hz2, _, rfl, rfl, .inr ⟨_, rfl, _, _, rfl, rfl, sizeL (m := 2) (Nat.le_refl 2), fun l2 nl2 => ?_⟩⟩
          have hv : (z.length : Int) + (if (!decide (V.str z = V.str "")) = true then 1 else 0) = (((if its = [] then 0 else (textM its).length + 1 : Nat)) : Int) := by
            have ezl : z.length = (textM its).length := by rw [← ez, sO_len]
            rw [hemp]
            by_cases c : its = []
            · rw [decide_eq_true c, if_pos c, hlen c]
              rfl
            · rw [decide_eq_false c, if_neg c, ezl]
              show _ + 1 = _
              omega
          have s10 := K0.same_upd (o := .lst [.str "text", .int ((z.length : Int) + (if (!decide (V.str z = V.str "")) = true then 1 else 0))]) nl2
          have tsh : ∀ e : Int, SeqAt.shaped (.list [.str "text", .int e]) = true ∧ (PyData.list [.str "text", .int e]).hasDict = false := fun e => ⟨shaped_mk (by
            have : PyData.strOk "text" = true := by decide +kernel
            simp [PyData.canLay0, PyData.canLayAll0, this]) (by show 1 ≤ 64; decide), rfl⟩
          have hdq : ∀ H' : Hp, DQ K H' (.int ((z.length : Int) + (if (!decide (V.str z = V.str "")) = true then 1 else 0))) (.int (((if its = [] then 0 else (textM its).length + 1 : Nat)) : Int)) := fun H' => by
            rw [hv]
            exact .int _
          refine ⟨.list [.str "text", .int (((if its = [] then 0 else (textM its).length + 1 : Nat)) : Int)], .list [.str "text", .int (((if its = [] then 0 else (textM its).length + 1 : Nat)) : Int)], DQ.dp _ _ (tsh _).2 (dut.to s10), DQ.dp _ _ (tsh _).2 (.lst (SqL.of upd_same) (.cons (.str _ (by decide)) (.cons (hdq _) .nil))), (tsh _).1, (tsh _).1, _, rfl, ?_⟩
          rw [K0.eqv_shaped (tsh _).1, Bool.not_true]
          have b10 := b9.grow (s9.trans s10)
          refine iteF ⟨.non, .non, .none, rfl, .non, .inl ⟨rfl, fun J11 ut2 s11 dut2 => ?_⟩⟩
          refine ⟨sizeL (m := 2) (Nat.le_refl 2), fun l4 nl4 => ?_⟩
          have s12 := K0.same_upd (o := .lst [.str "text", .int 0]) nl4
          refine ⟨_, _, DQ.dp _ _ (tsh _).2 (dut2.to s12), DQ.dp _ _ (tsh _).2 (.lst (SqL.of upd_same) (.cons (.str _ (by decide)) (.cons (.int _) .nil))), (tsh _).1, (tsh _).1, _, rfl, ?_⟩
          rw [K0.eqv_shaped (tsh _).1, Bool.not_true]
          have b12 := (b6.trans b10).grow (s11.trans s12)
          exact iteF ⟨rfl, rfl, ((hid_same p _).seq (Same.seq b12.same haS))⟩
    · rintro σ J ⟨l14, t0, haJ⟩
      exact k _
end
end K1
set_option maxHeartbeats 4000000
/-! the head's facts -/
namespace K1
open PySem L2
theorem dn_mk {K : PySem.W.Frag} {mg : Str → Option Value} {h : Heap} {x : Str} {ps : List Str} {st : Stmt} {g : Addr} {oc : Value} {od an : Option Addr} {osl : Array (Option Value)} {kV doc pm cdv ct : Value} (X : K.In h) (G : h.Ns mainGlobals mg) (a : PySem.W.nsIn K mainGlobals x = some (some (.ref g)))
    (l : K.lookup g = some ⟨oc, od, .func (PySem.W.fnOf x x (defArgs st) (defBody st) (defScope st) .none kV doc pm an cdv ct), osl⟩) (cc : PySem.W.codeIn K cdv x = true) (k : PySem.W.keepIn K (.ref g) = true)
    (b : ∀ (kV doc pm : Value) (an : Option Addr) (cdv ct : Value) (us : List Value), us.length = ps.length → bindArgs (PySem.W.fnOf x x (defArgs st) (defBody st) (defScope st) .none kV doc pm an cdv ct) ⟨us, []⟩ = pure (ps.zip us)) :
    ∃ g fd, Dn K mg x ps st g fd := by
  have F := fun_mk (st := st) l cc k
  exact ⟨_, _, F, F.binds b, PySem.W.mg_of X G a⟩
theorem dn_nil {K : PySem.W.Frag} {mg : Str → Option Value} : ∀ i x ps, ([] : List (Nat × Str × List Str)).lookup i = some (x, ps) → ∃ g fd, Dn K mg x ps (top i) g fd := fun _ _ _ e => by cases e
theorem dn_cons {K : PySem.W.Frag} {mg : Str → Option Value} {i : Nat} {x : Str} {ps : List Str} {r : List (Nat × Str × List Str)} (d : ∃ g fd, Dn K mg x ps (top i) g fd) (h : ∀ i x ps, r.lookup i = some (x, ps) → ∃ g fd, Dn K mg x ps (top i) g fd) :
    ∀ j y qs, ((i, x, ps) :: r).lookup j = some (y, qs) → ∃ g fd, Dn K mg y qs (top j) g fd := fun j y qs e => by
  rw [List.lookup_cons] at e
  cases q : j == i with
  | true =>
    rw [q] at e
    cases e
    rw [eq_of_beq q]
    exact d
  | false =>
    rw [q] at e
    exact h j y qs e
/-- a class's facts, all but its own object -/
def erB (K : PySem.W.Frag) (C fI : Addr) : Bool :=
  decide (PySem.W.findIn K (.ref C) "__setattr__" = some (some (.builtin "object.__setattr__"))) && (decide (PySem.W.subIn K (.ref C) (.type "BaseException") = some true) && (decide (PySem.W.typeIn K (.ref C) = some (.type "type")) && (PySem.W.keepIn K (.ref C) &&
  (xfB K C && (decide (PySem.W.findIn K (.ref C) "told" = some none) && (decide (PySem.W.findIn K (.ref C) "__init__" = some (some (.ref fI))) && (decide (PySem.W.typeIn K (.ref fI) = some (.type "function")) && decide (PySem.W.exmOne K (.ref C) (.ref C) = some true))))))))
theorem er_mk {K : PySem.W.Frag} {mg : Str → Option Value} {h : Heap} {x : Str} {C fI : Addr} {nm q : Str} {N : Addr} {bs bm : List Value} {sn : List Str} {sub : List Value} {ab : Bool} {col : Option Bool} {dd : Option Addr} {k0 k1 k2 k3 k5 : Option Value} (X : K.In h) (G : h.Ns mainGlobals mg)
    (a : PySem.W.nsIn K mainGlobals x = some (some (.ref C)))
    (l : K.lookup C = some (excClassObj nm q C N bs bm true sn sub ab col dd k0 k1 k2 k3 k5 "ValueError.__new__")) (r : PySem.HandSPX.refsVE bm = true) (b : erB K C fI = true) (ini : ∃ fd, Fun K "__init__" "ScopeError.__init__" s_init fI fd ∧ Binds K fd ["self", "told"] []) : Er K mg x C fI := by
  unfold erB at b
  simp only [Bool.and_eq_true, decide_eq_true_eq] at b
  obtain ⟨h1, h2, h3, h4, h5, h6, h7, h8, h9⟩ := b
  exact ⟨PySem.W.mg_of X G a, ⟨⟨nm, q, N, bs, bm, sn, sub, ab, col, dd, k0, k1, k2, k3, k5, l, r⟩, h1, h2, h3, h4⟩, xfB_ok h5, h6, h7, h8, h9, ini⟩
theorem mf_mk {K : PySem.W.Frag} {x q : Str} {st : Stmt} {ps : List Str} {f : Addr} {oc : Value} {od an : Option Addr} {osl : Array (Option Value)} {kV doc pm cdv ct : Value}
    (l : K.lookup f = some ⟨oc, od, .func (PySem.W.fnOf x q (defArgs st) (defBody st) (defScope st) .none kV doc pm an cdv ct), osl⟩) (cc : PySem.W.codeIn K cdv q = true) (k : PySem.W.keepIn K (.ref f) = true)
    (b : ∀ (kV doc pm : Value) (an : Option Addr) (cdv ct : Value) (us : List Value), us.length = ps.length → bindArgs (PySem.W.fnOf x q (defArgs st) (defBody st) (defScope st) .none kV doc pm an cdv ct) ⟨us, []⟩ = pure (ps.zip us)) :
    ∃ fd, Fun K x q st f fd ∧ Binds K fd ps [] := by
  have F := fun_mk (st := st) l cc k
  exact ⟨_, F, F.binds b⟩
theorem sqt_four {K : PySem.W.Frag} {a : Addr} {x y z v : Str} {t u t' u' : Tok} {d : Option Addr} {n : Nat} {sl : Array (Option Value)} (l : K.lookup a = some ⟨.type "tuple", d, .seq #[.str x t, .str y u, .str z t', .str v u'] n, sl⟩) : ∀ H, SqT K H a [.str x, .str y, .str z, .str v] :=
  fun H => .inr ⟨_, _, _, l, rfl, rfl, (by show 4 ≤ sizeLine; rw [sizeLine_eq]; decide), .cons ⟨t, rfl⟩ (.cons ⟨u, rfl⟩ (.cons ⟨t', rfl⟩ (.cons ⟨u', rfl⟩ .nil)))⟩

/-- the built-in names that the text does not name anew -/
def namesB (K : PySem.W.Frag) : Bool := [("isinstance" : Str), "int", "bool", "str", "tuple", "len", "all", "max", "min", "list", "range", "zip"].all fun x => decide (PySem.W.nsIn K mainGlobals x = some none)
theorem names_of {K : PySem.W.Frag} {h : Heap} {mg : Str → Option Value} (X : K.In h) (G : h.Ns mainGlobals mg) (hb : namesB K = true) : Bi mg ∧ Nms mg ∧ mg "range" = none ∧ mg "min" = none ∧ mg "zip" = none ∧ mg "list" = none := by
  unfold namesB at hb
  simp only [Bool.and_eq_true, List.all_cons, List.all_nil, decide_eq_true_eq] at hb
  obtain ⟨e1, e2, e3, e4, e5, e6, e7, e8, e9, e10, e11, e12, _⟩ := hb
  have n : ∀ {x : Str}, PySem.W.nsIn K mainGlobals x = some none → mg x = none := fun e => PySem.W.mg_none_of X G e
  exact ⟨⟨n e1, n e2, n e3, n e4, n e5, n e6, n e7⟩, ⟨n e6, n e8, n e2⟩, n e11, n e9, n e12, n e10⟩
theorem cn_mk {K : PySem.W.Frag} {h : Heap} {mg : Str → Option Value} {t1 t2 t3 t4 : Tok} {a : Addr} (X : K.In h) (G : h.Ns mainGlobals mg) (ho : PySem.W.nsIn K mainGlobals "_HOLDERS" = some (some (.ref a)))
    (sh : ∀ H, SqT K H a [.str "block", .str "let", .str "sum", .str "product"]) (le : PySem.W.nsIn K mainGlobals "_LETTERS" = some (some (.str "abcdefghijklmnopqrstuvwxyz" t1))) (fi : PySem.W.nsIn K mainGlobals "_FIGURES" = some (some (.str "0123456789" t2)))
    (ff : PySem.W.nsIn K mainGlobals "_FIRST_FIGURES" = some (some (.str "123456789" t3))) (mo : PySem.W.nsIn K mainGlobals "_MOST_LETTERS" = some (some (.int 4 t4))) : Cn K mg :=
  ⟨⟨a, PySem.W.mg_of X G ho, sh⟩, ⟨_, PySem.W.mg_of X G le⟩, ⟨_, PySem.W.mg_of X G fi⟩, ⟨_, PySem.W.mg_of X G ff⟩, ⟨_, PySem.W.mg_of X G mo⟩⟩
/-- Scan as the top has made it, all that is told by a look -/
def scB (K : PySem.W.Frag) (C fI f1 f2 f3 f4 : Addr) : Bool :=
  (PySem.W.plainGet K C Str.empty && (PySem.W.hasDictIn K C && (PySem.W.plainOver K C && decide (PySem.W.findIn K (.ref C) "__setattr__" = some (some (.builtin "object.__setattr__")))))) &&
  (([("paths" : Str), "heads", "firsts", "behinds", "_text", "_at", "_around", "_counts"].all fun x => decide (PySem.W.findIn K (.ref C) x = some none)) &&
  ((PySem.W.makesIn K C && (decide (PySem.W.findIn K (.ref C) "__init__" = some (some (.ref fI))) && (PySem.W.isFn K (.ref fI) && PySem.W.keepIn K (.ref C)))) &&
  ([(("_run" : Str), f1), ("_is_in_new_block", f2), ("_begin", f3), ("_close", f4)].all fun p => decide (PySem.W.findIn K (.ref C) p.1 = some (some (.ref p.2))) && (PySem.W.isFn K (.ref p.2) && PySem.W.keepIn K (.ref p.2)))))
theorem sc_mk {K : PySem.W.Frag} {mg : Str → Option Value} {h : Heap} {C fI f1 f2 f3 f4 : Addr} (X : K.In h) (G : h.Ns mainGlobals mg) (a : PySem.W.nsIn K mainGlobals "Scan" = some (some (.ref C))) (b : scB K C fI f1 f2 f3 f4 = true)
    (m0 : ∃ fd, Fun K "__init__" "Scan.__init__" (inClass (top 20) 0) fI fd ∧ Binds K fd ["self", "text"] []) (m1 : ∃ fd, Fun K "_run" "Scan._run" (inClass (top 20) 1) f1 fd ∧ Binds K fd ["self"] [])
    (m2 : ∃ fd, Fun K "_is_in_new_block" "Scan._is_in_new_block" (inClass (top 20) 2) f2 fd ∧ Binds K fd ["self"] []) (m3 : ∃ fd, Fun K "_begin" "Scan._begin" (inClass (top 20) 3) f3 fd ∧ Binds K fd ["self"] [])
    (m4 : ∃ fd, Fun K "_close" "Scan._close" (inClass (top 20) 4) f4 fd ∧ Binds K fd ["self"] []) : ScC K mg C := by
  unfold scB at b
  simp only [Bool.and_eq_true, decide_eq_true_eq, List.all_cons, List.all_nil] at b
  obtain ⟨⟨a1, a2, a3, a4⟩, ⟨n1, n2, n3, n4, n5, n6, n7, n8, _⟩, ⟨k1, k2, k3, k4⟩, ⟨r1, r2, r3⟩, ⟨i1, i2, i3⟩, ⟨g1, g2, g3⟩, ⟨c1, c2, c3⟩, _⟩ := b
  obtain ⟨x0, F0, B0⟩ := m0
  obtain ⟨x1, F1, B1⟩ := m1
  obtain ⟨x2, F2, B2⟩ := m2
  obtain ⟨x3, F3, B3⟩ := m3
  obtain ⟨x4, F4, B4⟩ := m4
  exact { cl := ⟨a1, a2, a3, a4⟩, mg := PySem.W.mg_of X G a, n1 := n1, n2 := n2, n3 := n3, n4 := n4, nT := n5, nA := n6, n5 := n7, n6 := n8, ini := ⟨_, _, F0, B0, ⟨k1, k2, k3, k4⟩⟩, run := ⟨_, _, F1, B1, ⟨r1, r2, r3⟩⟩, isn := ⟨_, _, F2, B2, ⟨i1, i2, i3⟩⟩, beg := ⟨_, _, F3, B3, ⟨g1, g2, g3⟩⟩, clo := ⟨_, _, F4, B4, ⟨c1, c2, c3⟩⟩ }
/-- the law, at its call -/
theorem good_all {P : Program} {w : World} {K : PySem.W.Frag} {h : Heap} {mg : Str → Option Value} {fa C B N0 fI fN : Addr} (X : K.In h) (G : h.Ns mainGlobals mg) (hfa : mg "law" = some (.ref fa)) (nb : namesB K = true) (cn : Cn K mg)
    (dn : ∀ i x ps, tabL.lookup i = some (x, ps) → ∃ g fd, Dn K mg x ps (top i) g fd) (W : ScC K mg C) (R : Er K mg "BadText" B fI) (RN : Er K mg "NoIndex" N0 fN) (eBN : PySem.W.exmOne K (.ref B) (.ref N0) = some false) : GoodAt P w K mg fa 63 := by
  intro base s H a ns hl e0 hO hS
  obtain ⟨b1, b2, b3, b4, b5, b6⟩ := names_of X G nb
  have T : All K mg := ⟨dn, b1, cn⟩
  obtain ⟨g, fd, F, hm, hk, hb⟩ := cl_law (P := P) (w := w) (base := base) T b2 W R RN eBN b3 b4 b5 b6
  have eq := hfa.symm.trans hm
  cases eq
  have hb' := hb s [.ref a] (fun b o e => (e0.bs b o (e0.mod.kin b o e)).1) rfl
  exact F.run callerA [] s H ⟨[.ref a], []⟩ [.ref a] [.ref a] _ _ rfl ⟨rfl, by decide, by decide⟩ e0 hb' (.cons rfl .nil) ⟨a, ns, rfl, hS, fun H' => rfl⟩
end K1
open PySem PySem.W PyProof.Rows
set_option maxRecDepth 100000 in
set_option maxHeartbeats 0 in
theorem PySem.Challenge.cw_sharedscopes_k68_spans_and_items_of_text_holds : PySem.Challenge.rw_sharedscopes_k68_spans_and_items_of_text.Holds := by
  w_on; o_law; k_head; (case hw => w_witness2)
  k_fill
  refine L2.walk_at (n := 63) rfl (by decide) rfl (fun w h Y => PySem.W.kIn_of Y) ?F
  case F =>
    intro w mg fa h KX G hmg
    refine' K1.good_all (C := 153) (B := 70) (N0 := 58) (fI := 42) (fN := 42) KX G hmg ?nb ?cn ?dn ?W ?R ?RN ?ne
    (case nb => kernel_rfl)
    (case ne => kernel_rfl)
    case cn =>
      refine' K1.cn_mk KX G ?ho ?sh ?hle ?fi ?ff ?mo
      (case ho => k_is)
      (case sh => refine' K1.sqt_four ?l; (case l => k_is))
      (case hle => k_is)
      (case fi => k_is)
      (case ff => k_is)
      (case mo => k_is)
    case W =>
      refine' K1.sc_mk (C := 153) (fI := 122) (f1 := 129) (f2 := 136) (f3 := 143) (f4 := 150) KX G ?a ?b ?m0 ?m1 ?m2 ?m3 ?m4
      (case a => k_is)
      (case b => kernel_rfl)
      case m0 =>
        refine' K1.mf_mk ?l ?c ?k ?b
        (case l => k_is)
        (case c => k_is)
        (case k => k_is)
        (case b => exact fun _ _ _ _ _ _ us hl => match us, hl with | [_, _], _ => rfl)
      case m1 =>
        refine' K1.mf_mk ?l ?c ?k ?b
        (case l => k_is)
        (case c => k_is)
        (case k => k_is)
        (case b => exact fun _ _ _ _ _ _ us hl => match us, hl with | [_], _ => rfl)
      case m2 =>
        refine' K1.mf_mk ?l ?c ?k ?b
        (case l => k_is)
        (case c => k_is)
        (case k => k_is)
        (case b => exact fun _ _ _ _ _ _ us hl => match us, hl with | [_], _ => rfl)
      case m3 =>
        refine' K1.mf_mk ?l ?c ?k ?b
        (case l => k_is)
        (case c => k_is)
        (case k => k_is)
        (case b => exact fun _ _ _ _ _ _ us hl => match us, hl with | [_], _ => rfl)
      case m4 =>
        refine' K1.mf_mk ?l ?c ?k ?b
        (case l => k_is)
        (case c => k_is)
        (case k => k_is)
        (case b => exact fun _ _ _ _ _ _ us hl => match us, hl with | [_], _ => rfl)
    case R =>
      refine' K1.er_mk KX G ?a ?l ?r ?b ?ini
      (case a => k_is)
      (case l => k_is)
      (case r => kernel_rfl)
      (case b => kernel_rfl)
      case ini =>
        refine' K1.mf_mk ?l ?c ?k ?b
        (case l => k_is)
        (case c => k_is)
        (case k => k_is)
        (case b => exact fun _ _ _ _ _ _ us hl => match us, hl with | [_, _], _ => rfl)
    case RN =>
      refine' K1.er_mk KX G ?a ?l ?r ?b ?ini
      (case a => k_is)
      (case l => k_is)
      (case r => kernel_rfl)
      (case b => kernel_rfl)
      case ini =>
        refine' K1.mf_mk ?l ?c ?k ?b
        (case l => k_is)
        (case c => k_is)
        (case k => k_is)
        (case b => exact fun _ _ _ _ _ _ us hl => match us, hl with | [_, _], _ => rfl)
    case dn =>
      refine' K1.dn_cons ?d ?r
      case d =>
        refine' K1.dn_mk KX G ?a ?l ?c ?k ?b
        (case a => k_is); (case l => k_is); (case c => k_is); (case k => k_is); (case b => exact fun _ _ _ _ _ _ us hl => match us, hl with | [_], _ => rfl)
      case r =>
       refine' K1.dn_cons ?d ?r
       case d =>
         refine' K1.dn_mk KX G ?a ?l ?c ?k ?b
         (case a => k_is); (case l => k_is); (case c => k_is); (case k => k_is); (case b => exact fun _ _ _ _ _ _ us hl => match us, hl with | [_, _, _], _ => rfl)
       case r =>
        refine' K1.dn_cons ?d ?r
        case d =>
          refine' K1.dn_mk KX G ?a ?l ?c ?k ?b
          (case a => k_is); (case l => k_is); (case c => k_is); (case k => k_is); (case b => exact fun _ _ _ _ _ _ us hl => match us, hl with | [_], _ => rfl)
        case r =>
         refine' K1.dn_cons ?d ?r
         case d =>
           refine' K1.dn_mk KX G ?a ?l ?c ?k ?b
           (case a => k_is); (case l => k_is); (case c => k_is); (case k => k_is); (case b => exact fun _ _ _ _ _ _ us hl => match us, hl with | [_, _], _ => rfl)
         case r =>
          refine' K1.dn_cons ?d ?r
          case d =>
            refine' K1.dn_mk KX G ?a ?l ?c ?k ?b
            (case a => k_is); (case l => k_is); (case c => k_is); (case k => k_is); (case b => exact fun _ _ _ _ _ _ us hl => match us, hl with | [_, _], _ => rfl)
          case r =>
           refine' K1.dn_cons ?d ?r
           case d =>
             refine' K1.dn_mk KX G ?a ?l ?c ?k ?b
             (case a => k_is); (case l => k_is); (case c => k_is); (case k => k_is); (case b => exact fun _ _ _ _ _ _ us hl => match us, hl with | [_, _], _ => rfl)
           case r =>
            refine' K1.dn_cons ?d ?r
            case d =>
              refine' K1.dn_mk KX G ?a ?l ?c ?k ?b
              (case a => k_is); (case l => k_is); (case c => k_is); (case k => k_is); (case b => exact fun _ _ _ _ _ _ us hl => match us, hl with | [_, _, _], _ => rfl)
            case r =>
             refine' K1.dn_cons ?d ?r
             case d =>
               refine' K1.dn_mk KX G ?a ?l ?c ?k ?b
               (case a => k_is); (case l => k_is); (case c => k_is); (case k => k_is); (case b => exact fun _ _ _ _ _ _ us hl => match us, hl with | [_, _], _ => rfl)
             case r =>
              refine' K1.dn_cons ?d ?r
              case d =>
                refine' K1.dn_mk KX G ?a ?l ?c ?k ?b
                (case a => k_is); (case l => k_is); (case c => k_is); (case k => k_is); (case b => exact fun _ _ _ _ _ _ us hl => match us, hl with | [_, _], _ => rfl)
              case r =>
               refine' K1.dn_cons ?d ?r
               case d =>
                 refine' K1.dn_mk KX G ?a ?l ?c ?k ?b
                 (case a => k_is); (case l => k_is); (case c => k_is); (case k => k_is); (case b => exact fun _ _ _ _ _ _ us hl => match us, hl with | [_], _ => rfl)
               case r =>
                refine' K1.dn_cons ?d ?r
                case d =>
                  refine' K1.dn_mk KX G ?a ?l ?c ?k ?b
                  (case a => k_is); (case l => k_is); (case c => k_is); (case k => k_is); (case b => exact fun _ _ _ _ _ _ us hl => match us, hl with | [_, _], _ => rfl)
                case r =>
                 refine' K1.dn_cons ?d ?r
                 case d =>
                   refine' K1.dn_mk KX G ?a ?l ?c ?k ?b
                   (case a => k_is); (case l => k_is); (case c => k_is); (case k => k_is); (case b => exact fun _ _ _ _ _ _ us hl => match us, hl with | [_, _], _ => rfl)
                 case r =>
                  refine' K1.dn_cons ?d ?r
                  case d =>
                    refine' K1.dn_mk KX G ?a ?l ?c ?k ?b
                    (case a => k_is); (case l => k_is); (case c => k_is); (case k => k_is); (case b => exact fun _ _ _ _ _ _ us hl => match us, hl with | [_, _], _ => rfl)
                  case r =>
                   refine' K1.dn_cons ?d ?r
                   case d =>
                     refine' K1.dn_mk KX G ?a ?l ?c ?k ?b
                     (case a => k_is); (case l => k_is); (case c => k_is); (case k => k_is); (case b => exact fun _ _ _ _ _ _ us hl => match us, hl with | [_, _], _ => rfl)
                   case r =>
                    refine' K1.dn_cons ?d ?r
                    case d =>
                      refine' K1.dn_mk KX G ?a ?l ?c ?k ?b
                      (case a => k_is); (case l => k_is); (case c => k_is); (case k => k_is); (case b => exact fun _ _ _ _ _ _ us hl => match us, hl with | [_, _, _], _ => rfl)
                    case r =>
                     refine' K1.dn_cons ?d ?r
                     case d =>
                       refine' K1.dn_mk KX G ?a ?l ?c ?k ?b
                       (case a => k_is); (case l => k_is); (case c => k_is); (case k => k_is); (case b => exact fun _ _ _ _ _ _ us hl => match us, hl with | [_, _], _ => rfl)
                     case r =>
                      refine' K1.dn_cons ?d ?r
                      case d =>
                        refine' K1.dn_mk KX G ?a ?l ?c ?k ?b
                        (case a => k_is); (case l => k_is); (case c => k_is); (case k => k_is); (case b => exact fun _ _ _ _ _ _ us hl => match us, hl with | [_], _ => rfl)
                      case r =>
                       refine' K1.dn_cons ?d ?r
                       case d =>
                         refine' K1.dn_mk KX G ?a ?l ?c ?k ?b
                         (case a => k_is); (case l => k_is); (case c => k_is); (case k => k_is); (case b => exact fun _ _ _ _ _ _ us hl => match us, hl with | [_], _ => rfl)
                       case r =>
                        refine' K1.dn_cons ?d ?r
                        case d =>
                          refine' K1.dn_mk KX G ?a ?l ?c ?k ?b
                          (case a => k_is); (case l => k_is); (case c => k_is); (case k => k_is); (case b => exact fun _ _ _ _ _ _ us hl => match us, hl with | [_, _, _], _ => rfl)
                        case r =>
                         refine' K1.dn_cons ?d ?r
                         case d =>
                           refine' K1.dn_mk KX G ?a ?l ?c ?k ?b
                           (case a => k_is); (case l => k_is); (case c => k_is); (case k => k_is); (case b => exact fun _ _ _ _ _ _ us hl => match us, hl with | [_, _], _ => rfl)
                         case r =>
                          refine' K1.dn_cons ?d ?r
                          case d =>
                            refine' K1.dn_mk KX G ?a ?l ?c ?k ?b
                            (case a => k_is); (case l => k_is); (case c => k_is); (case k => k_is); (case b => exact fun _ _ _ _ _ _ us hl => match us, hl with | [_], _ => rfl)
                          case r =>
                           exact K1.dn_nil
