import PyProof.Rows.All
import Wide.All
import OpenK.AllK
import Wide.FinOn
import KE.KExcInit
import HandS.Base
import HandS.Call
import HandS.List
import HandS.Ends
import HandS.Exc
import HandS.ForMost
import HandS.ExcInit
import HandS.ExcIs
import HandS.IsInst
import KE.KExcIs
import HandS.Walk
import HandS.Wide
import HandS.TryMany
import HandS.ExcField
import HandS.WordsExc
import PyProof.NeKinds
import PyProof.NeData
import HandS.Steps
import HandS.Lambda
import HandS.TupSets
import HandS.SetBool
import HandS.TupAny
import PyProof.FitsInt
import HandS.Conv
import HandS.Zip
import KE.GoesEnum
import HandS.SetKeys
import KE.SortCalls
import KE.LtData
import KE.SortData
import HandS.DictComp
import HandS.DictTup
import HandS.OwnEq
import KE.KDictPairs
import KE.KDictSum
import KE.KDictKeyed
import HandS.TupLen
import HandS.EndTab
import KE.DataCmp
import KE.DatumOrd
import PyProof.InstNe
import KE.KDictIter
import KE.KDictZip
import KE.SortKeyHeap
import KE.KLam
import HandS.Style
import HandS.Star
import HandS.Text
import HandS.StrMore
import HandS.RaiseMore
import KE.GoesZip
import HandS.Comp
import HandS.Iter
import HandS.Dict
import PyProof.Rows.TupDisplay
import PyProof.DictMoreH
import HandS.Deep
import PySem.Challenge.RW_sharedscopes_k69_whole_texts_read
set_option Elab.async false
set_option linter.all false
set_option maxRecDepth 100000
set_option maxHeartbeats 8000000
set_option maxHeartbeats 4000000
/-! a law's def at the caller itself -/
namespace L2
open PySem PySem.Spec PyProof.Rows
/-- a def's body, run at the caller -/
theorem run_at {CX : CXT} {P : Program} {w : World} {K : PySem.W.Frag} {mg : Str → Option Value} {base : Heap} {k : Nat} {A : Around} {outer : List Env} {f : Addr} {name qual : Str} {params : Arguments} {body : List Stmt} {scope : Scope} {dV kV doc pm cdv ct oc : Value} {an od : Option Addr}
    {osl : Array (Option Value)} {N ps : List Str} {s : Shared} {H : Hp} {args : Args} {us : List Value} {vs : List V} {Q : VK} {E : XK} (lk : K.lookup f = some ⟨oc, od, .func (PySem.W.fnOf name qual params body scope dV kV doc pm an cdv ct), osl⟩) (hcd : PySem.W.codeIn K cdv qual = true) (S : FnScope N ps scope)
    (hl : vs.length = ps.length) (hr : Room (k + 1) A) (e0 : Env0 P w K mg base A outer s H) (hb : BindsTo s (PySem.W.fnOf name qual params body scope dV kV doc pm an cdv ct) args (ps.zip us)) (r : Vals vs us)
    (hbody : ∃ t, PSs (cxOf CX P w K mg base N qual scope f cdv A outer s H E) body t ∧ t { nx := fun _ H' => Q .non H', rt := Q } (start N vs) H) :
    codeAny (model P w) A (.call (.ref f) args) (CR CX outer P w H s Q E) s := by
  have KX : K.In s.heap := e0.mod.kin.keeps fun b o e => (e0.bs b o e).1
  have lim : s.heap.NoLimit := e0.mod.nolimit.keeps fun b o e => (e0.bs b o e).1
  have hkind : ∀ y ∈ ps.zip us, scope.names.lookup y.1 = some .local ∨ (scope.names.lookup y.1 = some .cell ∧ ((cellsFrom (s.heap.objs.size + 1) scope.names []).lookup y.1).isSome = true) := fun y hy => by
    have hm : y.1 ∈ ps := (List.of_mem_zip (show (y.1, y.2) ∈ ps.zip us from hy)).1
    exact (S.par y.1 hm).imp id fun q => ⟨q, PySem.W.cellsFrom_some _ _ _ (.inl q)⟩
  refine codeAny_call_function hr.depth (KX _ _ lk) rfl S.co S.gen rfl (PySem.W.codeRec_of KX hcd) (hb _ _ _ _ ?_)
  refine wpAny_newFunctionEnv_cells S.kind hkind fun env he s1 x => ?_
  subst he
  refine ⟨lim.keeps x.toInCall.keep, codeAny_func ?_⟩
  obtain ⟨t, ht, hq⟩ := hbody
  have I := inv_start (CX := CX) (E := E) S hr.hd e0 hl r x
  refine wpAny_mono (ht.run [] s1 (start N vs) H _ I hq) (fun fl s' hs => ?_) fun e s' hs => hs
  cases fl with
  | ret u =>
    obtain ⟨v, σ', H', J, rv, q⟩ := hs
    exact ⟨v, H', J.os, J.bare, J.base, J.hok, rv, q⟩
  | next =>
    obtain ⟨σ', H', J, q⟩ := hs
    exact ⟨V.non, H', J.os, J.bare, J.base, J.hok, rfl, q⟩
  | brk =>
    obtain ⟨_, _, _, q⟩ := hs
    exact False.elim q
  | cont =>
    obtain ⟨_, _, _, q⟩ := hs
    exact False.elim q

/-- what is asked of a law's def: at the caller, wherever the script stands, it gives True -/
def GoodAt (P : Program) (w : World) (K : PySem.W.Frag) (mg : Str → Option Value) (fa : Addr) (n : Nat) : Prop :=
  ∀ (base : Heap) (s : Shared) (H : Hp) (a : Addr) (ns : List Int), ns.length ≤ n → Env0 P w K mg base callerA [] s H → Only H → SqL K H a (ns.map V.int) →
    codeAny (model P w) callerA (.call (.ref fa) ⟨[.ref a], []⟩) (CR CX0 [] P w H s (fun v _ => v = .bl true) E0) s

theorem good_call {P : Program} {w : World} {K : PySem.W.Frag} {mg mb : Str → Option Value} {n : Nat} {fa a : Addr} {s₁ : Shared} {vs : List Value} {ns : List Int}
    (KX : K.In s₁.heap) (hns : s₁.heap.Ns mainGlobals mg) (hb : s₁.heap.Ns builtinsNs mb) (hbb : ∀ x : Str, x ≠ "__name__" → mb x = bootBuiltins x) (hlim : s₁.heap.NoLimit) (hg : s₁.gens = #[])
    (ha : s₁.heap.get? a = some { cls := .type "list", data := .seq vs.toArray }) (hi : IntsAre vs ns) (hl : ns.length ≤ n) (hn : n ≤ sizeLine) (F : GoodAt P w K mg fa n) :
    codeAny (model P w) callerA (.call (.ref fa) ⟨[.ref a], []⟩) (fun r s' => r = .ok (.ret (.bool true)) ∧ OldK s₁.heap s'.heap ∧ s'.os = s₁.os ∧ AllBare s'.gens) s₁ := by
  have rv := vals_ints hi
  have lenV := hi.length
  have hls : ns.length ≤ sizeLine := Nat.le_trans hl hn
  have main : ∀ H : Hp, Only H → SqL K H a (ns.map V.int) → HOk P w H s₁.heap → (∀ b, H b ≠ none → b = a) → (H a ≠ none → K.lookup a = none) →
      codeAny (model P w) callerA (.call (.ref fa) ⟨[.ref a], []⟩) (fun r s' => r = .ok (.ret (.bool true)) ∧ OldK s₁.heap s'.heap ∧ s'.os = s₁.os ∧ AllBare s'.gens) s₁ := by
    intro H hO hS hok hA hK
    have isA : ∀ {b : Addr} {u : HO}, H b = some u → b = a := fun {b u} q => hA b (by rw [q]; exact fun z => nomatch z)
    have free : ∀ {b : Addr}, b ≠ a → H b = none := fun {b} hb => by
      cases q : H b with
      | none => rfl
      | some u => exact absurd (isA q) hb
    have nsK : ∀ {b : Addr} {m : Str → Option Value}, s₁.heap.Ns b m → (hidT s₁.heap H).Ns b m := fun {b m} ⟨o, es, ep, e, d, r⟩ => ⟨o, es, ep, hidT_get e (free fun z => by
      rw [z, ha] at e
      cases e
      cases d), d, r⟩
    have hKb : K.In (hidT s₁.heap H) := fun b o e => hidT_get (KX b o e) (by
      cases q : H b with
      | none => rfl
      | some u =>
        have z := isA q
        subst z
        have z2 := hK (by rw [q]; exact fun z => nomatch z)
        rw [e] at z2
        cases z2)
    obtain ⟨mc, l1, l2⟩ := hlim
    have e0 : Env0 P w K mg (hidT s₁.heap H) callerA [] s₁ H :=
      ⟨rfl, ⟨hKb, nsK hns, ⟨mb, nsK hb, hbb⟩, ⟨mc, nsK l1, l2⟩⟩, fun b o e => of_hidT e, Nat.le_of_eq (hidT_size _ _), trivial, fun b hb => absurd hb List.not_mem_nil, hok, .of_eq hg⟩
    refine codeAny_mono (F _ s₁ H a ns hl e0 hO hS) fun r s' h => ?_
    cases r with
    | error e => exact False.elim h
    | ok fl =>
      cases fl with
      | next => exact False.elim h
      | brk => exact False.elim h
      | cont => exact False.elim h
      | ret u =>
        obtain ⟨v, H', os, bare, un, hok', r', q⟩ := h
        have q' : v = .bl true := q
        subst q'
        obtain rfl : u = Value.bool true := r'
        refine ⟨rfl, OldK.of_keep fun b o e => ?_, os, bare⟩
        cases q : H b with
        | none => exact un.keep b o e q List.not_mem_nil List.not_mem_nil
        | some u =>
          rcases hO b with z | ⟨ob, xs, z⟩
          · rw [q] at z
            cases z
          · obtain ⟨e1, _⟩ := hok b _ z
            obtain ⟨e2, _⟩ := hok' b _ (un.frzs b ob _ z)
            rw [e] at e1
            cases e1
            exact e2
  cases hk : K.lookup a with
  | some o =>
    have e := KX a o hk
    rw [ha] at e
    cases e
    exact main (fun _ => none) (fun _ => .inl rfl) (.inr ⟨_, vs.toArray, _, hk, rfl, rfl, rfl, by rw [List.size_toArray, lenV]; exact hls, by simpa using rv⟩) (fun b u z => nomatch z) (fun b z => absurd rfl z) fun z => absurd rfl z
  | none =>
    let o : Obj := { cls := .type "list", data := .seq vs.toArray }
    have at_a : ∀ b, (if b = a then some (HO.frz o (.lst (ns.map V.int))) else none) = none ∨ b = a := fun b => by
      by_cases hb : b = a
      · exact .inr hb
      · exact .inl (if_neg hb)
    refine main (fun b => if b = a then some (.frz o (.lst (ns.map V.int))) else none) (fun b => ?_) (.inl (.inr ⟨o, if_pos rfl⟩)) (fun b u z => ?_) (fun b z => ?_) fun _ => hk
    · exact (at_a b).imp id fun hb => ⟨_, _, if_pos hb⟩
    · rcases at_a b with q | hb
      · rw [show (fun b => if b = a then some (HO.frz o (.lst (ns.map V.int))) else none) b = none from q] at z
        cases z
      · rw [show (fun b => if b = a then some (HO.frz o (.lst (ns.map V.int))) else none) b = some (.frz o (.lst (ns.map V.int))) from if_pos hb] at z
        cases z
        subst hb
        exact ⟨ha, by rw [List.length_map]; exact hls, vs, _, rv, ha⟩
    · exact (at_a b).resolve_left z

/-- the goal that k_head leaves, from GoodAt -/
theorem walk_at {l : PySem.W.OpenLaw} {n : Nat} {q : Program} {loose : List Str} {XP : (Str → Option Value) → Heap → Prop} {YP : World → Heap → Prop} {d : DefRec} {K : Params → PySem.W.Frag}
    (hn : l.most = some n) (hn2 : n ≤ sizeLine) (hdf : d.params.defaults = []) (hY : ∀ (w : World) (h : Heap), YP w h → (K w.params).In h)
    (F : ∀ (w : World) (mg : Str → Option Value) (fa : Addr) (h : Heap), (K w.params).In h → h.Ns mainGlobals mg → mg d.name = some (.ref fa) → GoodAt l.prog w (K w.params) mg fa n) :
    PySem.W.WalkO q loose XP YP l.row.toRowW d [] (fun f vs => PySem.call f vs) := by
  refine Att.attach_call hn hdf fun w s₀ s₁ mg mb fa o pm cd doc a vs ns G Y ho hd hcd hmg hobj hints hlen hg => ?_
  have KX := hY w _ Y
  exact good_call KX G.T.g G.T.b G.T.builtins G.T.nolimit hg hobj hints hlen hn2 (F w mg fa _ KX G.T.g hmg)
end L2
namespace K0
open PySem L2
theorem b01 (c : Bool) : (-2 ^ 64 < (if c = true then 1 else 0 : Int)) ∧ (if c = true then 1 else 0 : Int) < 2 ^ 64 := by cases c <;> decide
theorem fmod_nn (a : Int) {b : Int} (h : 0 < b) : 0 ≤ a.fmod b := by
  rw [Int.fmod_eq_emod_of_nonneg a (by omega)]
  exact Int.emod_nonneg a (by omega)
theorem fmod_lt (a : Int) {b : Int} (h : 0 < b) : a.fmod b < b := by
  rw [Int.fmod_eq_emod_of_nonneg a (by omega)]
  exact Int.emod_lt_of_pos a h
theorem paired_append {α β : Type} {F : α → β → Prop} {l2 : List α} {m2 : List β} (k : Paired F l2 m2) : ∀ {l1 : List α} {m1 : List β}, Paired F l1 m1 → Paired F (l1 ++ l2) (m1 ++ m2)
  | _, _, .nil => k
  | _, _, .cons r t => .cons r (paired_append k t)
theorem same_upd {H : Hp} {a : Addr} {o : HO} (n : H a = none) : Same H (upd H a o) := fun b u e => by
  rw [upd_ne (ne_of_none e n)]
  exact e
theorem pa_imp {X : Cx} {es : List Expr} {t t' : TA} (h : PA X es t) (k : ∀ σ H Q, t' σ H Q → t σ H Q) : PA X es t' := ⟨fun pos pins s σ H Q I q => h.run pos pins s σ H Q I (k σ H Q q)⟩
theorem pe_imp {X : Cx} {e : Expr} {t t' : TE} (h : PE X e t) (k : ∀ σ H Q, t' σ H Q → t σ H Q) : PE X e t' := ⟨fun pins s σ H Q I q => h.run pins s σ H Q I (k σ H Q q)⟩
theorem seqT_same {K : PySem.W.Frag} {H H' : Hp} {a : Addr} {xs : List V} (e : Same H H') (h : SqT K H a xs) : SqT K H' a xs := by
  rcases h with (h | ⟨o, h⟩) | h
  · exact .inl (.inl (e _ _ h))
  · exact .inl (.inr ⟨o, e _ _ h⟩)
  · exact .inr h
mutual
theorem dp_same {K : PySem.W.Frag} {H H' : Hp} (s : Same H H') : ∀ (d : PyData) (v : V), Dp K H v d → Dp K H' v d
  | .none, _, h => by
    cases h
    exact .non
  | .bool b, _, h => by
    cases h
    exact .bl b
  | .int i, _, h => by
    cases h
    exact .int i
  | .str x, _, h => by
    cases h
    exact .str x
  | .list ds, _, h => by
    cases h with
    | lst h1 h2 => exact .lst (s.seq h1) (dpAll_same s ds _ h2)
  | .tuple ds, _, h => by
    cases h with
    | tup h1 h2 => exact .tup (seqT_same s h1) (dpAll_same s ds _ h2)
  | .dict _, _, h => by cases h
theorem dpAll_same {K : PySem.W.Frag} {H H' : Hp} (s : Same H H') : ∀ (ds : List PyData) (vs : List V), DpAll K H vs ds → DpAll K H' vs ds
  | [], _, h => by
    cases h
    exact .nil
  | d :: ds, _, h => by
    cases h with
    | cons h1 h2 => exact .cons (dp_same s d _ h1) (dpAll_same s ds _ h2)
end
theorem eqv_shaped {d : PyData} (h : SeqAt.shaped d = true) : PyData.eqv d d = true := SeqAt.eqv_refl d (SeqAt.canLay_of_shaped h)
theorem same_over {H H' : Hp} {d : Addr} {o : HO} (s : Same H H') (n : H d = none) : Same H (upd H' d o) := fun b u e => by
  rw [upd_ne (ne_of_none e n)]
  exact s b u e
/-- a comprehension over a list that stands still: the i-th item is f i -/
theorem lc_fun {K : PySem.W.Frag} {a : Addr} {xs : List V} {te : TE} {j : Nat} {σ : St} {H1 : Hp} {D : Addr} {Qd : Hp → Prop} (f : Nat → V) (nD : H1 D = none) (ha : SqL K H1 a xs) (hz : xs.length ≤ 1000) (hw : ∀ x, wipe ((wipe σ [j]).set j (some x)) [j] = wipe σ [j])
    (he : ∀ i x H' Q, xs[i]? = some x → Same H1 H' → Q (f i) H' → te ((wipe σ [j]).set j (some x)) H' Q) (hd : ∀ H', Same H1 H' → H' D = some (.lst ((List.range xs.length).map f)) → Qd H') :
    ∃ W : Nat → Nat → Hp → Prop, (∃ m, W 0 m (upd H1 D (.lst []))) ∧ ∀ i m H, W i m H →
      ((Itl K a).stop i H ∧ Qd H) ∨ ((Itl K a).go i H ∧ ∃ Nx : Hp → Prop, (∀ H', Nx H' → ∃ m', m' < m ∧ W (i + 1) m' H') ∧ ∀ x H', (Itl K a).yld i H x H' → (gName j) x (wipe σ [j]) H' fun σ2 H2 => wipe σ2 [j] = wipe σ [j] ∧ tYes σ2 H2 fun b H3 =>
        if b = true then te σ2 H3 fun y H4 => ∃ acc, H4 D = some (.lst acc) ∧ acc.length < sizeLine ∧ Nx (upd H4 D (.lst (acc ++ [y]))) else Nx H3) := by
  refine lc_list (K := K) (a := a) (xs := xs) (fun i H' => i ≤ xs.length ∧ Same H1 H' ∧ H' D = some (.lst ((List.range i).map f))) ⟨Nat.zero_le _, same_upd nD, upd_same⟩ (fun i H' _ ⟨_, s, _⟩ => s.seq ha) ?_ (fun H' ⟨_, s, h⟩ => hd H' s h)
  intro i x H' hi ⟨hle, s, h⟩
  have hlt := (List.getElem?_eq_some_iff.mp hi).1
  refine ⟨hw x, ?_⟩
  unfold tYes
  dsimp only
  rw [if_pos rfl]
  refine he i x H' _ hi s ⟨_, h, ?_, hlt, same_over s nD, ?_⟩
  · rw [List.length_map, List.length_range, sizeLine_eq]
    omega
  · rw [upd_same, List.range_succ, List.map_append]
    rfl
/-- .. over a range -/
theorem lc_funR {n : Nat} {te : TE} {j : Nat} {σ : St} {H1 : Hp} {D : Addr} {Qd : Hp → Prop} (f : Nat → V) (nD : H1 D = none) (hz : n ≤ 1000) (hw : ∀ x, wipe ((wipe σ [j]).set j (some x)) [j] = wipe σ [j])
    (he : ∀ i H' Q, i < n → Same H1 H' → Q (f i) H' → te ((wipe σ [j]).set j (some (.int (0 + (i : Int))))) H' Q) (hd : ∀ H', Same H1 H' → H' D = some (.lst ((List.range n).map f)) → Qd H') :
    ∃ W : Nat → Nat → Hp → Prop, (∃ m, W 0 m (upd H1 D (.lst []))) ∧ ∀ i m H, W i m H →
      ((Itr 0 n).stop i H ∧ Qd H) ∨ ((Itr 0 n).go i H ∧ ∃ Nx : Hp → Prop, (∀ H', Nx H' → ∃ m', m' < m ∧ W (i + 1) m' H') ∧ ∀ x H', (Itr 0 n).yld i H x H' → (gName j) x (wipe σ [j]) H' fun σ2 H2 => wipe σ2 [j] = wipe σ [j] ∧ tYes σ2 H2 fun b H3 =>
        if b = true then te σ2 H3 fun y H4 => ∃ acc, H4 D = some (.lst acc) ∧ acc.length < sizeLine ∧ Nx (upd H4 D (.lst (acc ++ [y]))) else Nx H3) := by
  refine lc_range (lo := 0) (n := n) (fun i H' => i ≤ n ∧ Same H1 H' ∧ H' D = some (.lst ((List.range i).map f))) ⟨Nat.zero_le _, same_upd nD, upd_same⟩ ?_ (fun H' ⟨_, s, h⟩ => hd H' s h)
  intro i H' hlt ⟨hle, s, h⟩
  refine ⟨hw _, ?_⟩
  unfold tYes
  dsimp only
  rw [if_pos rfl]
  refine he i H' _ hlt s ⟨_, h, ?_, hlt, same_over s nD, ?_⟩
  · rw [List.length_map, List.length_range, sizeLine_eq]
    omega
  · rw [upd_same, List.range_succ, List.map_append]
    rfl
theorem map_range_const {α : Type} (x : α) (n : Nat) : (List.range n).map (fun _ => x) = List.replicate n x := by
  induction n with
  | zero => rfl
  | succ n ih => rw [List.range_succ, List.map_append, ih, List.replicate_succ']; rfl
end K0
/-! data -/
namespace K1
open PySem L2
mutual
/-- a value that is data: lists are tracked or written, dicts empty -/
inductive DQ (K : PySem.W.Frag) (H : Hp) : V → PyData → Prop
  | non : DQ K H .non .none
  | bl (b : Bool) : DQ K H (.bl b) (.bool b)
  | int (i : Int) : DQ K H (.int i) (.int i)
  | str (x : Str) (h : x.length ≤ 1000) : DQ K H (.str x) (.str x)
  | lst {a : Addr} {xs : List V} {ds : List PyData} : SqL K H a xs → DQs K H xs ds → DQ K H (.ref a) (.list ds)
  | tup {a : Addr} {xs : List V} {ds : List PyData} : SqT K H a xs → DQs K H xs ds → DQ K H (.ref a) (.tuple ds)
  | dct {a : Addr} : H a = some (.dK []) → DQ K H (.ref a) (.dict [])
inductive DQs (K : PySem.W.Frag) (H : Hp) : List V → List PyData → Prop
  | nil : DQs K H [] []
  | cons {v : V} {vs : List V} {d : PyData} {ds : List PyData} : DQ K H v d → DQs K H vs ds → DQs K H (v :: vs) (d :: ds)
end
mutual
theorem DQ.same {K : PySem.W.Frag} {H H' : Hp} (s : Same H H') : ∀ (d : PyData) (v : V), DQ K H v d → DQ K H' v d
  | .none, _, h => by
    cases h
    exact .non
  | .bool b, _, h => by
    cases h
    exact .bl b
  | .int i, _, h => by
    cases h
    exact .int i
  | .str x, _, h => by
    cases h with
    | str _ h => exact .str x h
  | .list ds, _, h => by
    cases h with
    | lst h1 h2 => exact .lst (s.seq h1) (DQs.same s ds _ h2)
  | .tuple ds, _, h => by
    cases h with
    | tup h1 h2 => exact .tup (K0.seqT_same s h1) (DQs.same s ds _ h2)
  | .dict [], _, h => by
    cases h with
    | dct h => exact .dct (s _ _ h)
  | .dict (_ :: _), _, h => by cases h
theorem DQs.same {K : PySem.W.Frag} {H H' : Hp} (s : Same H H') : ∀ (ds : List PyData) (vs : List V), DQs K H vs ds → DQs K H' vs ds
  | [], _, h => by
    cases h
    exact .nil
  | d :: ds, _, h => by
    cases h with
    | cons h1 h2 => exact .cons (DQ.same s d _ h1) (DQs.same s ds _ h2)
end
theorem DQ.to {K : PySem.W.Frag} {H H' : Hp} {d : PyData} {v : V} (h : DQ K H v d) (s : Same H H') : DQ K H' v d := DQ.same s d v h
theorem DQs.len {K : PySem.W.Frag} {H : Hp} : ∀ {vs : List V} {ds : List PyData}, DQs K H vs ds → vs.length = ds.length
  | _, _, .nil => rfl
  | _, _, .cons _ t => by rw [List.length_cons, List.length_cons, t.len]
theorem DQs.get {K : PySem.W.Frag} {H : Hp} : ∀ {vs : List V} {ds : List PyData} {i : Nat} {d : PyData}, DQs K H vs ds → ds[i]? = some d → ∃ v, vs[i]? = some v ∧ DQ K H v d
  | _, _, i, d, .nil, h => by simp at h
  | _, _, 0, d, .cons r t, h => by
    simp at h
    subst h
    exact ⟨_, rfl, r⟩
  | _, _, i + 1, d, .cons r t, h => by
    obtain ⟨v, h1, h2⟩ := t.get (i := i) (d := d) (by simpa using h)
    exact ⟨v, by simpa using h1, h2⟩
/-- the name of its type -/
def tyD : PyData → String
  | .none => "NoneType"
  | .bool _ => "bool"
  | .int _ => "int"
  | .str _ => "str"
  | .list _ => "list"
  | .tuple _ => "tuple"
  | .dict _ => "dict"
def isInt : PyData → Bool
  | .int _ => true
  | .bool _ => true
  | _ => false
def isBool : PyData → Bool
  | .bool _ => true
  | _ => false
def isStr : PyData → Bool
  | .str _ => true
  | _ => false
def isTup : PyData → Bool
  | .tuple _ => true
  | _ => false
theorem kit_int (d : PyData) : kitB (tyD d) "int" = some (isInt d) := by cases d <;> (simp only [tyD, isInt]; decide +kernel)
theorem kit_bool (d : PyData) : kitB (tyD d) "bool" = some (isBool d) := by cases d <;> (simp only [tyD, isBool]; decide +kernel)
theorem kit_str (d : PyData) : kitB (tyD d) "str" = some (isStr d) := by cases d <;> (simp only [tyD, isStr]; decide +kernel)
theorem kit_tup (d : PyData) : kitB (tyD d) "tuple" = some (isTup d) := by cases d <;> (simp only [tyD, isTup]; decide +kernel)
theorem tyX_of {K : PySem.W.Frag} {H : Hp} {v : V} {d : PyData} (h : DQ K H v d) : TyX K H v (.type (tyD d)) := by
  cases h with
  | non => exact .base .non
  | bl b => exact .base (.bl b)
  | int i => exact .base (.int i)
  | str x _ => exact .base (.str x)
  | lst h _ =>
    rcases h with (h | ⟨o, h⟩) | ⟨o, its, n, h1, h2, _⟩
    · exact .base (.lst h)
    · exact .base (.frz h)
    · exact .kList h1 h2
  | tup h _ =>
    rcases h with (h | ⟨o, h⟩) | ⟨o, its, n, h1, h2, _⟩
    · exact .base (.tup h)
    · exact .fTuple h
    · exact .kTuple h1 h2
  | dct h => exact .base (.dK h)
theorem isi_ask {K : PySem.W.Frag} {H : Hp} {v : V} {d : PyData} {n : String} {b : Bool} {Q : VK} (h : DQ K H v d) (e : kitB (tyD d) n = some b) (q : Q (.bl b) H) : rIsi K [v, .ty n] H Q :=
  ⟨v, .ty n, .type (tyD d), .type n, b, rfl, .ty n, tyX_of h, kit_ty e, q⟩
def numD : PyData → Bool
  | .int _ => true
  | _ => false
def fromD (lo hi : Int) : PyData → Bool
  | .int i => decide (lo ≤ i) && decide (i ≤ hi)
  | _ => false
def tupD (n : Nat) : PyData → Bool
  | .tuple ds => decide (ds.length = n)
  | _ => false
def holdsD : PyData → Bool
  | .str x => x == "block" || x == "let" || x == "sum" || x == "product"
  | _ => false
/-- a question of one value of data -/
def spD (K : PySem.W.Frag) (f : PyData → Bool) : Sp := fun vs H Q _ => ∃ v d, vs = [v] ∧ DQ K H v d ∧ ∀ H', Same H H' → Q (.bl (f d)) H'
def spFrom (K : PySem.W.Frag) : Sp := fun vs H Q _ => ∃ v d lo hi, vs = [v, .int lo, .int hi] ∧ DQ K H v d ∧ ∀ H', Same H H' → Q (.bl (fromD lo hi d)) H'
def top (i : Nat) : Stmt := PySem.Challenge.pw_sharedscopes_k69_whole_texts_read.main.body.getD i (.Pass ⟨0, 0, 0, 0⟩)
/-- the built-ins' names are not the module's -/
structure Bi (mg : Str → Option Value) : Prop where
  isi : mg "isinstance" = none
  int : mg "int" = none
  bool : mg "bool" = none
  str : mg "str" = none
  tuple : mg "tuple" = none
  len : mg "len" = none
  all : mg "all" = none
/-- a def of the text, called by its name -/
structure Dn (K : PySem.W.Frag) (mg : Str → Option Value) (x : Str) (ps : List Str) (st : Stmt) (g : Addr) (fd : FuncData) : Prop where
  fn : Fun K x x st g fd
  bn : Binds K fd ps []
  mg : mg x = some (.ref g)
theorem DQ.item {K : PySem.W.Frag} {H : Hp} {v : V} {ds : List PyData} {i : Nat} {d : PyData} (h : DQ K H v (.tuple ds)) (hi : ds[i]? = some d) : ∃ a xs u, v = .ref a ∧ SqT K H a xs ∧ atI xs (i : Int) = some u ∧ DQ K H u d := by
  cases h with
  | tup h1 h2 =>
    obtain ⟨u, e, q⟩ := h2.get hi
    exact ⟨_, _, u, rfl, h1, atI_nat e, q⟩
/-- isinstance(v, a built-in type), of data -/
def rIsiD (K : PySem.W.Frag) : List V → Hp → VK → Prop := fun xs H Q => ∃ v d n b, xs = [v, .ty n] ∧ DQ K H v d ∧ kitB (tyD d) n = some b ∧ Q (.bl b) H
theorem call_isiD {X : Cx} : CallR X (.builtin "isinstance") (rIsiD X.K) := by
  intro pins s σ H xs us Q I r ⟨v, d, n, b, e, hd, hk, q⟩
  subst e
  exact call_isi pins s σ H _ us Q I r (isi_ask hd hk q)
section
variable {P : Program} {w : World} {K : PySem.W.Frag} {mg : Str → Option Value} {base : Heap}
end
theorem dec_len {a b : Nat} : decide (V.int (a : Int) = V.int (b : Int)) = decide (a = b) := by
  by_cases h : a = b
  · subst h
    rw [decide_eq_true rfl, decide_eq_true rfl]
  · rw [decide_eq_false h, decide_eq_false fun z => h ?_]
    injection z with z
    omega
/-- a comprehension over a text's signs -/
theorem lc_funS {z : Str} {te : TE} {j : Nat} {σ : St} {H1 : Hp} {D : Addr} {Qd : Hp → Prop} (f : Nat → V) (nD : H1 D = none) (hz : z.cps.size ≤ 1000) (hw : ∀ x, wipe ((wipe σ [j]).set j (some x)) [j] = wipe σ [j])
    (he : ∀ i c H' Q, z.cps[i]? = some c → Same H1 H' → Q (f i) H' → te ((wipe σ [j]).set j (some (.str ⟨#[c]⟩))) H' Q) (hd : ∀ H', Same H1 H' → H' D = some (.lst ((List.range z.cps.size).map f)) → Qd H') :
    ∃ W : Nat → Nat → Hp → Prop, (∃ m, W 0 m (upd H1 D (.lst []))) ∧ ∀ i m H, W i m H →
      ((Its z).stop i H ∧ Qd H) ∨ ((Its z).go i H ∧ ∃ Nx : Hp → Prop, (∀ H', Nx H' → ∃ m', m' < m ∧ W (i + 1) m' H') ∧ ∀ x H', (Its z).yld i H x H' → (gName j) x (wipe σ [j]) H' fun σ2 H2 => wipe σ2 [j] = wipe σ [j] ∧ tYes σ2 H2 fun b H3 =>
        if b = true then te σ2 H3 fun y H4 => ∃ acc, H4 D = some (.lst acc) ∧ acc.length < sizeLine ∧ Nx (upd H4 D (.lst (acc ++ [y]))) else Nx H3) := by
  refine lc_it (walk_str (z := z)) (fun i H' => i ≤ z.cps.size ∧ Same H1 H' ∧ H' D = some (.lst ((List.range i).map f))) ⟨Nat.zero_le _, K0.same_upd nD, upd_same⟩ (fun _ _ _ _ => trivial) ?_ (fun H' ⟨_, s, h⟩ => hd H' s h)
  rintro i x H2 H' hlt ⟨hle, s, h⟩ ⟨rfl, c, hc, rfl⟩
  refine ⟨hw _, ?_⟩
  unfold tYes
  dsimp only
  rw [if_pos rfl]
  refine he i c _ _ hc s ⟨_, h, ?_, hlt, K0.same_over s nD, ?_⟩
  · rw [List.length_map, List.length_range, sizeLine_eq]
    omega
  · rw [upd_same, List.range_succ, List.map_append]
    rfl
def ask {α : Type} (p : α → Bool) : Option α → Bool
  | some x => p x
  | none => true
theorem all_range {α : Type} (p : α → Bool) : ∀ (l : List α), ((List.range l.length).map fun i => ask p l[i]?).all id = l.all p := by
  intro l
  rw [Bool.eq_iff_iff]
  simp only [List.all_map, List.all_eq_true, List.mem_range, Function.comp, id]
  constructor
  · intro h x hx
    obtain ⟨i, hi, e⟩ := List.mem_iff_getElem.mp hx
    have z := h i hi
    rw [List.getElem?_eq_getElem hi] at z
    rw [e] at z
    exact z
  · intro h i hi
    rw [List.getElem?_eq_getElem hi]
    exact h _ (List.getElem_mem hi)
theorem in_holders (x : Str) : inV (.str x) [.str "block", .str "let", .str "sum", .str "product"] = (x == "block" || x == "let" || x == "sum" || x == "product") := by
  have c : ∀ y : Str, eqV (.str y) (.str x) = (x == y) := fun y => by
    show (y == x) = (x == y)
    rw [Bool.eq_iff_iff, beq_iff_eq, beq_iff_eq]
    exact ⟨Eq.symm, Eq.symm⟩
  unfold inV
  rw [List.any_cons, List.any_cons, List.any_cons, List.any_cons, List.any_nil, c, c, c, c, Bool.or_false, Bool.or_assoc, Bool.or_assoc]
theorem dec_str {x y : Str} : decide (V.str x = V.str y) = decide (x = y) := by
  by_cases h : x = y
  · rw [h, decide_eq_true rfl, decide_eq_true rfl]
  · rw [decide_eq_false h, decide_eq_false fun z => h (V.str.inj z)]
mutual
/-- data without dicts, for the hand layer's rules of == -/
theorem DQ.dp {K : PySem.W.Frag} {H : Hp} : ∀ (d : PyData) (v : V), d.hasDict = false → DQ K H v d → Dp K H v d
  | .none, _, _, h => by
    cases h
    exact .non
  | .bool b, _, _, h => by
    cases h
    exact .bl b
  | .int i, _, _, h => by
    cases h
    exact .int i
  | .str x, _, _, h => by
    cases h
    exact .str x
  | .list ds, _, n, h => by
    cases h with
    | lst h1 h2 => exact .lst h1 (DQs.dp ds _ n h2)
  | .tuple ds, _, n, h => by
    cases h with
    | tup h1 h2 => exact .tup h1 (DQs.dp ds _ n h2)
  | .dict _, _, n, _ => by cases n
theorem DQs.dp {K : PySem.W.Frag} {H : Hp} : ∀ (ds : List PyData) (vs : List V), PyData.hasDictAll ds = false → DQs K H vs ds → DpAll K H vs ds
  | [], _, _, h => by
    cases h
    exact .nil
  | d :: ds, _, n, h => by
    have z : (d.hasDict || PyData.hasDictAll ds) = false := n
    rw [Bool.or_eq_false_iff] at z
    cases h with
    | cons h1 h2 => exact .cons (DQ.dp d _ z.1 h1) (DQs.dp ds _ z.2 h2)
end
end K1
namespace K1
open PySem L2
def s_init : Stmt := match top 1 with
  | .ClassDef (body := b) .. => b.getD 0 (.Pass ⟨0, 0, 0, 0⟩)
  | s => s
/-- an error class of the program that tells: told -/
structure Er (K : PySem.W.Frag) (mg : Str → Option Value) (x : Str) (C fI : Addr) : Prop where
  mg : mg x = some (.ref C)
  ox : OexC K C
  xf : XfC K C
  noN : PySem.W.findIn K (.ref C) "told" = some none
  iC : PySem.W.findIn K (.ref C) "__init__" = some (some (.ref fI))
  tI : PySem.W.typeIn K (.ref fI) = some (.type "function")
  te : PySem.W.exmOne K (.ref C) (.ref C) = some true
  ini : ∃ fd, Fun K "__init__" "ScopeError.__init__" s_init fI fd ∧ Binds K fd ["self", "told"] []
def spIni (K : PySem.W.Frag) : Sp := fun vs H Q _ => ∃ (a C : Addr) (v : V), vs = [.ref a, v] ∧ OexC K C ∧ PySem.W.findIn K (.ref C) "told" = some none ∧ H a = some (exo a C none) ∧ ∀ dx, H dx = none → dx ≠ a → Q .non (upd (upd H dx (exd dx [("told", v)])) a (exo a C (some dx)))
section
variable {P : Program} {w : World} {K : PySem.W.Frag} {mg : Str → Option Value} {base : Heap}
theorem sc_init : FnScope ["self", "told"] ["self", "told"] (defScope s_init) := ⟨rfl, rfl, rfl, by decide +kernel, rfl, by decide +kernel, by decide +kernel⟩
theorem ok_init {f : Addr} {fd : FuncData} (F : Fun K "__init__" "ScopeError.__init__" s_init f fd) : FnOk P w K mg base CX0 1 f fd ["self", "told"] (spIni K) := by
  refine F.ok sc_init (fun vs H Q E h => ?_) (fun cdv A outer s H vs Q E hr h => ?_)
  · obtain ⟨a, C, v, rfl, _⟩ := h
    rfl
  · obtain ⟨a, C, v, rfl, T, hno, ha, k⟩ := h
    exact ⟨_, pss_one (ps_ost (pv 0) (pv 1)), _, rfl, _, rfl, a, C, rfl, T, hno, .inl ⟨ha, k⟩⟩
def up (t : TA) : TA := fun σ H Q => ∃ Q0 : List V → Hp → Prop, t σ H Q0 ∧ ∀ vs H1, Q0 vs H1 → Q vs H1
theorem pa_up {X : Cx} {es : List Expr} {t : TA} (h : PA X es t) : PA X es (up t) := ⟨fun pos pins s σ H Q I ⟨Q0, q, k⟩ => wpAny_mono (h.run pos pins s σ H Q0 I q) (fun us s1 ⟨vs, H1, I1, r, z⟩ => ⟨vs, H1, I1, r, k _ _ z⟩) fun _ _ z => z⟩
/-- X(e), to be raised -/
def tErr (C : Addr) (ta : TA) : St → Hp → XK → Prop := fun σ H Q => ta σ H fun vs H1 => ∃ v, vs = [v] ∧ ∀ H2 d, Same H1 H2 → H2 d = some (.xd [("told", v)]) → Q (.ref C) (some d) H2
theorem pmk_err {X : Cx} {x : Str} {C fI : Addr} {e : Expr} {ta : TA} {p pos : Pos} {k : Nat} (R : Er X.K X.mg x C fI) (hr : Room k X.A) (hk : 2 ≤ k) (ha : PA X [e] ta) (hg : Gl X x := by rfl) (hdb : (x == ("__debug__" : Str)) = false := by decide)
    (he : starEach (e :: []) X.env = (false, eval e X.env) :: starEach [] X.env := by rfl) (hpl : (backTo pos (starEach [] X.env)).any (·.1) = false := by rfl) : PMk X (.Call (.Name x p) [e] [] pos) (tErr C ta) := by
  obtain ⟨fd, F, hb⟩ := R.ini
  have G : FnOk X.prog X.w X.K X.mg X.base CX0 1 fI fd ["self", "told"] (spIni X.K) := ok_init F
  have M := pmk_oex (p := p) (dvs := []) R.ox R.iC R.tI G (hr.mono hk) hb .nil (fun _ _ _ _ _ _ _ h => h.elim) hg R.mg (pa_up ha) hdb he hpl
  intro pins s σ H Q I h
  refine M pins s σ H Q I ⟨_, h, fun vs H1 ⟨v, ev, q⟩ => ?_⟩
  subst ev
  refine ⟨(by show 1 ≤ 1000; decide), fun a na => ⟨a, C, v, rfl, R.ox, R.noN, upd_same, fun dx nd ne => ⟨rfl, dx, [("told", v)], upd_same, ?_, ?_, ?_⟩⟩⟩
  · rw [upd_ne ne, upd_same]
  · rw [upd_ne ne] at nd
    exact nd
  · have nd' : H1 dx = none := by
      rw [upd_ne ne] at nd
      exact nd
    refine q _ dx (fun b u hb => ?_) upd_same
    have h1 : b ≠ a := ne_of_none hb na
    have h2 : b ≠ dx := ne_of_none hb nd'
    rw [upd_ne h2, del_ne h1, upd_ne h1, upd_ne h2, upd_ne h1]
    exact hb

/-- nothing, or the error of the class at C that tells v -/
def okOr (C : Addr) (c : Bool) (v : V) (H : Hp) (E : XK) (k : Prop) : Prop := (c = true → k) ∧ (c = false → ∀ H' d, Same H H' → H' d = some (.xd [("told", v)]) → E (.ref C) (some d) H')
def spChk (K : PySem.W.Frag) (C : Addr) (f : PyData → Bool) : Sp := fun vs H Q E => ∃ v d, vs = [v] ∧ DQ K H v d ∧ okOr C (f d) v H E (∀ H', Same H H' → Q .non H')
/-- a def that may raise, called by its name -/
def ClX (P : Program) (w : World) (K : PySem.W.Frag) (mg : Str → Option Value) (base : Heap) (k : Nat) (x : Str) (ps : List Str) (sp : Sp) : Prop :=
  ∃ g fd, FnOk P w K mg base (L2.CX P w) k g fd ps sp ∧ mg x = some (.ref g) ∧ PySem.W.keepIn K (.ref g) = true ∧ Binds K fd ps []
theorem Dn.clX {k : Nat} {x : Str} {ps : List Str} {st : Stmt} {g : Addr} {fd : FuncData} {sp : Sp} (D : Dn K mg x ps st g fd) (F : FnOk P w K mg base (L2.CX P w) k g fd ps sp) : ClX P w K mg base k x ps sp :=
  ⟨g, fd, F, D.mg, D.fn.kp, D.bn⟩
theorem pe_clX {X : Cx} {k m : Nat} {W : WX} {x : Str} {ps : List Str} {sp : Sp} {e : Expr} {es : List Expr} {t : TA} {p pos : Pos} (C : ClX X.prog X.w X.K X.mg X.base k x ps sp) (hr : Room m X.A) (tk : Takes X W) (hk : k ≤ m) (ha : PA X (e :: es) t) (hg : Gl X x := by rfl) (hdb : (x == ("__debug__" : Str)) = false := by decide)
    (he : starEach (e :: es) X.env = (false, eval e X.env) :: starEach es X.env := by rfl) (hpl : (backTo pos (starEach es X.env)).any (·.1) = false := by rfl) : PE X (.Call (.Name x p) (e :: es) [] pos) (tCallS sp (WE W) t) := by
  obtain ⟨g, fd, F, hm, hk', hb⟩ := C
  exact pe_callS F (hr.mono hk) hg hm hk' hb (fun σ => passAt tk σ) ha hdb he hpl
end
end K1
namespace K1
open PySem L2 PySem.Spec PyProof.Rows
/-! ### a def that is called where nothing is being shown: repr of lists and tuples is told in it -/
structure FnG (P : Program) (w : World) (K : PySem.W.Frag) (mg : Str → Option Value) (base : Heap) (k : Nat) (f : Addr) (fd : FuncData) (ps : List Str) (sp : Sp) : Prop where
  len : ∀ vs H Q E, sp vs H Q E → vs.length = ps.length
  run : ∀ (A : Around) (outer : List Env) (s : Shared) (H : Hp) (args : Args) (us : List Value) (vs : List V) (Q : VK) (E : XK), A.guards = some [] → Room k A → Env0 P w K mg base A outer s H → BindsTo s fd args (ps.zip us) → Vals vs us → sp vs H Q E →
    codeAny (model P w) A (.call (.ref f) args) (CR CX0 outer P w H s Q E) s
section
variable {P : Program} {w : World} {K : PySem.W.Frag} {mg : Str → Option Value} {base : Heap}
theorem okG {x qual : Str} {st : Stmt} {f : Addr} {fd : FuncData} {N ps : List Str} {k : Nat} {sp : Sp} (F : Fun K x qual st f fd) (S : FnScope N ps (defScope st)) (len : ∀ vs H Q E, sp vs H Q E → vs.length = ps.length)
    (hbody : ∀ (cdv : Value) (A : Around) (outer : List Env) (s : Shared) (H : Hp) (vs : List V) (Q : VK) (E : XK), A.guards = some [] → Room k (A.deeper (envOfC qual (defScope st) s.heap.objs.size f cdv)) → sp vs H Q E →
      ∃ t, PSs (cxOf CX0 P w K mg base N qual (defScope st) f cdv A outer s H E).nox (defBody st) t ∧ t { nx := fun _ H' => Q .non H', rt := Q } (start N vs) H) : FnG P w K mg base (k + 1) f fd ps sp := by
  obtain ⟨oc, od, kV, doc, pm, an, cdv, ct, osl, rfl, lk, hcd⟩ := F.ex
  refine ⟨len, fun A outer s H args us vs Q E hg hr e0 hb r h => ?_⟩
  obtain ⟨t, ht, q⟩ := hbody cdv A outer s H vs Q E hg (hr.deeper _) h
  exact run_at lk hcd S (len _ _ _ _ h) hr e0 hb r ⟨t, ht.nox, q⟩
end
def ClG (P : Program) (w : World) (K : PySem.W.Frag) (mg : Str → Option Value) (base : Heap) (k : Nat) (x : Str) (ps : List Str) (sp : Sp) : Prop :=
  ∃ g fd, FnG P w K mg base k g fd ps sp ∧ mg x = some (.ref g) ∧ PySem.W.keepIn K (.ref g) = true ∧ Binds K fd ps []
theorem pe_clG {X : Cx} {k m : Nat} {x : Str} {ps : List Str} {sp : Sp} {e : Expr} {es : List Expr} {t : TA} {p pos : Pos} (C : ClG X.prog X.w X.K X.mg X.base k x ps sp) (hgd : X.A.guards = some []) (hr : Room m X.A) (hk : k ≤ m) (ha : PA X (e :: es) t) (hg : Gl X x := by rfl) (hdb : (x == ("__debug__" : Str)) = false := by decide)
    (he : starEach (e :: es) X.env = (false, eval e X.env) :: starEach es X.env := by rfl) (hpl : (backTo pos (starEach es X.env)).any (·.1) = false := by rfl) : PE X (.Call (.Name x p) (e :: es) [] pos) (tCall sp [] E0 t) := by
  obtain ⟨g, fd, F, hm, hk', hb⟩ := C
  refine ⟨fun pins s σ H Q I h => wpAny_Call_Name_kw (ld_glob I hg hm ?_ hdb)⟩
  refine PySem.W.callWith_K (h₀ := X.base) I.ok.mod.kin hk' (thn (ha.run pos pins s σ H _ I h) fun us s1 hh => ?_) he hpl
  obtain ⟨vs, H1, I1, r, q⟩ := hh
  rw [List.append_nil] at q
  have hl : us.length = ps.length := r.length.symm.trans (F.len _ _ _ _ q)
  have hb' := hb s1 us I1.kIn (by rw [List.append_nil]; exact hl)
  rw [List.append_nil] at hb'
  refine ⟨I1.kIn, wpAny_call (codeAny_mono (F.run X.A X.stack s1 H1 ⟨us, []⟩ us vs Q E0 hgd (hr.mono hk) I1.env0 hb' r q) fun o s' z => ?_)⟩
  cases o with
  | error e => exact (show False from z).elim
  | ok fl =>
    cases fl with
    | ret u => exact I1.after z
    | next => exact z.elim
    | brk => exact z.elim
    | cont => exact z.elim
end K1
namespace K1
open PySem L2 PySem.Spec PyProof.Rows
abbrev SuiteT := Addr → Value → Option Addr → TS
/-- the ends of a suite whose name, in slot i, is taken away behind it -/
def gone (i : Nat) (D : Ends) : Ends := { nx := fun σ H => D.nx (σ.set i none) H, rt := D.rt, bk := fun σ H => D.bk (σ.set i none) H, ct := fun σ H => D.ct (σ.set i none) H }
/-- what the clauses 'except x as n' wish, one behind the other: slot i is n's -/
def wEach (K : PySem.W.Frag) (i : Nat) (Wo : WX) (D : Ends) : List (Value × SuiteT) → WX
  | [] => Wo
  | (c, ts) :: r => fun cls d σ H => ∃ b, PySem.W.exmOne K cls c = some b ∧ (b = true → ∀ a, H a = none → ts a cls d (gone i D) (σ.set i (some (.ref a))) H) ∧ (b = false → wEach K i Wo D r cls d σ H)
inductive Clauses (X : Cx) (n : Str) : List ExceptHandler → List (Value × SuiteT) → Prop
  | nil : Clauses X n [] []
  | cons {x : Str} {c : Value} {ts : SuiteT} {st : Stmt} {sts : List Stmt} {np hp : Pos} {hds : List ExceptHandler} {l : List (Value × SuiteT)} (nm : Names X x c)
      (su : ∀ (a : Addr) (oe : Obj) (cls : Value) (d : Option Addr) (pn : List (Addr × Obj)), Zc cls d oe → (∃ vs, oe.data = .fields vs) → PSs (X.suite a ((a, oe) :: pn)) (st :: sts) (ts a cls d)) (r : Clauses X n hds l) :
      Clauses X n (.ExceptHandler (some (.Name x np)) (some n) (st :: sts) hp :: hds) ((c, ts) :: l)
section
variable {X : Cx} {n : Str} {i : Nat} {Wo : WX}
/-- an exception that has come to the clauses -/
theorem clauses_run {pins : List (Addr × Obj)} {σ : L2.St} {H : Hp} {D : Ends} {a : Addr} {B : Heap} {sI : Shared} {cls : Value} {d : Option Addr} (ok : X.Ok) (hs : X.stack = X.env :: X.outer) (hf : X.env.frame = some X.env.locals) (hN : X.N.Nodup) (hi : X.N[i]? = some n) (hln : X.env.kindOf n = some .local) (tk : Takes X Wo)
    (J : Inv X pins σ H sI) (nb : ∀ b o, sI.heap.get? b = some o → b ∉ frs X.stack → B.get? b = some o) (na : H a = none) :
    ∀ {hds : List ExceptHandler} {l : List (Value × SuiteT)}, Clauses X n hds l → ∀ {s : Shared}, HandSPX.FlyingZ B (X.env :: X.outer) a (Zc cls d) s.heap → sI.heap.UpToSlots s.heap → s.os = sI.os → AllBare s.gens → wEach X.K i Wo D l cls d σ H →
      wpAny (model X.prog X.w) X.A (handleBy (.ref a) X.env hds) (SP X pins D) X.xe s := by
  intro hds l C
  induction C with
  | nil =>
    intro s fl up os ag w
    refine wpAny_handleBy_nil ?_
    obtain ⟨_, _, _, oe, vs, T, oT, ts', he, hz, hd, h1, hr⟩ := id fl
    unfold PySem.passOn
    refine wpAny_bind (wpAny_field he hd h1 ?_)
    rw [if_neg (show ¬ ((Value.ref T == Value.none) = true) from by simp)]
    have away : wpAny (model X.prog X.w) X.A (setFlight (.ref a) X.env.frame) (fun _ s4 => wpAny (model X.prog X.w) X.A (throw (.ref a) : Sem Flow) (SP X pins D) X.xe s4) X.xe s := by
      rw [hf]
      exact HandSPX.setFlight_upZ fl fun h4 fl4 up4 => wpAny_throw (tk _ _ ⟨a, B, sI, pins, σ, H, cls, d, rfl, J, nb, up.trans up4, .inr (.inr (by rw [hs]; exact fl4)), na, os, ag, w⟩)
    first
      | exact wpAny_bind (wpAny_pure (wpAny_bind away))
      | exact wpAny_bind away
  | @cons x c ts st sts np hp hds2 l2 nm su _ ih =>
    intro s fl up os ag w
    obtain ⟨b, hb1, yes, no⟩ := w
    obtain ⟨oe, vs, he, hz, hd⟩ := fl.there
    have Jl : Inv X pins σ H s := J.landed nb fl.1 up os ag
    have notIn : ∀ {h : Heap} {o : Obj} {us : Array Value}, h.FunFrames B (X.env :: X.outer) → h.get? a = some o → o.data = .fields us → a ∉ frs (X.env :: X.outer) := fun ff e dd hm => by
      obtain ⟨_, o', e', z⟩ := ff.mem hm
      rw [e] at e'
      cases e'
      exact z _ dd
    have nfr := notIn fl.2.2.1 he hd
    have nL : a ≠ X.env.locals := fun z => nfr (List.mem_filterMap.mpr ⟨X.env, List.mem_cons_self, by rw [hf, z]⟩)
    have nF : a ∉ X.fs := fun hm => by
      obtain ⟨e, he', q⟩ := List.mem_filterMap.mp hm
      exact nfr (List.mem_filterMap.mpr ⟨e, List.mem_cons_of_mem _ he', q⟩)
    have S3 := Jl.suite he hd na nL nF
    have LT : PySem.W.Looks (model X.prog X.w) s.heap (typeOf (.ref a)) cls := fun A Q E s' k q => wpAny_typeOf_ref (k _ _ he) (by rw [hz.1]; exact q)
    have LM := PySem.W.exm_one (M := model X.prog X.w) Jl.kIn LT hb1
    refine wpAny_handleBy_cons (codeAny_handlers_test ?_) (by intro q; cases q)
    have look : ∀ {Q : Value → Shared → Prop} {E : Value → Shared → Prop}, Q c s → wpAny (model X.prog X.w) (X.A.mark (some (.ref a))) (eval (.Name x np) X.env) Q E s := fun q => by
      obtain ⟨hg, hdbg, hm | ⟨hm, hv, hnn⟩⟩ := nm
      · exact ld_glob (X := X.suite a ((a, oe) :: (X.pn ++ pins))) S3 hg hm q hdbg
      · exact ld_blt (X := X.suite a ((a, oe) :: (X.pn ++ pins))) S3 hg hm hv q hnn hdbg
    refine look (LM.here ?_)
    cases b with
    | false => exact ih fl up os ag (no rfl)
    | true =>
      refine codeAny_handlers_suite_as ?_
      refine HandSPX.lands_againZ fl fun h4 fl4 up4 => ?_
      have J4 : Inv X pins σ H { s with heap := h4 } := J.landed nb fl4.1 (up.trans up4) os ag
      obtain ⟨oe4, vs4, he4, hz4, hd4⟩ := fl4.there
      have S4 := J4.suite he4 hd4 na nL nF
      refine store_ok (X := X.suite a ((a, oe4) :: (X.pn ++ pins))) (v := .ref a) S4 hN hi (.inl hln) rfl (fun s5 S5 => ?_) (.inr hln)
      refine wpAny_mono ((su a oe4 cls d (X.pn ++ pins) hz4 ⟨_, hd4⟩).run [] s5 _ H _ S5 (yes rfl a na)) (fun f s6 z => ?_) fun _ _ z => False.elim z
      have last : ∀ {σ6 : L2.St} {H6 : Hp} {Q : Shared → Prop}, Inv (X.suite a ((a, oe4) :: (X.pn ++ pins))) [] σ6 H6 s6 → (∀ s7, Inv X pins (σ6.set i none) H6 s7 → Q s7) →
          wpAny (model X.prog X.w) X.A (do bindName X.env n .none; unbindBehindTheSuite X.env n hp) (fun _ s7 => Q s7) X.xe s6 := fun S6 q => gone_ok (S6.unsuite ok) hN hi hln q
      cases f with
      | next =>
        obtain ⟨σ6, H6, S6, q⟩ := z
        exact last S6 fun s7 J7 => ⟨_, _, J7, q⟩
      | brk =>
        obtain ⟨σ6, H6, S6, q⟩ := z
        exact last S6 fun s7 J7 => ⟨_, _, J7, q⟩
      | cont =>
        obtain ⟨σ6, H6, S6, q⟩ := z
        exact last S6 fun s7 J7 => ⟨_, _, J7, q⟩
      | ret u =>
        obtain ⟨v6, σ6, H6, S6, r6, q⟩ := z
        exact last S6 fun s7 J7 => ⟨_, _, _, J7, r6, q⟩
/-- try: body, then clauses that name the exception -/
theorem ps_try_each {body : List Stmt} {h₀ : ExceptHandler} {hds : List ExceptHandler} {l : List (Value × SuiteT)} {pos : Pos} {tb : WX → TS} (hs : X.stack = X.env :: X.outer) (hf : X.env.frame = some X.env.locals) (hN : X.N.Nodup) (hi : X.N[i]? = some n) (hln : X.env.kindOf n = some .local) (tk : Takes X Wo)
    (hb : ∀ (W : WX) (pn : List (Addr × Obj)) (xe : Value → Shared → Prop), Takes (X.tr pn xe) W → PassesOwn (model X.prog X.w) X.A X.env xe → PSs (X.tr pn xe) body (tb W)) (C : Clauses X n (h₀ :: hds) l) :
    PS X (.Try body (h₀ :: hds) [] [] pos) (fun D σ H => tb (wEach X.K i Wo D l) D σ H) := by
  refine ⟨fun pins s σ H D I h => ?_⟩
  have ok := I.ok
  refine wpAny_Try_except (wpAny_mono ((hb (wEach X.K i Wo D l) (X.pn ++ pins) (fun e s₁ => wpAny (model X.prog X.w) X.A (noteFrame e X.env) (fun _ s₂ => wpAny (model X.prog X.w) X.A (setFlight e none) (fun _ s₃ =>
    wpAny (model X.prog X.w) X.A (handleBy e X.env (h₀ :: hds)) (SP X pins D) X.xe s₃) X.xe s₂) X.xe s₁) (fun u s' xx => ?_) PassesOwn.looking).run [] s σ H D (I.toTry _) h) (fun f s1 z => ?_) (fun e s1 z => z))
  · obtain ⟨a, B, sI, pins', σ', H', cls, d, rfl, J', nb, up, sky, na, os, ag, w⟩ := xx
    refine Sky.land Zc.steady (by rw [ok.frames, hs]) hf (by rw [← hs]; exact sky) fun h3 fl3 up3 => ?_
    exact clauses_run ok hs hf hN hi hln tk (J'.ofTry ok) nb na C fl3 (up.trans up3) os ag w
  · cases f with
    | next =>
      obtain ⟨σ', H', J', q⟩ := z
      exact wpAny_execs_nil ⟨σ', H', J'.ofTry ok, q⟩
    | brk =>
      obtain ⟨σ', H', J', q⟩ := z
      exact ⟨σ', H', J'.ofTry ok, q⟩
    | cont =>
      obtain ⟨σ', H', J', q⟩ := z
      exact ⟨σ', H', J'.ofTry ok, q⟩
    | ret u =>
      obtain ⟨v, σ', H', J', r, q⟩ := z
      exact ⟨v, σ', H', J'.ofTry ok, r, q⟩
end
end K1
namespace K1
open PySem L2
mutual
def noList : PyData → Bool
  | .list _ => false
  | .tuple ds => noListAll ds
  | .dict ps => ps.isEmpty
  | _ => true
def noListAll : List PyData → Bool
  | [] => true
  | d :: ds => noList d && noListAll ds
end
section
variable {X : Cx} {pins : List (Addr × Obj)} {σ : St} {H : Hp} {s : Shared}
theorem dct_reads {a : Addr} (I : Inv X pins σ H s) (h : H a = some (.dK [])) : ∃ as, PySem.Reads s.heap (.ref a) (.dict []) as ∧ sysModules ∉ as := by
  have z : ObjOk X.prog X.w H s.heap a (.dK []) := I.hok a _ h
  obtain ⟨_, hs, vs, hkv, o, es, ep, ho, hx, hd, hk, hp, _⟩ := z
  cases hkv
  generalize hl : es.toList = el at hp
  cases hp
  have hr := PySem.Reads.dict (kvs := []) (as := []) (bs := []) ho hx.1 hd (by rw [hl]; exact .nil) (by rw [hl]; exact .nil)
  refine ⟨_, hr, fun hm => ?_⟩
  have hm2 : sysModules = a := by simpa using hm
  rw [hm2] at hs
  exact absurd hs (by simp)
mutual
theorem DQ.reads (I : Inv X pins σ H s) : ∀ (d : PyData) (v : V) (u : Value), DQ X.K H v d → RelV v u → ∃ as, PySem.Reads s.heap u d as ∧ (noList d = true → sysModules ∉ as)
  | .none, _, _, h, r => by
    cases h
    cases r
    exact ⟨_, .none, fun _ => List.not_mem_nil⟩
  | .bool b, _, _, h, r => by
    cases h
    cases r
    exact ⟨_, .bool b, fun _ => List.not_mem_nil⟩
  | .int i, _, _, h, r => by
    cases h
    obtain ⟨t, rfl⟩ := r
    exact ⟨_, .int i t, fun _ => List.not_mem_nil⟩
  | .str x, _, _, h, r => by
    cases h
    obtain ⟨t, rfl⟩ := r
    exact ⟨_, .str x t, fun _ => List.not_mem_nil⟩
  | .list ds, _, _, h, r => by
    cases h with
    | lst hs ha =>
      cases r
      obtain ⟨its, rv, ⟨o, n, ho, hc, _, hd⟩, _⟩ := I.list hs
      obtain ⟨as, hr, _⟩ := DQs.reads I ds _ its ha rv
      exact ⟨_, .list ho hc hd hr, fun z => Bool.noConfusion z⟩
  | .tuple ds, _, _, h, r => by
    cases h with
    | tup hs ha =>
      cases r
      obtain ⟨its, rv, ⟨o, ho, hc, n, hd⟩, _⟩ := I.tuple hs
      obtain ⟨as, hr, hn⟩ := DQs.reads I ds _ its ha rv
      exact ⟨_, .tuple ho hc hd hr, hn⟩
  | .dict [], _, _, h, r => by
    cases h with
    | dct h =>
      cases r
      obtain ⟨as, q, n⟩ := dct_reads I h
      exact ⟨as, q, fun _ => n⟩
  | .dict (_ :: _), _, _, h, _ => by cases h
theorem DQs.reads (I : Inv X pins σ H s) : ∀ (ds : List PyData) (vs : List V) (us : List Value), DQs X.K H vs ds → L2.Vals vs us → ∃ as, PySem.ReadsAll s.heap us ds as ∧ (noListAll ds = true → sysModules ∉ as)
  | [], _, _, h, r => by
    cases h
    cases r
    exact ⟨_, .nil, fun _ => List.not_mem_nil⟩
  | d :: ds, _, _, h, r => by
    cases h with
    | cons h1 h2 =>
      cases r with
      | cons r1 r2 =>
        obtain ⟨as, q1, n1⟩ := DQ.reads I d _ _ h1 r1
        obtain ⟨bs, q2, n2⟩ := DQs.reads I ds _ _ h2 r2
        refine ⟨_, .cons q1 q2, fun z => ?_⟩
        have z' : (noList d && noListAll ds) = true := z
        rw [Bool.and_eq_true] at z'
        rw [List.mem_append]
        exact fun hm => hm.elim (n1 z'.1) (n2 z'.2)
end
end
/-- repr of data -/
def rReprQ (K : PySem.W.Frag) : List V → Hp → VK → Prop := fun xs H Q => ∃ (v : V) (d : PyData), xs = [v] ∧ DQ K H v d ∧ (d.hasDict = true → noList d = true) ∧ d.showable = true ∧ d.depth ≤ 8 ∧ d.shown.length ≤ sizeLine ∧ Q (.str d.shown) H
theorem call_reprQ {X : Cx} (hg : X.A.guards = some []) (hu : X.A.units + 64 < cLine) : CallR X (.builtin "repr") (rReprQ X.K) := by
  intro pins s σ H xs us Q I r h
  obtain ⟨v, d, rfl, hD, hn, hsh, hdp, hsz, q⟩ := h
  obtain ⟨u, rfl, ru⟩ := vals1 r
  obtain ⟨as, hr, hsm⟩ := DQ.reads I d v u hD ru
  have hsm' : d.hasDict = true → sysModules ∉ as := fun z => hsm (hn z)
  cases hr with
  | none => exact PySem.P.repr_of_none ⟨.str _, H, I.tok _, ⟨_, rfl⟩, q⟩
  | bool b => exact PySem.P.repr_of_bool ⟨.str _, H, I.tok _, ⟨_, rfl⟩, q⟩
  | int i t => exact PySem.P.repr_of_int (of_decide_eq_true hsh) ⟨.str _, H, I.tok _, ⟨_, rfl⟩, q⟩
  | str x t => exact PySem.P.repr_of_str ⟨.str _, H, I.tok _, ⟨_, rfl⟩, q⟩ hsz
  | list a1 a2 a3 a4 => exact repr_of_reads' (PySem.Reads.list a1 a2 a3 a4) hsh hsm' hg (by omega) (fun _ _ e => e) (fun h' u tk hk => ⟨.str _, H, I.kept hk, ⟨_, rfl⟩, q⟩) hsz
  | tuple a1 a2 a3 a4 => exact repr_of_reads' (PySem.Reads.tuple a1 a2 a3 a4) hsh hsm' hg (by omega) (fun _ _ e => e) (fun h' u tk hk => ⟨.str _, H, I.kept hk, ⟨_, rfl⟩, q⟩) hsz
  | dict a1 a2 a3 a4 a5 => exact repr_of_reads' (PySem.Reads.dict a1 a2 a3 a4 a5) hsh hsm' hg (by omega) (fun _ _ e => e) (fun h' u tk hk => ⟨.str _, H, I.kept hk, ⟨_, rfl⟩, q⟩) hsz
def lenT (n : Nat) (t : TS) : TS := fun D σ H => σ.length = n → t D σ H
theorem pss_len {X : Cx} {sts : List Stmt} {t : TS} {n : Nat} (h : PSs X sts t) (hn : X.N.length = n) : PSs X sts (lenT n t) := ⟨fun pins s σ H D I q => h.run pins s σ H D I (q (I.len.trans hn))⟩
def tsNo : SuiteT := fun _ _ _ => tNever
/-- data that repr tells -/
structure Shows (K : PySem.W.Frag) (H : Hp) (v : V) (d : PyData) : Prop where
  dq : DQ K H v d
  nl : d.hasDict = true → noList d = true
  sh : d.showable = true
  dp : d.depth ≤ 8
  sz : d.shown.length ≤ sizeLine
theorem Shows.to {K : PySem.W.Frag} {H H' : Hp} {v : V} {d : PyData} (h : Shows K H v d) (s : Same H H') : Shows K H' v d := ⟨h.dq.to s, h.nl, h.sh, h.dp, h.sz⟩
end K1
/-! what the top has written -/
namespace K1
open PySem L2
def tabL : List (Nat × Str × List Str) := [(6, (("does_hold" : Str), [("kind" : Str)])),
  (12, (("written_end" : Str), [("text" : Str), ("at" : Str)])),
  (13, (("number_end" : Str), [("text" : Str), ("at" : Str)])),
  (14, (("_positive_end" : Str), [("text" : Str), ("at" : Str)])),
  (15, (("_stands" : Str), [("text" : Str), ("at" : Str), ("signs" : Str)])),
  (18, (("nested" : Str), [("paths" : Str), ("heads" : Str)])),
  (19, (("_in_order" : Str), [("parts" : Str)])),
  (20, (("_head" : Str), [("text" : Str), ("at" : Str)])),
  (21, (("_bracket" : Str), [("text" : Str), ("at" : Str)])),
  (23, (("read_shape" : Str), [("text" : Str)])),
  (24, (("meant_lets" : Str), [("text" : Str)])),
  (25, (("_meant" : Str), [("scan" : Str)])),
  (26, (("_nearest" : Str), [("scan" : Str)])),
  (28, (("_law_pool" : Str), [("_law_script" : Str), ("_law_k" : Str)])),
  (29, (("_law_take" : Str), [("_law_pool_here" : Str), ("_law_bound" : Str)])),
  (30, (("_law_one" : Str), [("_law_pool_here" : Str), ("_law_things" : Str)])),
  (31, (("_law_item" : Str), [("_law_pool_here" : Str), ("_law_deep" : Str), ("_law_names" : Str)])),
  (32, (("_law_program" : Str), [("_law_pool_here" : Str), ("_law_names" : Str)])),
  (33, (("_law_word" : Str), [("_law_item_here" : Str)])),
  (34, (("_law_text" : Str), [("_law_program_here" : Str)])),
  (35, (("_law_rows" : Str), [("_law_items" : Str), ("_law_path" : Str)])),
  (36, (("_law_meant" : Str), [("_law_rows_here" : Str), ("_law_path" : Str), ("_law_name" : Str)])),
  (37, (("_law_healed" : Str), [("_law_pool_here" : Str), ("_law_rows_here" : Str), ("_law_items" : Str), ("_law_path" : Str)])),
  (38, (("_law_shape" : Str), [("_law_rows_here" : Str), ("_law_items" : Str), ("_law_path" : Str)])),
  (39, (("_law_told" : Str), [("_law_function" : Str), ("_law_text_here" : Str)])),
  (40, (("_law_first" : Str), [("_law_rows_here" : Str), ("_law_items" : Str), ("_law_path" : Str), ("_law_first_here" : Str)])),
  (41, (("law" : Str), [("_law_script" : Str)]))]

/-- the module's constants -/
structure Cn (K : PySem.W.Frag) (mg : Str → Option Value) : Prop where
  hol : ∃ a, mg "_HOLDERS" = some (.ref a) ∧ ∀ H, SqT K H a [.str "block", .str "let", .str "sum", .str "product"]
  let_ : ∃ t, mg "_LETTERS" = some (.str "abcdefghijklmnopqrstuvwxyz" t)
  fig : ∃ t, mg "_FIGURES" = some (.str "0123456789" t)
  ffig : ∃ t, mg "_FIRST_FIGURES" = some (.str "123456789" t)
  most : ∃ t, mg "_MOST_LETTERS" = some (.int 4 t)
/-- all that the top has written -/
structure All (K : PySem.W.Frag) (mg : Str → Option Value) : Prop where
  dn : ∀ i x ps, tabL.lookup i = some (x, ps) → ∃ g fd, Dn K mg x ps (top i) g fd
  bi : Bi mg
  cn : Cn K mg
/-- a def that keeps a promise, called by its name -/
def Cl (P : Program) (w : World) (K : PySem.W.Frag) (mg : Str → Option Value) (base : Heap) (k : Nat) (x : Str) (ps : List Str) (sp : Sp) : Prop :=
  ∃ g fd, FnOk P w K mg base CX0 k g fd ps sp ∧ mg x = some (.ref g) ∧ PySem.W.keepIn K (.ref g) = true ∧ Binds K fd ps []
theorem Dn.cl {P : Program} {w : World} {K : PySem.W.Frag} {mg : Str → Option Value} {base : Heap} {k : Nat} {x : Str} {ps : List Str} {st : Stmt} {g : Addr} {fd : FuncData} {sp : Sp} (D : Dn K mg x ps st g fd) (F : FnOk P w K mg base CX0 k g fd ps sp) : Cl P w K mg base k x ps sp :=
  ⟨g, fd, F, D.mg, D.fn.kp, D.bn⟩
theorem pe_cl {X : Cx} {k m : Nat} {x : Str} {ps : List Str} {sp : Sp} {e : Expr} {es : List Expr} {t : TA} {p pos : Pos} (C : Cl X.prog X.w X.K X.mg X.base k x ps sp) (hr : Room m X.A) (hk : k ≤ m) (ha : PA X (e :: es) t) (hg : Gl X x := by rfl) (hdb : (x == ("__debug__" : Str)) = false := by decide)
    (he : starEach (e :: es) X.env = (false, eval e X.env) :: starEach es X.env := by rfl) (hpl : (backTo pos (starEach es X.env)).any (·.1) = false := by rfl) : PE X (.Call (.Name x p) (e :: es) [] pos) (tCall sp [] E0 t) := by
  obtain ⟨g, fd, F, hm, hk', hb⟩ := C
  exact pe_call F (hr.mono hk) hg hm hk' hb .nil pass0 ha hdb he hpl
section
variable {P : Program} {w : World} {K : PySem.W.Frag} {mg : Str → Option Value} {base : Heap}
end
end K1
/-! the law's drawing -/
namespace K1
open PySem L2
/-- a drawing source at p: two ints, the second one in its range -/
def Src (H : Hp) (p : Addr) : Prop := ∃ a b : Int, H p = some (.lst [.int a, .int b]) ∧ 0 ≤ b ∧ b < 2147483647
def spPool (K : PySem.W.Frag) : Sp := fun vs H Q _ => ∃ (a : Addr) (ns : List Int) (j : Nat), vs = [.ref a, .int (j : Int)] ∧ j ≤ 3 ∧ SqL K H a (ns.map V.int) ∧ ∀ (p : Addr) (A B : Int), H p = none → 0 ≤ B → B < 2147483647 → Q (.ref p) (upd H p (.lst [.int A, .int B]))
def spTake : Sp := fun vs H Q _ => ∃ (p : Addr) (t a b : Int), vs = [.ref p, .int t] ∧ H p = some (.lst [.int a, .int b]) ∧ 0 ≤ b ∧ b < 2147483647 ∧ 0 < t ∧ t.natAbs < 2 ^ 100 ∧
  ∀ r a' b' : Int, 0 ≤ r → r < t → 0 ≤ b' → b' < 2147483647 → Q (.int r) (upd H p (.lst [.int a', .int b']))
structure Nms (mg : Str → Option Value) : Prop where
  len : mg "len" = none
  max : mg "max" = none
  int : mg "int" = none
section
variable {P : Program} {w : World} {K : PySem.W.Frag} {mg : Str → Option Value} {base : Heap}
theorem sc_pool : FnScope ["_law_script", "_law_k", "_law_cell", "_law_big", "_law_mixed"] ["_law_script", "_law_k"] (defScope (top 28)) := ⟨rfl, rfl, rfl, by decide +kernel, rfl, by decide +kernel, by decide +kernel⟩
theorem cl_pool (TT : All K mg) (T : Nms mg) : Cl P w K mg base 1 "_law_pool" ["_law_script", "_law_k"] (spPool K) := by
  obtain ⟨g, fd, D⟩ := TT.dn 28 _ _ rfl
  refine D.cl (D.fn.ok sc_pool (fun vs H Q E h => ?_) (fun cdv A outer s H vs Q E hr h => ?_))
  · obtain ⟨a, ns, j, rfl, _⟩ := h
    rfl
  · obtain ⟨a, ns, j, rfl, hj, hS, k⟩ := h
    refine ⟨_, pss_cons (ps_set (i := 2) sc_pool.nd rfl (Or.inl rfl) pe_int)
      (pss_cons (ps_if (pt_cmpR op_lt (pv 1) (pe_callB call_len_seq (by rfl) T.len PySem.boot_len (pa_cons (pv 0) pa_nil)) (nomark _)) (pss_one (ps_set (i := 2) sc_pool.nd rfl (Or.inl rfl) (pe_ix ix_list (pv 0) (pv 1) (fun _ _ => rfl)))) pss_nil)
      (pss_cons (ps_set (i := 3) sc_pool.nd rfl (Or.inl rfl) (pe_callB (call_max2 rfl) (by rfl) T.max (by decide +kernel) (pa_cons (pe_callTy call_int1 (by rfl) T.int (by decide +kernel) (pa_cons (pv 2) pa_nil)) (pa_cons (pe_callTy call_int1 (by rfl) T.int (by decide +kernel) (pa_cons (pe_op op_sub (pe_un un_neg pe_int) (pv 2)) pa_nil)) pa_nil))))
      (pss_cons (ps_set (i := 4) sc_pool.nd rfl (Or.inl rfl) (pe_op op_modN (pe_callTy call_int1 (by rfl) T.int (by decide +kernel) (pa_cons (pe_op op_mul (pe_op op_add (pe_op op_add (pe_op op_add (pe_op op_modN (pe_callTy call_int1 (by rfl) T.int (by decide +kernel) (pa_cons (pv 3) pa_nil)) pe_int) (pe_op op_mul (pe_op op_mul pe_int (pv 1)) (pv 1))) (pe_op op_mul pe_int (pv 1))) pe_int) pe_int) pa_nil)) pe_int))
      (pss_one (ps_ret (pe_lst (pa_cons (pe_op op_mul (pv 3) (pe_callTy call_int1 (by rfl) T.int (by decide +kernel) (pa_cons (pe_cmpR op_ge (pv 3) (pe_op op_pow pe_int pe_int) (nomark _)) pa_nil))) (pa_cons (pv 4) pa_nil)))))))), ?_⟩
    refine ⟨_, rfl, _, rfl, a, _, rfl, .inl hS, _, _, rfl, rfl, _, rfl, ?_⟩
    have low : ∀ n : Int, ∃ m : Int, ∀ j' : Nat, j' ≤ 2 → True := fun _ => ⟨0, fun _ _ => trivial⟩
    refine ite2 (fun hlt => ?_) (fun hge => ?_)
    · obtain ⟨n, hn⟩ : ∃ n, ns[j]? = some n := by
        have h1 : j < ns.length := by
          rw [List.length_map] at hlt
          have := of_decide_eq_true hlt
          omega
        exact ⟨ns[j], List.getElem?_eq_getElem h1⟩
      have hn' : (ns.map V.int)[j]? = some (V.int n) := by
        rw [List.getElem?_map, hn]
        rfl
      refine ⟨_, rfl, _, rfl, a, _, _, V.int n, rfl, rfl, hS, atI_nat hn', ?_⟩
      obtain rfl | rfl | rfl | rfl : j = 0 ∨ j = 1 ∨ j = 2 ∨ j = 3 := by omega
      all_goals
        refine ⟨_, rfl, .inl ⟨_, rfl, _, rfl, _, rfl, _, _, rfl, rfl, .inl ⟨_, rfl, _, _, rfl, ?_⟩⟩⟩
        refine ⟨_, rfl, .inl ⟨_, rfl, _, _, rfl, rfl, (by show (2147483629 : Int) ≠ 0; decide), _, rfl, _, _, rfl, rfl, .inl ⟨by decide, by decide⟩, _, rfl, _, _, rfl, rfl, .inl ⟨by decide, by decide⟩, _, _, rfl, rfl, _, rfl, _, _, rfl, rfl, .inl ⟨by decide, by decide⟩, _, _, rfl, rfl, _, _, rfl, rfl, _, _, rfl, rfl, .inr ⟨by decide, by decide⟩, .inl ⟨_, rfl, _, _, rfl, rfl, (by show (2147483647 : Int) ≠ 0; decide), ?_⟩⟩⟩
        refine ⟨_, rfl, _, rfl, _, _, rfl, rfl, ⟨by decide, by decide, by decide⟩, _, _, rfl, rfl, .inr ⟨_, rfl, _, _, rfl, rfl, .inr (K0.b01 _), _, rfl, (by show 2 ≤ sizeLine; decide), fun l hl => k l _ _ hl (K0.fmod_nn _ (by decide)) (K0.fmod_lt _ (by decide))⟩⟩
    · obtain rfl | rfl | rfl | rfl : j = 0 ∨ j = 1 ∨ j = 2 ∨ j = 3 := by omega
      all_goals
        refine ⟨_, rfl, .inl ⟨_, rfl, _, rfl, _, rfl, _, _, rfl, rfl, .inl ⟨_, rfl, _, _, rfl, ?_⟩⟩⟩
        refine ⟨_, rfl, .inl ⟨_, rfl, _, _, rfl, rfl, (by show (2147483629 : Int) ≠ 0; decide), _, rfl, _, _, rfl, rfl, .inl ⟨by decide, by decide⟩, _, rfl, _, _, rfl, rfl, .inl ⟨by decide, by decide⟩, _, _, rfl, rfl, _, rfl, _, _, rfl, rfl, .inl ⟨by decide, by decide⟩, _, _, rfl, rfl, _, _, rfl, rfl, _, _, rfl, rfl, .inr ⟨by decide, by decide⟩, .inl ⟨_, rfl, _, _, rfl, rfl, (by show (2147483647 : Int) ≠ 0; decide), ?_⟩⟩⟩
        refine ⟨_, rfl, _, rfl, _, _, rfl, rfl, ⟨by decide, by decide, by decide⟩, _, _, rfl, rfl, .inr ⟨_, rfl, _, _, rfl, rfl, .inr (K0.b01 _), _, rfl, (by show 2 ≤ sizeLine; decide), fun l hl => k l _ _ hl (K0.fmod_nn _ (by decide)) (K0.fmod_lt _ (by decide))⟩⟩
theorem sc_take : FnScope ["_law_pool_here", "_law_bound", "_law_result"] ["_law_pool_here", "_law_bound"] (defScope (top 29)) := ⟨rfl, rfl, rfl, by decide +kernel, rfl, by decide +kernel, by decide +kernel⟩
theorem cl_take (TT : All K mg) (T : Nms mg) : Cl P w K mg base 1 "_law_take" ["_law_pool_here", "_law_bound"] spTake := by
  obtain ⟨g, fd, D⟩ := TT.dn 29 _ _ rfl
  refine D.cl (D.fn.ok sc_take (fun vs H Q E h => ?_) (fun cdv A outer s H vs Q E hr h => ?_))
  · obtain ⟨p, t, a, b, rfl, _⟩ := h
    rfl
  · obtain ⟨p, t, a, b, rfl, hp, b0, b1, t0, t1, k⟩ := h
    refine ⟨_, pss_cons (ps_if (pt_cmpR op_gt (pe_ix ix_list (pv 0) pe_int (fun _ _ => rfl)) pe_int (nomark _))
        (pss_cons (ps_set (i := 2) sc_take.nd rfl (Or.inl rfl) (pe_op op_modN (pe_callTy call_int1 (by rfl) T.int (by decide +kernel) (pa_cons (pe_ix ix_list (pv 0) pe_int (fun _ _ => rfl)) pa_nil)) (pv 1)))
        (pss_cons (ps_asg (pe_op op_fdivW (pe_ix ix_list (pv 0) pe_int (fun _ _ => rfl)) (pv 1)) (pg_sub (pv 0) pe_int set_list))
        (pss_one (ps_ret (pv 2))))) pss_nil)
      (pss_cons (ps_asg (pe_op op_modN (pe_callTy call_int1 (by rfl) T.int (by decide +kernel) (pa_cons (pe_op op_add (pe_op op_mul (pe_ix ix_list (pv 0) pe_int (fun _ _ => rfl)) pe_int) pe_int) pa_nil)) pe_int) (pg_sub (pv 0) pe_int set_list))
      (pss_one (ps_ret (pe_op op_modN (pe_callTy call_int1 (by rfl) T.int (by decide +kernel) (pa_cons (pe_op op_fdiv (pe_op op_modN (pe_callTy call_int1 (by rfl) T.int (by decide +kernel) (pa_cons (pe_op op_mul (pe_ix ix_list (pv 0) pe_int (fun _ _ => rfl)) (pe_ix ix_list (pv 0) pe_int (fun _ _ => rfl))) pa_nil)) pe_int) pe_int) pa_nil)) (pv 1))))), ?_⟩
    refine ⟨_, rfl, p, _, _, .int a, rfl, rfl, SqL.of hp, atI_nat (j := 0) rfl, _, _, rfl, rfl, _, rfl, ?_⟩
    refine ite2 (fun hlt => ?_) (fun hge => ?_)
    · refine ⟨_, rfl, p, _, _, .int a, rfl, rfl, SqL.of hp, atI_nat (j := 0) rfl, .inl ⟨_, rfl, _, rfl, _, _, rfl, rfl, (by omega), ?_⟩⟩
      refine ⟨_, rfl, p, _, _, .int a, rfl, rfl, SqL.of hp, atI_nat (j := 0) rfl, _, rfl, _, _, rfl, rfl, wide_div t0 t1 (by decide) (by decide), _, rfl, p, _, _, 0, rfl, rfl, hp, rfl, ?_⟩
      exact ⟨_, rfl, k _ _ _ (K0.fmod_nn _ t0) (K0.fmod_lt _ t0) b0 b1⟩
    · refine ⟨_, rfl, p, _, _, .int b, rfl, rfl, SqL.of hp, atI_nat (j := 1) rfl, _, _, rfl, rfl, .inr ⟨by decide, by decide⟩, _, _, rfl, rfl, .inl ⟨_, rfl, _, _, rfl, rfl, (by show (2147483647 : Int) ≠ 0; decide), _, rfl, p, _, _, 1, rfl, rfl, hp, rfl, ?_⟩⟩
      have c0 := K0.fmod_nn (b * 39373 + 7) (b := 2147483647) (by decide)
      have c1 := K0.fmod_lt (b * 39373 + 7) (b := 2147483647) (by decide)
      refine ⟨_, rfl, p, _, _, _, rfl, rfl, SqL.of upd_same, atI_nat (j := 1) rfl, _, rfl, p, _, _, _, rfl, rfl, SqL.of upd_same, atI_nat (j := 1) rfl, _, _, rfl, rfl, .inl ⟨by omega, by omega⟩, .inl ⟨_, rfl, _, _, rfl, rfl, (by show (2147483629 : Int) ≠ 0; decide), _, _, rfl, rfl, ⟨by decide, by decide⟩, .inl ⟨_, rfl, _, rfl, _, _, rfl, rfl, (by omega), ?_⟩⟩⟩
      exact k _ _ _ (K0.fmod_nn _ t0) (K0.fmod_lt _ t0) c0 c1
end
/-- all but the source -/
def hid (p : Addr) (H : Hp) : Hp := fun b => if b = p then none else H b
theorem hid_ne {p b : Addr} {H : Hp} (h : b ≠ p) : hid p H b = H b := if_neg h
theorem hid_at {p b : Addr} {H : Hp} {u : HO} (h : hid p H b = some u) : b ≠ p ∧ H b = some u := by
  unfold hid at h
  by_cases e : b = p
  · rw [if_pos e] at h
    cases h
  · rw [if_neg e] at h
    exact ⟨e, h⟩
theorem hid_same (p : Addr) (H : Hp) : Same (hid p H) H := fun b u e => (hid_at e).2
/-- drawn from the source at p; all else stands -/
structure Bt (p : Addr) (H H' : Hp) : Prop where
  same : Same (hid p H) (hid p H')
  src : Src H' p
theorem Bt.refl {p : Addr} {H : Hp} (h : Src H p) : Bt p H H := ⟨Same.refl _, h⟩
theorem Bt.trans {p : Addr} {H H1 H2 : Hp} (a : Bt p H H1) (b : Bt p H1 H2) : Bt p H H2 := ⟨a.same.trans b.same, b.src⟩
theorem Bt.at {p b : Addr} {H H' : Hp} {u : HO} (h : Bt p H H') (n : b ≠ p) (e : H b = some u) : H' b = some u := (hid_at (h.same b u (by rw [hid_ne n]; exact e))).2
/-- something new beside the source -/
theorem Bt.new {p q : Addr} {H H' : Hp} {o : HO} (h : Bt p H H') (n : H' q = none) : Bt p H (upd H' q o) := by
  obtain ⟨a, b, e, r⟩ := h.src
  have nq : p ≠ q := ne_of_none e n
  refine ⟨h.same.trans fun c u hc => ?_, a, b, by rw [upd_ne nq]; exact e, r⟩
  obtain ⟨c1, c2⟩ := hid_at hc
  rw [hid_ne c1, upd_ne (ne_of_none c2 n)]
  exact c2
theorem Bt.put {p : Addr} {H H' : Hp} (h : Bt p H H') {a b : Int} (b0 : 0 ≤ b) (b1 : b < 2147483647) : Bt p H (upd H' p (.lst [.int a, .int b])) := by
  refine ⟨h.same.trans fun c u hc => ?_, a, b, upd_same, b0, b1⟩
  obtain ⟨c1, c2⟩ := hid_at hc
  rw [hid_ne c1, upd_ne c1]
  exact c2
/-- what is grown, nothing else being changed -/
theorem Bt.grow {p : Addr} {H H1 H2 : Hp} (h : Bt p H H1) (s : Same H1 H2) : Bt p H H2 := by
  obtain ⟨a, b, e, r⟩ := h.src
  refine ⟨h.same.trans fun c u hc => ?_, a, b, s _ _ e, r⟩
  obtain ⟨c1, c2⟩ := hid_at hc
  rw [hid_ne c1]
  exact s _ _ c2
/-- .. of the draws -/
def spTakeB : Sp := fun vs H Q _ => ∃ (p : Addr) (t : Int), vs = [.ref p, .int t] ∧ Src H p ∧ 0 < t ∧ t.natAbs < 2 ^ 100 ∧ ∀ (r : Int) H', 0 ≤ r → r < t → Bt p H H' → Q (.int r) H'
def spOne (K : PySem.W.Frag) : Sp := fun vs H Q _ => ∃ (p l : Addr) (us : List V) (ds : List PyData), vs = [.ref p, .ref l] ∧ Src H p ∧ SqL K (hid p H) l us ∧ DQs K (hid p H) us ds ∧ 0 < ds.length ∧ ds.length < 2 ^ 60 ∧
  ∀ H' u d, d ∈ ds → Bt p H H' → DQ K (hid p H') u d → Q u H'
section
variable {P : Program} {w : World} {K : PySem.W.Frag} {mg : Str → Option Value} {base : Heap}
theorem cl_takeB (TT : All K mg) (T : Nms mg) : Cl P w K mg base 1 "_law_take" ["_law_pool_here", "_law_bound"] spTakeB := by
  obtain ⟨g, fd, F, h⟩ := cl_take (P := P) (w := w) (base := base) TT T
  refine ⟨g, fd, F.imp fun vs H Q E q => ?_, h⟩
  obtain ⟨p, t, e, ⟨a, b, hp, b0, b1⟩, t0, t1, k⟩ := q
  exact ⟨p, t, a, b, e, hp, b0, b1, t0, t1, fun r a' b' r0 r1 c0 c1 => k r _ r0 r1 ((Bt.refl ⟨a, b, hp, b0, b1⟩).put c0 c1)⟩
theorem sc_one : FnScope ["_law_pool_here", "_law_things"] ["_law_pool_here", "_law_things"] (defScope (top 30)) := ⟨rfl, rfl, rfl, by decide +kernel, rfl, by decide +kernel, by decide +kernel⟩
theorem cl_one (TT : All K mg) (T : Nms mg) : Cl P w K mg base 2 "_law_one" ["_law_pool_here", "_law_things"] (spOne K) := by
  obtain ⟨g, fd, D⟩ := TT.dn 30 _ _ rfl
  refine D.cl (D.fn.ok sc_one (fun vs H Q E h => ?_) (fun cdv A outer s H vs Q E hr h => ?_))
  · obtain ⟨p, l, us, ds, rfl, _⟩ := h
    rfl
  · obtain ⟨p, l, us, ds, rfl, hsrc, hl, hd, h0, h1, k⟩ := h
    refine ⟨_, pss_one (ps_ret (pe_ix ix_list (pv 1) (pe_cl (cl_takeB TT T) hr (by decide) (pa_cons (pv 0) (pa_cons (pe_callB call_len_seq (by rfl) T.len PySem.boot_len (pa_cons (pv 1) pa_nil)) pa_nil))) (fun _ _ => rfl))), ?_⟩
    have hlen := hd.len
    refine ⟨_, rfl, _, rfl, _, rfl, l, us, rfl, .inl ((hid_same p H).seq hl), p, _, rfl, hsrc, by omega, by omega, fun r H' r0 r1 bt => ?_⟩
    obtain ⟨i, rfl⟩ : ∃ i : Nat, r = (i : Int) := ⟨r.toNat, by omega⟩
    have hi : i < ds.length := by omega
    obtain ⟨u, hu, hq⟩ := hd.get (i := i) (List.getElem?_eq_getElem hi)
    exact ⟨l, us, _, u, rfl, rfl, (hid_same p H').seq (bt.same.seq hl), atI_nat hu, k H' u _ (List.getElem_mem hi) bt (hq.to bt.same)⟩
end
theorem Dn.clG {P : Program} {w : World} {K : PySem.W.Frag} {mg : Str → Option Value} {base : Heap} {k : Nat} {x : Str} {ps : List Str} {st : Stmt} {g : Addr} {fd : FuncData} {sp : Sp} (D : Dn K mg x ps st g fd) (F : FnG P w K mg base k g fd ps sp) : ClG P w K mg base k x ps sp :=
  ⟨g, fd, F, D.mg, D.fn.kp, D.bn⟩
/-- what has come since -/
def nw (H H' : Hp) : Hp := fun b => match H b with
  | none => H' b
  | some _ => none
theorem nw_at {H H' : Hp} {b : Addr} {u : HO} (h : nw H H' b = some u) : H b = none ∧ H' b = some u := by
  unfold nw at h
  cases e : H b with
  | none =>
    rw [e] at h
    exact ⟨rfl, h⟩
  | some x =>
    rw [e] at h
    cases h
theorem nw_of {H H' : Hp} {b : Addr} {u : HO} (n : H b = none) (h : H' b = some u) : nw H H' b = some u := by
  unfold nw
  rw [n]
  exact h
theorem nw_in (H H' : Hp) : Same (nw H H') H' := fun b u e => (nw_at e).2
theorem nw_more {H H1 H2 : Hp} (s : Same H1 H2) : Same (nw H H1) (nw H H2) := fun b u e => nw_of (nw_at e).1 (s _ _ (nw_at e).2)
theorem old_none {H H1 : Hp} {b : Addr} (s : Same H H1) (n : H1 b = none) : H b = none := by
  cases e : H b with
  | none => rfl
  | some u =>
    rw [s b u e] at n
    cases n
theorem nw_less {H H1 H2 : Hp} (s : Same H H1) : Same (nw H1 H2) (nw H H2) := fun b u e => nw_of (old_none s (nw_at e).1) (nw_at e).2
theorem nw_hid {p : Addr} {H H' : Hp} (h : Src H p) : Same (nw H H') (hid p H') := fun b u e => by
  obtain ⟨x, y, z, _⟩ := h
  rw [hid_ne (Ne.symm (ne_of_none z (nw_at e).1))]
  exact (nw_at e).2
def tLit (K : PySem.W.Frag) (d : PyData) : TE := fun _ H Q => ∀ H' v, Same H H' → DQ K (nw H H') v d → Q v H'
def tLits (K : PySem.W.Frag) (ds : List PyData) : TA := fun _ H Q => ∀ H' vs, Same H H' → DQs K (nw H H') vs ds → Q vs H'
theorem DQs.to {K : PySem.W.Frag} {H H' : Hp} {vs : List V} {ds : List PyData} (h : DQs K H vs ds) (s : Same H H') : DQs K H' vs ds := DQs.same s ds vs h
/-- a list that is tracked, of written data -/
def tLstL (K : PySem.W.Frag) (ds : List PyData) : TE := fun _ H Q => ∀ H' p vs, Same H H' → H p = none → H' p = some (.lst vs) → DQs K (nw H H') vs ds → Q (.ref p) H'
section
variable {X : Cx}
theorem li_non {j pos} : PE X (.Constant .none j pos) (tLit X.K .none) := K0.pe_imp pe_non fun σ H Q q => q H _ (Same.refl _) .non
theorem li_bl {b j pos} : PE X (.Constant (.bool b) j pos) (tLit X.K (.bool b)) := K0.pe_imp pe_bl fun σ H Q q => q H _ (Same.refl _) (.bl b)
theorem li_int {i j pos} : PE X (.Constant (.int i) j pos) (tLit X.K (.int i)) := K0.pe_imp pe_int fun σ H Q q => q H _ (Same.refl _) (.int i)
theorem li_neg {i j p1 pos} : PE X (.UnaryOp .USub (.Constant (.int i) j p1) pos) (tLit X.K (.int (-i))) := K0.pe_imp (pe_un un_neg pe_int) fun σ H Q q => ⟨i, rfl, q H _ (Same.refl _) (.int _)⟩
theorem li_str {x j pos} (h : x.length ≤ 1000) : PE X (.Constant (.str x) j pos) (tLit X.K (.str x)) := K0.pe_imp pe_str fun σ H Q q => q H _ (Same.refl _) (.str x h)
theorem li_dct {pos} : PE X (.Dict [] [] pos) (tLit X.K (.dict [])) := K0.pe_imp pe_dnewK fun σ H Q q p np => q _ _ (K0.same_upd np) (.dct (nw_of np upd_same))
theorem las_nil : PA X [] (tLits X.K []) := K0.pa_imp pa_nil fun σ H Q q => q H [] (Same.refl _) .nil
theorem las_cons {e : Expr} {es : List Expr} {d : PyData} {ds : List PyData} (h : PE X e (tLit X.K d)) (hs : PA X es (tLits X.K ds)) (he : starEach (e :: es) X.env = (false, eval e X.env) :: starEach es X.env := by rfl) : PA X (e :: es) (tLits X.K (d :: ds)) :=
  K0.pa_imp (pa_cons h hs he) fun σ H Q q H1 v S1 h1 H2 vs S2 h2 => q H2 (v :: vs) (S1.trans S2) (.cons (h1.to (nw_more S2)) (h2.to (nw_less S1)))
theorem li_tup {es : List Expr} {ds : List PyData} {x1 pos} (h : PA X es (tLits X.K ds)) (hl : ds.length ≤ 1000) : PE X (.Tuple es x1 pos) (tLit X.K (.tuple ds)) :=
  K0.pe_imp (pe_tup h) fun σ H Q q H1 vs S1 h1 => ⟨by rw [h1.len, sizeLine_eq]; omega, fun p np => q _ _ (S1.trans (K0.same_upd np)) (.tup (.inl (.inl (nw_of (old_none S1 np) upd_same))) (h1.to (nw_more (K0.same_upd np))))⟩
theorem li_lst {es : List Expr} {ds : List PyData} {pos} (h : PA X es (tLits X.K ds)) (hl : ds.length ≤ 1000) : PE X (.List es pos) (tLit X.K (.list ds)) :=
  K0.pe_imp (pe_lst h) fun σ H Q q H1 vs S1 h1 => ⟨by rw [h1.len, sizeLine_eq]; omega, fun p np => q _ _ (S1.trans (K0.same_upd np)) (.lst (SqL.of (nw_of (old_none S1 np) upd_same)) (h1.to (nw_more (K0.same_upd np))))⟩
theorem li_list {es : List Expr} {ds : List PyData} {pos} (h : PA X es (tLits X.K ds)) (hl : ds.length ≤ 1000) : PE X (.List es pos) (tLstL X.K ds) :=
  K0.pe_imp (pe_lst h) fun σ H Q q H1 vs S1 h1 => ⟨by rw [h1.len, sizeLine_eq]; omega, fun p np => q _ p vs (S1.trans (K0.same_upd np)) (old_none S1 np) upd_same (h1.to (nw_more (K0.same_upd np)))⟩
end
theorem DQs.app {K : PySem.W.Frag} {H : Hp} : ∀ {vs us : List V} {ds es : List PyData}, DQs K H vs ds → DQs K H us es → DQs K H (vs ++ us) (ds ++ es)
  | _, _, _, _, .nil, k => k
  | _, _, _, _, .cons r t, k => .cons r (t.app k)
def cutD (ds : List PyData) (lo hi : Option Int) : List PyData := (ds.drop (HT.sIx ds.length 0 lo)).take (HT.sIx ds.length ds.length hi - HT.sIx ds.length 0 lo)
theorem DQs.drop {K : PySem.W.Frag} {H : Hp} : ∀ (n : Nat) {vs : List V} {ds : List PyData}, DQs K H vs ds → DQs K H (vs.drop n) (ds.drop n)
  | 0, _, _, h => h
  | n + 1, _, _, .nil => .nil
  | n + 1, _, _, .cons _ t => t.drop n
theorem DQs.take {K : PySem.W.Frag} {H : Hp} : ∀ (n : Nat) {vs : List V} {ds : List PyData}, DQs K H vs ds → DQs K H (vs.take n) (ds.take n)
  | 0, _, _, _ => .nil
  | n + 1, _, _, .nil => .nil
  | n + 1, _, _, .cons r t => .cons r (t.take n)
theorem hid_none {p q : Addr} {H : Hp} (n : H q = none) : hid p H q = none := by
  unfold hid
  by_cases e : q = p
  · rw [if_pos e]
  · rw [if_neg e]
    exact n
/-- small data: nested k deep at most, of weight W at most -/
structure Nice (k W : Nat) (d : PyData) : Prop where
  sh : d.showable = true
  dp : d.depth ≤ k
  lv : d.leavesShort 13 = true
  wt : d.weight ≤ W
theorem Nice.mono {k k' W W' : Nat} {d : PyData} (h : Nice k W d) (a : k ≤ k') (b : W ≤ W') : Nice k' W' d := ⟨h.sh, Nat.le_trans h.dp a, h.lv, Nat.le_trans h.wt b⟩
theorem nice_all {k W : Nat} : ∀ {ds : List PyData}, (∀ d ∈ ds, Nice k W d) → PyData.showableAll ds = true ∧ PyData.depthAll ds ≤ k ∧ PyData.leavesShortAll 13 ds = true ∧ PyData.weightAll ds ≤ ds.length * (W + 1)
  | [], _ => ⟨rfl, Nat.zero_le _, rfl, by simp [PyData.weightAll]⟩
  | d :: ds, h => by
    obtain ⟨h1, h2, h3, h4⟩ := nice_all fun e he => h e (List.mem_cons_of_mem _ he)
    have g := h d List.mem_cons_self
    refine ⟨?_, ?_, ?_, ?_⟩
    · show (d.showable && PyData.showableAll ds) = true
      rw [g.sh, h1]
      rfl
    · show max d.depth (PyData.depthAll ds) ≤ k
      exact Nat.max_le.mpr ⟨g.dp, h2⟩
    · show (d.leavesShort 13 && PyData.leavesShortAll 13 ds) = true
      rw [g.lv, h3]
      rfl
    · show d.weight + 1 + PyData.weightAll ds ≤ (ds.length + 1) * (W + 1)
      rw [Nat.succ_mul]
      have := g.wt
      omega
theorem Nice.tuple {k W : Nat} {ds : List PyData} (h : ∀ d ∈ ds, Nice k W d) : Nice (k + 1) (ds.length * (W + 1)) (.tuple ds) := by
  obtain ⟨h1, h2, h3, h4⟩ := nice_all h
  exact ⟨h1, Nat.succ_le_succ h2, h3, h4⟩
theorem Nice.list {k W : Nat} {ds : List PyData} (h : ∀ d ∈ ds, Nice k W d) : Nice (k + 1) (ds.length * (W + 1)) (.list ds) := by
  obtain ⟨h1, h2, h3, h4⟩ := nice_all h
  exact ⟨h1, Nat.succ_le_succ h2, h3, h4⟩
theorem nice_int {i : Int} (h : i.natAbs < 10000) : Nice 0 14 (.int i) := by
  have lg : i.natAbs.log2 < 14 := by
    by_cases z : i.natAbs = 0
    · rw [z]
      decide
    · exact (Nat.log2_lt z).mpr (by omega)
  refine ⟨?_, Nat.zero_le _, ?_, ?_⟩
  · show decide (i.natAbs.log2 < 1920) = true
    exact decide_eq_true (by omega)
  · show decide ((PyData.shown (.int i)).length ≤ 13) = true
    have e := int_text_length_le10 (a := i) (k := 4) (by decide) h
    refine decide_eq_true ?_
    show (Str.ofString (toString i)).length ≤ 13
    rw [PySem.ofString_length]
    omega
  · show (if i == 0 then 0 else i.natAbs.log2 + 1) ≤ 14
    split <;> omega
theorem nice_none : Nice 0 0 .none := ⟨rfl, Nat.le_refl _, rfl, Nat.le_refl _⟩
theorem nice_str {x : Str} {n : Nat} (h : x.length ≤ n) (hc : x.cps.toList.all (fun c => decide (c < 16 ^ 8)) = true) : Nice 0 n (.str x) := ⟨rfl, Nat.le_refl _, hc, h⟩
theorem shows_of {K : PySem.W.Frag} {H : Hp} {v : V} {d : PyData} {k W : Nat} (h : DQ K H v d) (n : Nice k W d) (hk : k ≤ 8) (hW : W ≤ 2 ^ 20) (p : d.hasDict = true → noList d = true) : Shows K H v d :=
  ⟨h, p, n.sh, Nat.le_trans n.dp hk, PyData.shown_fits (B := 13) (by decide) (by decide) n.lv (Nat.le_trans n.wt hW)⟩
/-- neither dicts nor lists -/
def Pure (d : PyData) : Prop := d.hasDict = false ∧ noList d = true
theorem pure_all : ∀ {ds : List PyData}, (∀ d ∈ ds, Pure d) → PyData.hasDictAll ds = false ∧ noListAll ds = true
  | [], _ => ⟨rfl, rfl⟩
  | d :: ds, h => by
    obtain ⟨h1, h2⟩ := pure_all fun e he => h e (List.mem_cons_of_mem _ he)
    obtain ⟨g1, g2⟩ := h d List.mem_cons_self
    refine ⟨?_, ?_⟩
    · show (d.hasDict || PyData.hasDictAll ds) = false
      rw [g1, h1]
      rfl
    · show (noList d && noListAll ds) = true
      rw [g2, h2]
      rfl
theorem Pure.tuple {ds : List PyData} (h : ∀ d ∈ ds, Pure d) : Pure (.tuple ds) := pure_all h
theorem pure_int (i : Int) : Pure (.int i) := ⟨rfl, rfl⟩
theorem pure_str (x : Str) : Pure (.str x) := ⟨rfl, rfl⟩
theorem pure_none : Pure .none := ⟨rfl, rfl⟩
end K1
/-! texts and their items: data -/
namespace K1
open PySem
def isLet (c : Nat) : Bool := decide (97 ≤ c) && decide (c ≤ 122)
def isFig (c : Nat) : Bool := decide (48 ≤ c) && decide (c ≤ 57)
def isFst (c : Nat) : Bool := decide (49 ≤ c) && decide (c ≤ 57)
/-- does a sign of that kind begin it -/
def sgM (p : Nat → Bool) : List Nat → Bool
  | c :: _ => p c
  | [] => false
def pE (S : List Nat) : Nat := if sgM isFst S = true then (if sgM isFig (S.drop 1) = true then 2 else 1) else 0
/-- the letters ahead, n at most -/
def lE : Nat → List Nat → Nat
  | n + 1, c :: r => if isLet c = true then lE n r + 1 else 0
  | _, _ => 0
def wE (S : List Nat) : Nat := if lE 4 S = 0 then 0 else lE 4 S + pE (S.drop (lE 4 S))
def nE (S : List Nat) : Nat := if sgM (fun c => c == 48) S = true then 1 else pE S
/-- the number that figures tell -/
def numL (l : List Nat) : Int := l.foldl (fun (a : Int) (c : Nat) => 10 * a + ((c : Int) - 48)) 0
def sO (l : List Nat) : Str := ⟨l.toArray⟩
/-- the head behind a bracket, and how many signs it has, the bracket, too -/
def brM (S : List Nat) : List PyData × Nat :=
  if sgM (fun c => c == 43) S = true then ([.str "sum"], 2) else if sgM (fun c => c == 42) S = true then ([.str "product"], 2)
  else if 0 < wE S ∧ (S.drop (wE S)).take 2 = [32, 61] then ([.str "let", .str (sO (S.take (wE S)))], wE S + 3) else ([.str "block"], 1)
def hdM (S : List Nat) : Option (List PyData × Nat) :=
  if sgM (fun c => c == 40) S = true then some (brM (S.drop 1)) else if sgM (fun c => c == 63) S = true then some ([.str "lost"], 1)
  else if 0 < wE S then some ([.str "use", .str (sO (S.take (wE S)))], wE S) else if 0 < nE S then some ([.str "number", .int (numL (S.take (nE S)))], nE S) else none
def holdH : List PyData → Bool
  | .str x :: _ => x == "block" || x == "let" || x == "sum" || x == "product"
  | _ => false
/-- a scan -/
structure Sc where
  paths : List (List Int)
  heads : List (List PyData)
  firsts : List Int
  behinds : List Int
  pos : Nat
  around : List Nat
  counts : List Nat
def Sc.count (S : Sc) : Nat := S.counts.getLast?.getD 0
def Sc.holder (S : Sc) : List Int := match S.around.getLast? with
  | some i => S.paths.getD i []
  | none => []
def Sc.add (S : Sc) (h : List PyData) (n : Nat) : Sc :=
  { paths := S.paths ++ [S.holder ++ [(S.count : Int)]], heads := S.heads ++ [h], firsts := S.firsts ++ [(S.pos : Int)], behinds := S.behinds ++ [((S.pos + n : Nat) : Int)], pos := S.pos + n,
    around := if holdH h = true then S.around ++ [S.heads.length] else S.around,
    counts := if holdH h = true then (S.counts.dropLast ++ [S.count + 1]) ++ [0] else S.counts.dropLast ++ [S.count + 1] }
def Sc.close (S : Sc) : Sc :=
  { S with pos := S.pos + 1, behinds := S.behinds.set (S.around.getLast?.getD 0) ((S.pos + 1 : Nat) : Int), around := S.around.dropLast, counts := S.counts.dropLast }
def blkH : List PyData → Bool
  | [.str x] => x == "block"
  | _ => false
def Sc.newB (S : Sc) : Bool := S.count == 0 && (match S.around.getLast? with
  | some i => blkH (S.heads.getD i [])
  | none => false)
def beginS (T : List Nat) (S : Sc) : Nat ⊕ Sc := match hdM (T.drop S.pos) with
  | none => .inl S.pos
  | some (h, n) => .inr (S.add h n)
def stepS (T : List Nat) (S : Sc) : Nat ⊕ Sc :=
  if T.getD S.pos 0 = 41 ∧ S.around ≠ [] then .inr S.close
  else if S.newB = true then beginS T S
  else if T.getD S.pos 0 = 32 then beginS T { S with pos := S.pos + 1 }
  else .inl S.pos
inductive Runs (T : List Nat) : Nat → Sc → Nat ⊕ Sc → Prop
  | fin {S : Sc} (h : T.length ≤ S.pos) : Runs T 0 S (if S.around = [] then .inr S else .inl S.pos)
  | bad {S : Sc} {e : Nat} (h : S.pos < T.length) (hs : stepS T S = .inl e) : Runs T 0 S (.inl e)
  | go {S S' : Sc} {n : Nat} {r : Nat ⊕ Sc} (h : S.pos < T.length) (hs : stepS T S = .inr S') (ht : Runs T n S' r) : Runs T (n + 1) S r
def sc0 : Sc := ⟨[], [], [], [], 0, [], [0]⟩
/-- steps that lead from one scan to another one -/
inductive Steps (T : List Nat) : Sc → Sc → Prop
  | nil {S : Sc} : Steps T S S
  | cons {S S1 S2 : Sc} (h : S.pos < T.length) (hs : stepS T S = .inr S1) (ht : Steps T S1 S2) : Steps T S S2
theorem Steps.trans {T : List Nat} {S1 S2 S3 : Sc} (a : Steps T S1 S2) (b : Steps T S2 S3) : Steps T S1 S3 := by
  induction a with
  | nil => exact b
  | cons h hs _ ih => exact .cons h hs (ih b)
theorem Steps.runs {T : List Nat} {S1 S2 : Sc} {r : Nat ⊕ Sc} {n : Nat} (a : Steps T S1 S2) (b : Runs T n S2 r) : ∃ m, Runs T m S1 r := by
  induction a with
  | nil => exact ⟨n, b⟩
  | cons h hs _ ih =>
    obtain ⟨m, q⟩ := ih b
    exact ⟨m + 1, .go h hs q⟩
/-! ### items -/
inductive It
  | leaf (h : List PyData) (w : List Nat)
  | node (h : List PyData) (o : List Nat) (b : Bool) (l : List It)
mutual
def It.word : It → List Nat
  | .leaf _ w => w
  | .node _ o b l => o ++ ((if b = true then (gapped l).drop 1 else gapped l) ++ [41])
def gapped : List It → List Nat
  | [] => []
  | x :: r => 32 :: (x.word ++ gapped r)
end
mutual
def It.dat : It → PyData
  | .leaf h _ => .tuple h
  | .node h _ _ l => .tuple (h ++ [.tuple (datL l)])
def datL : List It → List PyData
  | [] => []
  | x :: r => x.dat :: datL r
end
mutual
/-- the rows of an item with that path, from a sign on -/
def It.rows (p : List Int) (at_ : Nat) : It → List (List Int × Int × Int)
  | .leaf _ w => [(p, (at_ : Int), ((at_ + w.length : Nat) : Int))]
  | .node h o b l => (p, (at_ : Int), ((at_ + (It.node h o b l).word.length : Nat) : Int)) :: rowsL p 0 (at_ + o.length + if b = true then 0 else 1) l
/-- .. of those in a holder, from the k-th on -/
def rowsL (p : List Int) (k : Nat) (at_ : Nat) : List It → List (List Int × Int × Int)
  | [] => []
  | x :: r => x.rows (p ++ [(k : Int)]) at_ ++ rowsL p (k + 1) (at_ + x.word.length + 1) r
end
mutual
def It.hds : It → List (List PyData)
  | .leaf h _ => [h]
  | .node h _ _ l => h :: hdsL l
def hdsL : List It → List (List PyData)
  | [] => []
  | x :: r => x.hds ++ hdsL r
end
/-- what stands behind an item -/
def Delim (rest : List Nat) : Prop := rest = [] ∨ (∃ r, rest = 32 :: r) ∨ ∃ r, rest = 41 :: r
/-- .. and does not make a let of the name ahead -/
def Delim2 (rest : List Nat) : Prop := (∃ c r, rest = 32 :: c :: r ∧ c ≠ 61) ∨ ∃ r, rest = 41 :: r
structure LeafOk (h : List PyData) (w : List Nat) : Prop where
  hd : ∀ rest, Delim rest → hdM (w ++ rest) = some (h, w.length)
  br : ∀ rest, Delim2 rest → brM (w ++ rest) = ([.str "block"], 1)
  no : holdH h = false
  st : ∃ c r, w = c :: r ∧ c ≠ 32 ∧ c ≠ 41 ∧ c ≠ 61
inductive NodeOk : List PyData → List Nat → Bool → Prop
  | block : NodeOk [.str "block"] [40] true
  | other {h : List PyData} {o : List Nat} (hd : ∀ rest, hdM (o ++ rest) = some (h, o.length)) (yes : holdH h = true) (nb : blkH h = false) (st : ∃ r, o = 40 :: r) : NodeOk h o false
inductive Gd : Nat → It → Prop
  | leaf {n : Nat} {h : List PyData} {w : List Nat} (k : LeafOk h w) : Gd n (.leaf h w)
  | node {n : Nat} {h : List PyData} {o : List Nat} {b : Bool} {l : List It} (k : NodeOk h o b) (hl : l.length ≤ 3) (hc : ∀ x ∈ l, Gd n x) : Gd (n + 1) (.node h o b l)
theorem NodeOk.yes {h : List PyData} {o : List Nat} {b : Bool} (k : NodeOk h o b) : holdH h = true := by
  cases k with
  | block => decide +kernel
  | other _ y _ _ => exact y
theorem NodeOk.st {h : List PyData} {o : List Nat} {b : Bool} (k : NodeOk h o b) : ∃ r, o = 40 :: r := by
  cases k with
  | block => exact ⟨[], rfl⟩
  | other _ _ _ s => exact s
theorem Gd.st {n : Nat} {x : It} (g : Gd n x) : ∃ c r, x.word = c :: r ∧ c ≠ 32 ∧ c ≠ 41 ∧ c ≠ 61 := by
  cases g with
  | leaf k => exact k.st
  | @node n h o b l k _ _ =>
    obtain ⟨r, rfl⟩ := k.st
    exact ⟨40, _, rfl, by decide, by decide, by decide⟩
/-- the first item of a block: its bracket is a block's -/
theorem br_word {n : Nat} {x : It} (g : Gd n x) {rest : List Nat} (d : Delim2 rest) : brM (x.word ++ rest) = ([.str "block"], 1) := by
  cases g with
  | leaf k => exact k.br rest d
  | @node n h o b l k _ _ =>
    obtain ⟨r, rfl⟩ := k.st
    rfl
theorem br_end (rest : List Nat) : brM (41 :: rest) = ([.str "block"], 1) := rfl
theorem drop_add {T w r : List Nat} {p : Nat} (h : T.drop p = w ++ r) : T.drop (p + w.length) = r := by
  rw [← List.drop_drop, h, List.drop_left]
theorem drop_get {T r : List Nat} {p c : Nat} (h : T.drop p = c :: r) : p < T.length ∧ T.getD p 0 = c ∧ T.drop (p + 1) = r := by
  have hl : p < T.length := by
    by_cases q : p < T.length
    · exact q
    · rw [List.drop_eq_nil_of_le (by omega)] at h
      cases h
  refine ⟨hl, ?_, ?_⟩
  · rw [List.drop_eq_getElem_cons hl] at h
    rw [List.getD_eq_getElem?_getD, List.getElem?_eq_getElem hl]
    exact (List.cons.inj h).1
  · rw [List.drop_eq_getElem_cons hl] at h
    exact (List.cons.inj h).2
structure Wf (S : Sc) : Prop where
  lp : S.paths.length = S.heads.length
  lf : S.firsts.length = S.heads.length
  lb : S.behinds.length = S.heads.length
  ne : S.counts ≠ []
  ar : ∀ i ∈ S.around, i < S.heads.length
/-- .. with these rows and heads more, all being closed again -/
def Sc.more (S : Sc) (rs : List (List Int × Int × Int)) (hs : List (List PyData)) (p k : Nat) : Sc :=
  { paths := S.paths ++ rs.map (·.1), heads := S.heads ++ hs, firsts := S.firsts ++ rs.map (·.2.1), behinds := S.behinds ++ rs.map (·.2.2), pos := p, around := S.around, counts := S.counts.dropLast ++ [S.count + k] }
theorem more_count (S : Sc) (rs : List (List Int × Int × Int)) (hs : List (List PyData)) (p k : Nat) : (S.more rs hs p k).count = S.count + k := by
  show ((S.counts.dropLast ++ [S.count + k]).getLast?).getD 0 = S.count + k
  rw [List.getLast?_append]
  rfl
theorem more_holder {S : Sc} (W : Wf S) (rs : List (List Int × Int × Int)) (hs : List (List PyData)) (p k : Nat) : (S.more rs hs p k).holder = S.holder := by
  show (match S.around.getLast? with | some i => (S.paths ++ rs.map (fun q : List Int × Int × Int => q.1)).getD i [] | none => []) = _
  unfold Sc.holder
  cases e : S.around.getLast? with
  | none => rfl
  | some i =>
    have hi := W.ar i (List.mem_of_getLast? e)
    show (S.paths ++ rs.map (fun q : List Int × Int × Int => q.1)).getD i [] = S.paths.getD i []
    rw [List.getD_eq_getElem?_getD, List.getD_eq_getElem?_getD, List.getElem?_append_left (by rw [W.lp]; exact hi)]
theorem more_newB {S : Sc} (W : Wf S) {rs : List (List Int × Int × Int)} {hs : List (List PyData)} {p k : Nat} (h : S.newB = false ∨ 0 < k) : (S.more rs hs p k).newB = false := by
  unfold Sc.newB
  rw [more_count]
  rcases h with h | h
  · unfold Sc.newB at h
    cases e : S.around.getLast? with
    | none =>
      show ((S.count + k == 0) && (match S.around.getLast? with | some i => blkH ((S.heads ++ hs).getD i []) | none => false)) = false
      rw [e]
      simp
    | some i =>
      have hi := W.ar i (List.mem_of_getLast? e)
      rw [e] at h
      show ((S.count + k == 0) && (match S.around.getLast? with | some i => blkH ((S.heads ++ hs).getD i []) | none => false)) = false
      rw [e]
      have z : (S.heads ++ hs).getD i [] = S.heads.getD i [] := by
        rw [List.getD_eq_getElem?_getD, List.getD_eq_getElem?_getD, List.getElem?_append_left hi]
      dsimp only at h ⊢
      rw [z]
      by_cases q : S.count = 0
      · rw [q] at h ⊢
        cases k with
        | zero => exact h
        | succ k => simp
      · have q' : (S.count + k == 0) = false := by simp; omega
        rw [q']
        rfl
  · have q' : (S.count + k == 0) = false := by simp; omega
    rw [q']
    rfl
theorem more_wf {S : Sc} (W : Wf S) {rs : List (List Int × Int × Int)} {hs : List (List PyData)} {p k : Nat} (h : rs.length = hs.length) : Wf (S.more rs hs p k) where
  lp := by show (S.paths ++ rs.map (·.1)).length = (S.heads ++ hs).length; rw [List.length_append, List.length_append, List.length_map, W.lp, h]
  lf := by show (S.firsts ++ rs.map (·.2.1)).length = (S.heads ++ hs).length; rw [List.length_append, List.length_append, List.length_map, W.lf, h]
  lb := by show (S.behinds ++ rs.map (·.2.2)).length = (S.heads ++ hs).length; rw [List.length_append, List.length_append, List.length_map, W.lb, h]
  ne := by show S.counts.dropLast ++ [S.count + k] ≠ []; simp
  ar := fun i hi => by
    show i < (S.heads ++ hs).length
    rw [List.length_append]
    have := W.ar i hi
    omega
theorem more_more {S : Sc} (rs rs' : List (List Int × Int × Int)) (hs hs' : List (List PyData)) (p p' k k' : Nat) : ((S.more rs hs p k).more rs' hs' p' k') = S.more (rs ++ rs') (hs ++ hs') p' (k + k') := by
  have c := more_count S rs hs p k
  unfold Sc.more at c ⊢
  simp only [List.map_append, List.append_assoc, List.dropLast_concat, c, Nat.add_assoc]
theorem more_nil {S : Sc} (W : Wf S) : S.more [] [] S.pos 0 = S := by
  have q : S.counts.dropLast ++ [S.count] = S.counts := by
    unfold Sc.count
    rw [List.getLast?_eq_some_getLast W.ne]
    exact List.dropLast_concat_getLast W.ne
  unfold Sc.more
  simp only [List.map_nil, List.append_nil, Nat.add_zero]
  rw [q]
mutual
theorem It.len_hds (p : List Int) (a : Nat) : ∀ x : It, (x.rows p a).length = x.hds.length
  | .leaf _ _ => by simp [It.rows, It.hds]
  | .node h o b l => by
    rw [It.rows, It.hds, List.length_cons, List.length_cons, len_hdsL]
theorem len_hdsL (p : List Int) (k a : Nat) : ∀ l : List It, (rowsL p k a l).length = (hdsL l).length
  | [] => by simp [rowsL, hdsL]
  | x :: r => by
    rw [rowsL, hdsL, List.length_append, List.length_append, It.len_hds, len_hdsL]
end
end K1
/-! a text of items is scanned as it was written -/
namespace K1
open PySem
theorem begin_of {T : List Nat} {S : Sc} {w r : List Nat} {h : List PyData} (hT : T.drop S.pos = w ++ r) (hh : hdM (w ++ r) = some (h, w.length)) : beginS T S = .inr (S.add h w.length) := by
  unfold beginS
  rw [hT, hh]
theorem gapped_delim (l : List It) {rest : List Nat} (d : Delim rest) : Delim (gapped l ++ rest) := by
  cases l with
  | nil => rw [gapped]; exact d
  | cons x r => exact .inr (.inl ⟨_, by rw [gapped]; rfl⟩)
theorem gapped_delim2 {n : Nat} (l : List It) (hl : ∀ x ∈ l, Gd n x) (rest : List Nat) : Delim2 (gapped l ++ 41 :: rest) := by
  cases l with
  | nil => exact .inr ⟨rest, by rw [gapped]; rfl⟩
  | cons x r =>
    obtain ⟨c, w, e, _, _, h⟩ := (hl x List.mem_cons_self).st
    refine .inl ⟨c, w ++ gapped r ++ 41 :: rest, ?_, h⟩
    rw [gapped, e]
    rfl
theorem add_leaf {S : Sc} {h : List PyData} {n : Nat} (hh : holdH h = false) : S.add h n = S.more [(S.holder ++ [(S.count : Int)], (S.pos : Int), ((S.pos + n : Nat) : Int))] [h] (S.pos + n) 1 := by
  unfold Sc.add Sc.more
  rw [hh]
  rfl
/-- behind the opening of a holder -/
theorem add_open {S : Sc} {h : List PyData} {n : Nat} (W : Wf S) (hh : holdH h = true) : Wf (S.add h n) ∧ (S.add h n).holder = S.holder ++ [(S.count : Int)] ∧ (S.add h n).count = 0 ∧ (S.add h n).around = S.around ++ [S.heads.length] ∧ (S.add h n).heads = S.heads ++ [h] := by
  have ea : (S.add h n).around = S.around ++ [S.heads.length] := by unfold Sc.add; rw [hh]; rfl
  have ec : (S.add h n).counts = (S.counts.dropLast ++ [S.count + 1]) ++ [0] := by unfold Sc.add; rw [hh]; rfl
  refine ⟨⟨?_, ?_, ?_, ?_, ?_⟩, ?_, ?_, ea, rfl⟩
  · show (S.paths ++ [_]).length = (S.heads ++ [h]).length
    rw [List.length_append, List.length_append, W.lp]; rfl
  · show (S.firsts ++ [_]).length = (S.heads ++ [h]).length
    rw [List.length_append, List.length_append, W.lf]; rfl
  · show (S.behinds ++ [_]).length = (S.heads ++ [h]).length
    rw [List.length_append, List.length_append, W.lb]; rfl
  · rw [ec]; simp
  · intro i hi
    rw [ea] at hi
    show i < (S.heads ++ [h]).length
    rw [List.length_append]
    rcases List.mem_append.mp hi with q | q
    · have := W.ar i q
      omega
    · rw [List.mem_singleton.mp q]
      exact Nat.lt_succ_self _
  · unfold Sc.holder
    rw [ea, List.getLast?_append]
    show (S.paths ++ [S.holder ++ [(S.count : Int)]]).getD S.heads.length [] = _
    rw [List.getD_eq_getElem?_getD, ← W.lp, List.getElem?_append_right (Nat.le_refl _), Nat.sub_self]
    rfl
  · unfold Sc.count
    rw [ec, List.getLast?_append]
    rfl
theorem open_newB {S : Sc} {h : List PyData} {n : Nat} (W : Wf S) (hh : holdH h = true) : (S.add h n).newB = blkH h := by
  obtain ⟨_, _, h3, h4, h5⟩ := add_open (n := n) W hh
  unfold Sc.newB
  rw [h3, h4, h5, List.getLast?_append]
  show (true && blkH ((S.heads ++ [h]).getD S.heads.length [])) = _
  rw [List.getD_eq_getElem?_getD, List.getElem?_append_right (Nat.le_refl _), Nat.sub_self]
  rfl
/-- the holder is closed behind its items -/
theorem close_of {S : Sc} {h : List PyData} {n p k : Nat} {rs : List (List Int × Int × Int)} {hs : List (List PyData)} (W : Wf S) (hh : holdH h = true) :
    ((S.add h n).more rs hs p k).close = S.more ((S.holder ++ [(S.count : Int)], (S.pos : Int), ((p + 1 : Nat) : Int)) :: rs) (h :: hs) (p + 1) 1 := by
  obtain ⟨_, _, h3, h4, h5⟩ := add_open (n := n) W hh
  have ec : (S.add h n).counts = (S.counts.dropLast ++ [S.count + 1]) ++ [0] := by unfold Sc.add; rw [hh]; rfl
  have lb := W.lb
  unfold Sc.close Sc.more
  dsimp only
  rw [h4, h5, ec, List.getLast?_append, List.dropLast_concat, List.dropLast_concat, List.dropLast_concat]
  show Sc.mk ((S.paths ++ [S.holder ++ [(S.count : Int)]]) ++ rs.map (·.1)) ((S.heads ++ [h]) ++ hs) ((S.firsts ++ [(S.pos : Int)]) ++ rs.map (·.2.1)) (((S.behinds ++ [((S.pos + n : Nat) : Int)]) ++ rs.map (·.2.2)).set S.heads.length ((p + 1 : Nat) : Int)) (p + 1) S.around (S.counts.dropLast ++ [S.count + 1]) = _
  have e : ((S.behinds ++ [((S.pos + n : Nat) : Int)]) ++ rs.map (·.2.2)).set S.heads.length ((p + 1 : Nat) : Int) = S.behinds ++ (((p + 1 : Nat) : Int) :: rs.map (·.2.2)) := by
    rw [← lb, List.append_assoc, List.set_append_right _ _ (Nat.le_refl _), Nat.sub_self]
    rfl
  rw [e]
  simp only [List.append_assoc, List.singleton_append, List.map_cons]
theorem word_node (h : List PyData) (o : List Nat) (b : Bool) (l : List It) : (It.node h o b l).word = o ++ ((if b = true then (gapped l).drop 1 else gapped l) ++ [41]) := by rw [It.word]
mutual
/-- an item, from its first sign on -/
theorem scan_item {n : Nat} {T : List Nat} : ∀ (x : It), Gd n x → ∀ (S : Sc) (rest : List Nat), Wf S → T.drop S.pos = x.word ++ rest → Delim rest → ∃ S1, beginS T S = .inr S1 ∧ Steps T S1 (S.more (x.rows (S.holder ++ [(S.count : Int)]) S.pos) x.hds (S.pos + x.word.length) 1)
  | .leaf h w, g, S, rest, W, hT, d => by
    cases g with
    | leaf k =>
      rw [It.word] at hT
      refine ⟨_, begin_of hT (k.hd rest d), ?_⟩
      rw [add_leaf k.no, It.rows, It.hds, It.word]
      exact .nil
  | .node h o b l, g, S, rest, W, hT, d => by
    cases g with
    | @node n _ _ _ _ k hl hc =>
      obtain ⟨W1, h2, h3, h4, h5⟩ := add_open (n := o.length) W k.yes
      have hTo : T.drop S.pos = o ++ (((if b = true then (gapped l).drop 1 else gapped l) ++ [41]) ++ rest) := by rw [hT, word_node, List.append_assoc]
      have hTi := drop_add hTo
      rw [List.append_assoc] at hTi
      have ar : (S.add h o.length).around ≠ [] := by rw [h4]; simp
      -- the items, and the end
      have fin : ∀ (rs : List (List Int × Int × Int)) (p : Nat), T.drop p = 41 :: rest → p + 1 = S.pos + (It.node h o b l).word.length → rs = rowsL (S.holder ++ [(S.count : Int)]) 0 (S.pos + o.length + if b = true then 0 else 1) l → ∀ k', Steps T (S.add h o.length) ((S.add h o.length).more rs (hdsL l) p k') →
          Steps T (S.add h o.length) (S.more ((It.node h o b l).rows (S.holder ++ [(S.count : Int)]) S.pos) (It.node h o b l).hds (S.pos + (It.node h o b l).word.length) 1) := by
        intro rs p hp ep er k' st
        obtain ⟨g1, g2, g3⟩ := drop_get hp
        refine st.trans (.cons (S1 := ((S.add h o.length).more rs (hdsL l) p k').close) g1 ?_ ?_)
        · unfold stepS
          rw [if_pos ⟨g2, ar⟩]
        · rw [close_of W k.yes, It.rows, It.hds, ← ep, er]
          exact .nil
      cases k with
      | block =>
        refine ⟨_, begin_of (w := [40]) hTo (by
          show some (brM _) = _
          cases l with
          | nil => rw [show (if true = true then List.drop 1 (gapped []) else gapped []) = [] from by rw [gapped]; rfl]; rfl
          | cons x r =>
            have e : (if true = true then List.drop 1 (gapped (x :: r)) else gapped (x :: r)) = x.word ++ gapped r := by rw [gapped]; rfl
            show some (brM _) = _
            rw [e]
            show some (brM ((x.word ++ gapped r ++ [41]) ++ rest)) = _
            rw [List.append_assoc, List.append_assoc, br_word (hc x List.mem_cons_self) (by
              have z := gapped_delim2 r (fun y hy => hc y (List.mem_cons_of_mem _ hy)) rest
              exact z)]
            rfl), ?_⟩
        have W1' : Wf (S.add [.str "block"] 1) := W1
        have nB : (S.add [.str "block"] 1).newB = true := by
          rw [open_newB W (by decide +kernel)]
          decide +kernel
        cases l with
        | nil =>
          have e : (if true = true then List.drop 1 (gapped []) else gapped []) = [] := by rw [gapped]; rfl
          rw [e] at hTi
          refine fin [] (S.pos + 1) hTi ?_ (by rw [rowsL]) 0 ?_
          · rw [word_node, e]
            rfl
          · have z := more_nil W1
            rw [hdsL]
            have z' : (S.add [.str "block"] [40].length).more [] [] (S.pos + 1) 0 = S.add [.str "block"] [40].length := z
            rw [z']
            exact .nil
        | cons x r =>
          have e : (if true = true then List.drop 1 (gapped (x :: r)) else gapped (x :: r)) = x.word ++ gapped r := by rw [gapped]; rfl
          rw [e, List.append_assoc] at hTi
          have gx := hc x List.mem_cons_self
          obtain ⟨S2, b1, b2⟩ := scan_item x gx (S.add [.str "block"] 1) (gapped r ++ ([41] ++ rest)) W1' hTi (gapped_delim r (.inr (.inr ⟨rest, rfl⟩)))
          obtain ⟨c, w, ew, c1, c2, c3⟩ := gx.st
          have hT1 : T.drop (S.pos + 1) = c :: (w ++ (gapped r ++ ([41] ++ rest))) := by
            have q := hTi
            rw [ew] at q
            exact q
          obtain ⟨g1, g2, g3⟩ := drop_get hT1
          have W2 := more_wf (S := S.add [.str "block"] 1) W1' (rs := x.rows ((S.add [.str "block"] 1).holder ++ [((S.add [.str "block"] 1).count : Int)]) (S.pos + 1)) (hs := x.hds) (p := S.pos + 1 + x.word.length) (k := 1) (It.len_hds _ _ x)
          have st2 := scan_list r (fun y hy => hc y (List.mem_cons_of_mem _ hy)) _ ([41] ++ rest) (.inr (.inr ⟨rest, rfl⟩)) W2 (more_newB W1' (.inr (by decide))) (by
            show T.drop (S.pos + 1 + x.word.length) = _
            have q := drop_add hTi
            exact q)
          refine fin (x.rows ((S.add [.str "block"] 1).holder ++ [((S.add [.str "block"] 1).count : Int)]) (S.pos + 1) ++ rowsL (S.holder ++ [(S.count : Int)]) 1 (S.pos + 1 + x.word.length + 1) r) (S.pos + 1 + x.word.length + (gapped r).length) ?_ ?_ ?_ (1 + r.length) ?_
          · have q := drop_add (drop_add hTi)
            exact q
          · rw [word_node, e]
            simp only [List.length_append, List.length_cons, List.length_nil]
            omega
          · rw [rowsL]
            show x.rows ((S.add [.str "block"] 1).holder ++ [((S.add [.str "block"] 1).count : Int)]) (S.pos + 1) ++ _ = _
            have h2' : (S.add [.str "block"] 1).holder = S.holder ++ [(S.count : Int)] := h2
            have h3' : (S.add [.str "block"] 1).count = 0 := h3
            rw [h2', h3']
            rfl
          · refine .cons (S1 := S2) g1 ?_ (b2.trans ?_)
            · unfold stepS
              have ng : ¬ (T.getD (S.add [.str "block"] 1).pos 0 = 41 ∧ (S.add [.str "block"] 1).around ≠ []) := fun q => c2 (g2.symm.trans q.1)
              show (if T.getD (S.add [.str "block"] 1).pos 0 = 41 ∧ (S.add [.str "block"] 1).around ≠ [] then _ else _) = _
              rw [if_neg ng]
              show (if (S.add [.str "block"] 1).newB = true then beginS T (S.add [.str "block"] 1) else _) = _
              rw [if_pos nB]
              exact b1
            · rw [hdsL]
              rw [more_holder W1', more_more] at st2
              have h2' : (S.add [.str "block"] 1).holder = S.holder ++ [(S.count : Int)] := h2
              rw [more_count] at st2
              have h3' : (S.add [.str "block"] 1).count = 0 := h3
              rw [h2', h3'] at st2 ⊢
              exact st2
      | other hd yes nb st =>
        refine ⟨_, begin_of hTo (hd _), ?_⟩
        have nB : (S.add h o.length).newB = false := by
          rw [open_newB W yes]
          exact nb
        have hTi' : T.drop (S.add h o.length).pos = gapped l ++ ([41] ++ rest) := hTi
        have st2 := scan_list l hc (S.add h o.length) ([41] ++ rest) (.inr (.inr ⟨rest, rfl⟩)) W1 nB hTi'
        refine fin (rowsL (S.holder ++ [(S.count : Int)]) 0 (S.pos + o.length + 1) l) (S.pos + o.length + (gapped l).length) ?_ ?_ rfl l.length ?_
        · have q := drop_add hTi'
          exact q
        · rw [word_node]
          simp only [List.length_append, List.length_cons, List.length_nil, Bool.false_eq_true, if_false]
          omega
        · rw [h2, h3] at st2
          exact st2
/-- the items of a holder, from the k-th on, each behind a blank -/
theorem scan_list {n : Nat} {T : List Nat} : ∀ (l : List It), (∀ x ∈ l, Gd n x) → ∀ (S : Sc) (rest : List Nat), Delim rest → Wf S → S.newB = false → T.drop S.pos = gapped l ++ rest →
    Steps T S (S.more (rowsL S.holder S.count (S.pos + 1) l) (hdsL l) (S.pos + (gapped l).length) l.length)
  | [], _, S, rest, d, W, nB, hT => by
    have z : S.more (rowsL S.holder S.count (S.pos + 1) []) (hdsL []) (S.pos + (gapped []).length) 0 = S := by
      rw [rowsL, hdsL, gapped]
      exact more_nil W
    show Steps T S (S.more (rowsL S.holder S.count (S.pos + 1) []) (hdsL []) (S.pos + (gapped []).length) 0)
    rw [z]
    exact .nil
  | x :: r, hl, S, rest, d, W, nB, hT => by
    have gx := hl x List.mem_cons_self
    have hT0 : T.drop S.pos = 32 :: (x.word ++ (gapped r ++ rest)) := by
      rw [hT, gapped]
      show 32 :: ((x.word ++ gapped r) ++ rest) = _
      rw [List.append_assoc]
    obtain ⟨g1, g2, g3⟩ := drop_get hT0
    have W' : Wf { S with pos := S.pos + 1 } := ⟨W.lp, W.lf, W.lb, W.ne, W.ar⟩
    obtain ⟨S2, b1, b2⟩ := scan_item x gx { S with pos := S.pos + 1 } _ W' g3 (gapped_delim r d)
    have W2 := more_wf W' (rs := x.rows (S.holder ++ [(S.count : Int)]) (S.pos + 1)) (hs := x.hds) (p := S.pos + 1 + x.word.length) (k := 1) (It.len_hds _ _ x)
    have st2 := scan_list r (fun y hy => hl y (List.mem_cons_of_mem _ hy)) _ rest d W2 (more_newB W' (.inr (by decide))) (by
      show T.drop (S.pos + 1 + x.word.length) = _
      exact drop_add g3)
    refine .cons (S1 := S2) g1 ?_ (b2.trans ?_)
    · unfold stepS
      rw [if_neg (fun q => by have := g2.symm.trans q.1; exact absurd this (by decide)), if_neg (by rw [nB]; exact Bool.false_ne_true), if_pos g2]
      exact b1
    · rw [more_holder W', more_more, more_count] at st2
      have e1 : rowsL S.holder S.count (S.pos + 1) (x :: r) = x.rows (S.holder ++ [(S.count : Int)]) (S.pos + 1) ++ rowsL S.holder (S.count + 1) (S.pos + 1 + x.word.length + 1) r := by rw [rowsL]
      have e2 : hdsL (x :: r) = x.hds ++ hdsL r := by rw [hdsL]
      have e3 : S.pos + (gapped (x :: r)).length = S.pos + 1 + x.word.length + (gapped r).length := by
        rw [gapped]
        simp only [List.length_append, List.length_cons]
        omega
      have e4 : (x :: r).length = 1 + r.length := by rw [List.length_cons, Nat.add_comm]
      rw [e1, e2, e3, e4]
      exact st2
end
/-- the text of a program -/
def textM (l : List It) : List Nat := (gapped l).drop 1
theorem sc0_wf : Wf sc0 := ⟨rfl, rfl, rfl, by show [0] ≠ []; simp, fun i hi => by cases hi⟩
/-- what its scan ends with -/
def endM (l : List It) : Sc := sc0.more (rowsL [] 0 0 l) (hdsL l) (textM l).length l.length
/-- the scan of a text of items, perhaps with something behind it -/
theorem scan_steps {n : Nat} (x : It) (r : List It) (g : ∀ y ∈ x :: r, Gd n y) (rest : List Nat) (d : Delim rest) : ∃ S1, beginS (textM (x :: r) ++ rest) sc0 = .inr S1 ∧ Steps (textM (x :: r) ++ rest) S1 (endM (x :: r)) := by
  have eT : textM (x :: r) = x.word ++ gapped r := by unfold textM; rw [gapped]; rfl
  have hT : (textM (x :: r) ++ rest).drop sc0.pos = x.word ++ (gapped r ++ rest) := by rw [eT, List.append_assoc]; rfl
  obtain ⟨S1, b1, b2⟩ := scan_item x (g x List.mem_cons_self) sc0 _ sc0_wf hT (gapped_delim r d)
  refine ⟨S1, b1, b2.trans ?_⟩
  have W2 := more_wf sc0_wf (rs := x.rows (sc0.holder ++ [(sc0.count : Int)]) sc0.pos) (hs := x.hds) (p := sc0.pos + x.word.length) (k := 1) (It.len_hds _ _ x)
  have st2 := scan_list r (fun y hy => g y (List.mem_cons_of_mem _ hy)) _ rest d W2 (more_newB sc0_wf (.inr (by decide))) (drop_add hT)
  rw [more_holder sc0_wf, more_more, more_count] at st2
  have e1 : rowsL [] 0 0 (x :: r) = x.rows ([] ++ [((0 : Nat) : Int)]) 0 ++ rowsL [] (0 + 1) (0 + x.word.length + 1) r := by rw [rowsL]
  have e2 : hdsL (x :: r) = x.hds ++ hdsL r := by rw [hdsL]
  unfold endM
  rw [e1, e2, eT, List.length_append, List.length_cons, Nat.add_comm r.length 1]
  have st3 := st2
  show Steps _ _ _
  have z : (0 : Nat) + x.word.length = x.word.length := Nat.zero_add _
  have z2 : sc0.pos + x.word.length + (gapped r).length = x.word.length + (gapped r).length := by show 0 + _ + _ = _; omega
  show Steps _ (sc0.more _ _ (sc0.pos + x.word.length) 1) _
  rw [← z2]
  exact st3
theorem begin_none {T : List Nat} {S : Sc} (h : T.drop S.pos = []) : beginS T S = .inl S.pos := by
  unfold beginS
  rw [h]
  rfl
theorem runs_ok {n : Nat} (x : It) (r : List It) (g : ∀ y ∈ x :: r, Gd n y) : ∃ S1 m, beginS (textM (x :: r)) sc0 = .inr S1 ∧ Runs (textM (x :: r)) m S1 (.inr (endM (x :: r))) := by
  obtain ⟨S1, b1, b2⟩ := scan_steps x r g [] (.inl rfl)
  rw [List.append_nil] at b1 b2
  obtain ⟨m, q⟩ := b2.runs (.fin (S := endM (x :: r)) (Nat.le_refl _))
  exact ⟨S1, m, b1, q⟩
theorem runs_bad {n : Nat} (x : It) (r : List It) (g : ∀ y ∈ x :: r, Gd n y) : ∃ S1 m, beginS (textM (x :: r) ++ [32]) sc0 = .inr S1 ∧ Runs (textM (x :: r) ++ [32]) m S1 (.inl ((textM (x :: r)).length + 1)) := by
  obtain ⟨S1, b1, b2⟩ := scan_steps x r g [32] (.inr (.inl ⟨[], rfl⟩))
  have hp : (endM (x :: r)).pos = (textM (x :: r)).length := rfl
  have hT : (textM (x :: r) ++ [32]).drop (endM (x :: r)).pos = 32 :: [] := by rw [hp, List.drop_left]
  obtain ⟨g1, g2, g3⟩ := drop_get hT
  obtain ⟨m, q⟩ := b2.runs (.bad (S := endM (x :: r)) (e := (textM (x :: r)).length + 1) g1 (by
    unfold stepS
    rw [if_neg (fun q => by have := g2.symm.trans q.1; exact absurd this (by decide)), if_neg (by rw [show (endM (x :: r)).newB = false from more_newB sc0_wf (.inr (by rw [List.length_cons]; omega))]; exact Bool.false_ne_true), if_pos g2]
    exact begin_none g3))
  exact ⟨S1, m, b1, q⟩
theorem begin_blank : beginS [32] sc0 = .inl 0 := rfl
end K1
set_option maxHeartbeats 4000000
/-! the signs of a text -/
namespace K1
open PySem L2
theorem dec_pos {p n : Nat} : decide ((p : Int) < ((n : Nat) : Int)) = decide (p < n) := by
  by_cases h : p < n
  · rw [decide_eq_true h, decide_eq_true (by omega)]
  · rw [decide_eq_false h, decide_eq_false (by omega)]
theorem sg_at {f : Nat → Bool} {T : List Nat} {p c : Nat} (h : T[p]? = some c) : sgM f (T.drop p) = f c := by
  obtain ⟨hl, e⟩ := List.getElem?_eq_some_iff.mp h
  rw [List.drop_eq_getElem_cons hl, e]
  rfl
theorem sg_end {f : Nat → Bool} {T : List Nat} {p : Nat} (h : ¬ p < T.length) : sgM f (T.drop p) = false := by
  rw [List.drop_eq_nil_of_le (by omega)]
  rfl
theorem len_cps (z : Str) : z.cps.toList.length = z.length := by simp [Str.length]
theorem sizeL {n m : Nat} (h : n ≤ m) (h2 : m ≤ 16777216 := by decide) : n ≤ sizeLine := by rw [sizeLine_eq]; omega
theorem dec_len' {a b : Nat} : decide (V.int (a : Int) = V.int (b : Int)) = decide (a = b) := dec_len
def spStands : Sp := fun vs H Q _ => ∃ (z : Str) (p : Nat) (sg : Str) (f : Nat → Bool), vs = [.str z, .int (p : Int), .str sg] ∧ z.length ≤ 2000 ∧ (∀ c : Nat, decide (c ∈ sg.cps.toList) = f c) ∧ Q (.bl (sgM f (z.cps.toList.drop p))) H
/-- an index within a text -/
def spEnd (g : List Nat → Nat) : Sp := fun vs H Q _ => ∃ (z : Str) (p : Nat), vs = [.str z, .int (p : Int)] ∧ z.length ≤ 2000 ∧ Q (.int ((p + g (z.cps.toList.drop p) : Nat) : Int)) H
theorem mem_let (c : Nat) : decide (c ∈ ("abcdefghijklmnopqrstuvwxyz" : Str).cps.toList) = isLet c := by
  rw [show ("abcdefghijklmnopqrstuvwxyz" : Str).cps.toList = [97, 98, 99, 100, 101, 102, 103, 104, 105, 106, 107, 108, 109, 110, 111, 112, 113, 114, 115, 116, 117, 118, 119, 120, 121, 122] from by decide +kernel, Bool.eq_iff_iff]
  unfold isLet
  simp only [decide_eq_true_eq, Bool.and_eq_true, List.mem_cons, List.not_mem_nil, or_false]
  omega
theorem mem_fig (c : Nat) : decide (c ∈ ("0123456789" : Str).cps.toList) = isFig c := by
  rw [show ("0123456789" : Str).cps.toList = [48, 49, 50, 51, 52, 53, 54, 55, 56, 57] from by decide +kernel, Bool.eq_iff_iff]
  unfold isFig
  simp only [decide_eq_true_eq, Bool.and_eq_true, List.mem_cons, List.not_mem_nil, or_false]
  omega
theorem mem_fst (c : Nat) : decide (c ∈ ("123456789" : Str).cps.toList) = isFst c := by
  rw [show ("123456789" : Str).cps.toList = [49, 50, 51, 52, 53, 54, 55, 56, 57] from by decide +kernel, Bool.eq_iff_iff]
  unfold isFst
  simp only [decide_eq_true_eq, Bool.and_eq_true, List.mem_cons, List.not_mem_nil, or_false]
  omega
theorem mem_zero (c : Nat) : decide (c ∈ ("0" : Str).cps.toList) = (c == 48) := by
  rw [show ("0" : Str).cps.toList = [48] from by decide +kernel, Bool.eq_iff_iff]
  simp
section
variable {P : Program} {w : World} {K : PySem.W.Frag} {mg : Str → Option Value} {base : Heap}
theorem sc_stands : FnScope ["text", "at", "signs"] ["text", "at", "signs"] (defScope (top 15)) := ⟨rfl, rfl, rfl, by decide +kernel, rfl, by decide +kernel, by decide +kernel⟩
theorem cl_stands (T : All K mg) : Cl P w K mg base 1 "_stands" ["text", "at", "signs"] spStands := by
  obtain ⟨g, fd, D⟩ := T.dn 15 _ _ rfl
  refine D.cl (D.fn.ok sc_stands (fun vs H Q E h => ?_) (fun cdv A outer s H vs Q E hr h => ?_))
  · obtain ⟨z, p, sg, f, rfl, _⟩ := h
    rfl
  · obtain ⟨z, p, sg, f, rfl, hz, hf, k⟩ := h
    refine ⟨_, pss_one (ps_ret (pe_and (pe_cmpR op_lt (pv 1) (pe_callB call_len_str (by rfl) T.bi.len PySem.boot_len (pa_cons (pv 0) pa_nil)) (nomark _)) (pe_one (pe_cmpR op_in_sign (pe_ix ix_str (pv 0) (pv 1) (fun _ _ => rfl)) (pv 2) rfl)))), ?_⟩
    refine ⟨_, rfl, _, rfl, z, rfl, sizeL hz, _, _, rfl, rfl, _, rfl, ?_⟩
    by_cases hp : p < z.cps.toList.length
    · rw [dec_pos, ← len_cps, decide_eq_true hp]
      have hc : z.cps.toList[p]? = some z.cps.toList[p] := List.getElem?_eq_getElem hp
      refine iteT ⟨_, rfl, _, rfl, z, _, _, rfl, rfl, sizeL hz, atI_nat hc, _, rfl, _, _, rfl, rfl, ?_⟩
      rw [hf, ← sg_at (f := f) hc]
      exact k
    · rw [dec_pos, ← len_cps, decide_eq_false hp]
      rw [sg_end hp] at k
      exact iteF k
theorem sc_pend : FnScope ["text", "at"] ["text", "at"] (defScope (top 14)) := ⟨rfl, rfl, rfl, by decide +kernel, rfl, by decide +kernel, by decide +kernel⟩
theorem cl_pend (T : All K mg) : Cl P w K mg base 2 "_positive_end" ["text", "at"] (spEnd pE) := by
  obtain ⟨g, fd, D⟩ := T.dn 14 _ _ rfl
  refine D.cl (D.fn.ok sc_pend (fun vs H Q E h => ?_) (fun cdv A outer s H vs Q E hr h => ?_))
  · obtain ⟨z, p, rfl, _⟩ := h
    rfl
  · obtain ⟨z, p, rfl, hz, k⟩ := h
    obtain ⟨tF, hF⟩ := T.cn.ffig
    obtain ⟨tG, hG⟩ := T.cn.fig
    refine ⟨_, pss_cons (ps_if (pt_not (pt_val (pe_cl (cl_stands T) hr (by decide) (pa_cons (pv 0) (pa_cons (pv 1) (pa_cons (pe_glob (v := .str "123456789") rfl hF ⟨_, rfl⟩) pa_nil)))))) (pss_one (ps_ret (pv 1))) pss_nil)
      (pss_one (ps_ret (pe_ifExp (pt_val (pe_cl (cl_stands T) hr (by decide) (pa_cons (pv 0) (pa_cons (pe_op op_add (pv 1) pe_int) (pa_cons (pe_glob (v := .str "0123456789") rfl hG ⟨_, rfl⟩) pa_nil))))) (pe_op op_add (pv 1) pe_int) (pe_op op_add (pv 1) pe_int)))), ?_⟩
    refine ⟨_, rfl, _, rfl, z, p, _, isFst, rfl, hz, mem_fst, _, rfl, ?_⟩
    unfold pE at k
    cases e : sgM isFst (z.cps.toList.drop p) with
    | false =>
      rw [e, if_neg Bool.false_ne_true, Nat.add_zero] at k
      exact iteT ⟨_, rfl, k⟩
    | true =>
      rw [e, if_pos rfl, List.drop_drop] at k
      refine iteF ⟨_, rfl, _, rfl, _, _, rfl, rfl, z, p + 1, _, isFig, rfl, hz, mem_fig, _, rfl, ?_⟩
      cases e2 : sgM isFig (z.cps.toList.drop (p + 1)) with
      | true =>
        rw [e2, if_pos rfl] at k
        exact iteT ⟨_, rfl, _, _, rfl, rfl, k⟩
      | false =>
        rw [e2, if_neg Bool.false_ne_true] at k
        exact iteF ⟨_, rfl, _, _, rfl, rfl, k⟩
theorem sc_nend : FnScope ["text", "at"] ["text", "at"] (defScope (top 13)) := ⟨rfl, rfl, rfl, by decide +kernel, rfl, by decide +kernel, by decide +kernel⟩
theorem cl_nend (T : All K mg) : Cl P w K mg base 3 "number_end" ["text", "at"] (spEnd nE) := by
  obtain ⟨g, fd, D⟩ := T.dn 13 _ _ rfl
  refine D.cl (D.fn.ok sc_nend (fun vs H Q E h => ?_) (fun cdv A outer s H vs Q E hr h => ?_))
  · obtain ⟨z, p, rfl, _⟩ := h
    rfl
  · obtain ⟨z, p, rfl, hz, k⟩ := h
    refine ⟨_, pss_one (ps_ret (pe_ifExp (pt_val (pe_cl (cl_stands T) hr (by decide) (pa_cons (pv 0) (pa_cons (pv 1) (pa_cons pe_str pa_nil))))) (pe_op op_add (pv 1) pe_int) (pe_cl (cl_pend T) hr (by decide) (pa_cons (pv 0) (pa_cons (pv 1) pa_nil))))), ?_⟩
    refine ⟨_, rfl, _, rfl, z, p, _, fun c => c == 48, rfl, hz, mem_zero, _, rfl, ?_⟩
    unfold nE at k
    cases e : sgM (fun c => c == 48) (z.cps.toList.drop p) with
    | true =>
      rw [e, if_pos rfl] at k
      exact iteT ⟨_, rfl, _, _, rfl, rfl, k⟩
    | false =>
      rw [e, if_neg Bool.false_ne_true] at k
      exact iteF ⟨_, rfl, _, rfl, z, p, rfl, hz, k⟩
theorem lE_step {n : Nat} {S : List Nat} : lE (n + 1) S = if sgM isLet S = true then lE n (S.drop 1) + 1 else 0 := by
  cases S with
  | nil => rfl
  | cons c r => rfl
theorem sc_wend : FnScope ["text", "at", "behind"] ["text", "at"] (defScope (top 12)) := ⟨rfl, rfl, rfl, by decide +kernel, rfl, by decide +kernel, by decide +kernel⟩
theorem cl_wend (T : All K mg) : Cl P w K mg base 3 "written_end" ["text", "at"] (spEnd wE) := by
  obtain ⟨g, fd, D⟩ := T.dn 12 _ _ rfl
  refine D.cl (D.fn.ok sc_wend (fun vs H Q E h => ?_) (fun cdv A outer s H vs Q E hr h => ?_))
  · obtain ⟨z, p, rfl, _⟩ := h
    rfl
  · obtain ⟨z, p, rfl, hz, k⟩ := h
    obtain ⟨tL, hL⟩ := T.cn.let_
    obtain ⟨tM, hM⟩ := T.cn.most
    refine ⟨_, pss_cons (ps_set (i := 2) sc_wend.nd rfl (Or.inl rfl) (pv 1))
      (pss_cons (ps_while PassesOwn.never (PW.pt (pw_and (pt_cmpR op_lt (pv 2) (pe_op op_add (pv 1) (pe_glob (v := .int 4) rfl hM ⟨_, rfl⟩)) (nomark _)) (pw_and1 (pt_val (pe_cl (cl_stands T) hr (by decide) (pa_cons (pv 0) (pa_cons (pv 2) (pa_cons (pe_glob (v := .str "abcdefghijklmnopqrstuvwxyz") rfl hL ⟨_, rfl⟩) pa_nil))))))))
          (pss_one (ps_aug (i := 2) sc_wend.nd rfl (Or.inl rfl) pe_int ip_add)))
      (pss_one (ps_ret (pe_ifExp (pt_cmpR op_eq (pv 2) (pv 1) (nomark _)) (pv 2) (pe_cl (cl_pend T) hr (by decide) (pa_cons (pv 0) (pa_cons (pv 2) pa_nil))))))), ?_⟩
    refine ⟨_, rfl, ?_⟩
    refine ⟨fun m σ H' => ∃ j : Nat, m = 4 - j ∧ j ≤ 4 ∧ σ = [some (.str z), some (.int (p : Int)), some (.int ((p + j : Nat) : Int))] ∧ H' = H ∧ lE 4 (z.cps.toList.drop p) = j + lE (4 - j) (z.cps.toList.drop (p + j)), ⟨4, 0, rfl, by decide, rfl, rfl, by rw [Nat.zero_add, Nat.add_zero]⟩, ?_⟩
    rintro m σ H' ⟨j, rfl, hj, rfl, rfl, hl⟩
    refine ⟨_, rfl, _, rfl, _, _, rfl, rfl, _, _, rfl, rfl, _, rfl, ?_⟩
    have hlt : decide (((p + j : Nat) : Int) < (p : Int) + 4) = decide (j < 4) := by
      by_cases h : j < 4
      · rw [decide_eq_true h, decide_eq_true (by omega)]
      · rw [decide_eq_false h, decide_eq_false (by omega)]
    rw [hlt]
    by_cases j4 : j < 4
    · rw [decide_eq_true j4]
      refine iteT ⟨_, rfl, _, rfl, z, p + j, _, isLet, rfl, hz, mem_let, _, rfl, ?_⟩
      have es : 4 - j = (4 - (j + 1)) + 1 := by omega
      rw [es, lE_step (n := 4 - (j + 1)) (S := z.cps.toList.drop (p + j)), List.drop_drop] at hl
      cases e : sgM isLet (z.cps.toList.drop (p + j)) with
      | true =>
        rw [e, if_pos rfl] at hl
        refine iteT ⟨fun σ' H2 => σ' = [some (.str z), some (.int (p : Int)), some (.int ((p + (j + 1) : Nat) : Int))] ∧ H2 = H', fun σ' H2 q => ⟨4 - (j + 1), by omega, j + 1, rfl, j4, q.1, q.2, by rw [hl, Nat.add_assoc p j 1]; omega⟩, _, rfl, _, _, rfl, rfl, ?_⟩
        exact ⟨rfl, rfl⟩
      | false =>
        have hz0 : (if sgM isLet (z.cps.toList.drop (p + j)) = true then lE (4 - (j + 1)) (z.cps.toList.drop (p + j + 1)) + 1 else 0) = 0 := by rw [e, if_neg Bool.false_ne_true]
        refine iteF ?_
        refine ⟨_, rfl, _, rfl, rfl, _, rfl, ?_⟩
        unfold wE at k
        rw [hl, hz0, Nat.add_zero] at k
        rw [dec_len']
        by_cases j0 : j = 0
        · rw [if_pos j0] at k
          subst j0
          rw [decide_eq_true (by omega)]
          exact iteT ⟨_, rfl, k⟩
        · rw [if_neg j0, ← Nat.add_assoc] at k
          rw [decide_eq_false (by omega)]
          refine iteF ⟨_, rfl, _, rfl, z, p + j, rfl, hz, ?_⟩
          rw [List.drop_drop] at k
          exact k
    · have hz0 : lE (4 - j) (z.cps.toList.drop (p + j)) = 0 := by
        rw [show 4 - j = 0 from by omega]
        rfl
      rw [decide_eq_false j4]
      refine iteF ?_
      refine ⟨_, rfl, _, rfl, rfl, _, rfl, ?_⟩
      unfold wE at k
      rw [hl, hz0, Nat.add_zero] at k
      rw [dec_len']
      by_cases j0 : j = 0
      · rw [if_pos j0] at k
        subst j0
        rw [decide_eq_true (by omega)]
        exact iteT ⟨_, rfl, k⟩
      · rw [if_neg j0, ← Nat.add_assoc] at k
        rw [decide_eq_false (by omega)]
        refine iteF ⟨_, rfl, _, rfl, z, p + j, rfl, hz, ?_⟩
        rw [List.drop_drop] at k
        exact k
end
end K1
set_option maxHeartbeats 4000000
/-! the head of an item -/
namespace K1
open PySem L2
theorem cut_nat {z : Str} {a b : Nat} : cutS z (some (a : Int)) (some (b : Int)) = sO ((z.cps.toList.drop a).take (b - a)) := by
  unfold cutS sO
  rw [HT.sIx_nat, HT.sIx_nat]
  have hl := len_cps z
  congr 2
  by_cases h : a ≤ z.length
  · rw [Nat.min_eq_left h]
    by_cases h2 : b ≤ z.length
    · rw [Nat.min_eq_left h2]
    · rw [Nat.min_eq_right (by omega)]
      rw [List.take_of_length_le (by rw [List.length_drop]; omega), List.take_of_length_le (by rw [List.length_drop]; omega)]
  · rw [List.drop_eq_nil_of_le (by omega), List.drop_eq_nil_of_le (by omega), List.take_nil, List.take_nil]
theorem sO_inj {a b : List Nat} (h : sO a = sO b) : a = b := by
  have z := congrArg (fun s : Str => s.cps.toList) h
  simpa [sO] using z
theorem str_sO (y : Str) : y = sO y.cps.toList := by
  show y = ⟨y.cps.toList.toArray⟩
  rw [Array.toArray_toList]
theorem sO_cps (l : List Nat) : (sO l).cps.toList = l := by simp [sO]
theorem sO_len (l : List Nat) : (sO l).length = l.length := by rw [← len_cps, sO_cps]
theorem part_is {l m : List Nat} {y : Str} (hy : y.cps.toList = m) : decide (V.str (sO l) = V.str y) = decide (l = m) := by
  rw [str_sO y, hy, dec_str]
  by_cases h : l = m
  · subst h
    rw [decide_eq_true rfl, decide_eq_true rfl]
  · rw [decide_eq_false h, decide_eq_false fun z => h (sO_inj z)]
theorem sign_is {S : List Nat} {c : Nat} {y : Str} (hy : y.cps.toList = [c]) : decide (V.str (sO (S.take 1)) = V.str y) = sgM (fun d => d == c) S := by
  rw [part_is hy]
  cases S with
  | nil => rfl
  | cons d r =>
    show decide ([d] = [c]) = (d == c)
    by_cases h : d = c
    · subst h; simp
    · have : (d == c) = false := by simpa using h
      rw [this, decide_eq_false fun z => h (List.cons.inj z).1]
theorem take_len_le {S : List Nat} {n m : Nat} (h : n ≤ m) : (S.take n).length ≤ m := by rw [List.length_take]; omega
theorem lE_le (n : Nat) : ∀ S, lE n S ≤ n := by
  induction n with
  | zero => intro S; cases S <;> exact Nat.le_refl _
  | succ n ih =>
    intro S
    rw [lE_step]
    split
    · have := ih (S.drop 1)
      omega
    · exact Nat.zero_le _
theorem pE_le (S : List Nat) : pE S ≤ 2 := by
  unfold pE
  split
  · split <;> omega
  · omega
theorem wE_le (S : List Nat) : wE S ≤ 6 := by
  unfold wE
  split
  · exact Nat.zero_le _
  · have := lE_le 4 S
    have := pE_le (S.drop (lE 4 S))
    omega
theorem nE_le (S : List Nat) : nE S ≤ 2 := by
  unfold nE
  split
  · decide
  · exact pE_le S
theorem num_one : ∀ i : Fin 10, PySem.intText? (sO [48 + i.val]) = some (numL [48 + i.val]) := by decide +kernel
theorem num_two : ∀ i j : Fin 10, PySem.intText? (sO [48 + i.val, 48 + j.val]) = some (numL [48 + i.val, 48 + j.val]) := by decide +kernel
theorem fig_of {c : Nat} (h : isFig c = true) : ∃ i : Fin 10, c = 48 + i.val := by
  unfold isFig at h
  simp only [Bool.and_eq_true, decide_eq_true_eq] at h
  exact ⟨⟨c - 48, by omega⟩, by show c = 48 + (c - 48); omega⟩
theorem fst_fig {c : Nat} (h : isFst c = true) : isFig c = true := by
  unfold isFst at h
  unfold isFig
  simp only [Bool.and_eq_true, decide_eq_true_eq] at h ⊢
  omega
theorem num_of {S : List Nat} (h : 0 < nE S) : PySem.intText? (sO (S.take (nE S))) = some (numL (S.take (nE S))) := by
  have one : ∀ c r, S = c :: r → isFig c = true → PySem.intText? (sO (S.take 1)) = some (numL (S.take 1)) := by
    rintro c r rfl hc
    obtain ⟨i, rfl⟩ := fig_of hc
    exact num_one i
  unfold nE at h ⊢
  cases S with
  | nil => exact absurd h (by decide)
  | cons c r =>
    cases e : sgM (fun c => c == 48) (c :: r) with
    | true =>
      rw [if_pos rfl]
      have hc : c = 48 := by simpa [sgM] using e
      exact one c r rfl (by rw [hc]; rfl)
    | false =>
      rw [e, if_neg Bool.false_ne_true] at h
      rw [if_neg Bool.false_ne_true]
      unfold pE at h ⊢
      cases e1 : sgM isFst (c :: r) with
      | false =>
        rw [e1, if_neg Bool.false_ne_true] at h
        exact absurd h (by decide)
      | true =>
        rw [if_pos rfl]
        have hc : isFig c = true := fst_fig e1
        cases e2 : sgM isFig ((c :: r).drop 1) with
        | false =>
          rw [if_neg Bool.false_ne_true]
          exact one c r rfl hc
        | true =>
          rw [if_pos rfl]
          cases r with
          | nil => cases e2
          | cons d r =>
            obtain ⟨i, rfl⟩ := fig_of hc
            obtain ⟨j, rfl⟩ := fig_of (show isFig d = true from e2)
            exact num_two i j
def spHolds : Sp := fun vs H Q _ => ∃ x : Str, vs = [.str x] ∧ Q (.bl (holdsD (.str x))) H
def spBr (K : PySem.W.Frag) : Sp := fun vs H Q _ => ∃ (z : Str) (p : Nat), vs = [.str z, .int (p : Int)] ∧ z.length ≤ 2000 ∧ ∀ H' t u, Same H H' → H' t = some (.tup [u, .int ((p + (brM (z.cps.toList.drop p)).2 : Nat) - 1 : Int)]) → DQ K (nw H H') u (.tuple (brM (z.cps.toList.drop p)).1) → Q (.ref t) H'
def hdPost (K : PySem.W.Frag) (C : Addr) (p : Nat) (H : Hp) (Q : VK) (E : XK) : Option (List PyData × Nat) → Prop
  | none => ∀ H' d, Same H H' → H' d = some (.xd [("told", .int (p : Int))]) → E (.ref C) (some d) H'
  | some (h, n) => ∀ H' t u, Same H H' → H' t = some (.tup [u, .int ((p + n : Nat) : Int)]) → DQ K (nw H H') u (.tuple h) → Q (.ref t) H'
def spHead (K : PySem.W.Frag) (C : Addr) : Sp := fun vs H Q E => ∃ (z : Str) (p : Nat), vs = [.str z, .int (p : Int)] ∧ z.length ≤ 2000 ∧ hdPost K C p H Q E (hdM (z.cps.toList.drop p))
/-- a written head and the place behind it -/
theorem pair_new {K : PySem.W.Frag} {H : Hp} {p q : Addr} {us : List V} {ds : List PyData} {x : V} (np : H p = none) (nq : (upd H p (.tup us)) q = none) (h : DQs K (fun _ => none) us ds) :
    Same H (upd (upd H p (.tup us)) q (.tup [.ref p, x])) ∧ (upd (upd H p (.tup us)) q (.tup [.ref p, x])) q = some (.tup [.ref p, x]) ∧ DQ K (nw H (upd (upd H p (.tup us)) q (.tup [.ref p, x]))) (.ref p) (.tuple ds) := by
  have hpq : p ≠ q := fun e => by rw [← e, upd_same] at nq; cases nq
  refine ⟨(K0.same_upd np).trans (K0.same_upd nq), upd_same, .tup (.inl (.inl (nw_of np (by rw [upd_ne hpq, upd_same])))) (h.to fun b u e => by cases e)⟩
section
variable {P : Program} {w : World} {K : PySem.W.Frag} {mg : Str → Option Value} {base : Heap}
theorem sc_holds : FnScope ["kind"] ["kind"] (defScope (top 6)) := ⟨rfl, rfl, rfl, by decide +kernel, rfl, by decide +kernel, by decide +kernel⟩
theorem cl_holds (T : All K mg) : Cl P w K mg base 1 "does_hold" ["kind"] spHolds := by
  obtain ⟨g, fd, D⟩ := T.dn 6 _ _ rfl
  refine D.cl (D.fn.ok sc_holds (fun vs H Q E h => ?_) (fun cdv A outer s H vs Q E hr h => ?_))
  · obtain ⟨x, rfl, _⟩ := h
    rfl
  · obtain ⟨x, rfl, k⟩ := h
    obtain ⟨aH, hH, tH⟩ := T.cn.hol
    refine ⟨_, (pss_one (ps_ret (pe_and (pe_callB call_isi (by rfl) T.bi.isi (by decide +kernel) (pa_cons (pv 0) (pa_cons (pe_bltn (v := .ty "str") (by rfl) T.bi.str (by decide +kernel) rfl) pa_nil))) (pe_one (pe_cmpR op_in_seq (pv 0) (pe_glob (v := .ref aH) rfl hH rfl) rfl))))), ?_⟩
    refine ⟨_, rfl, .str x, .ty "str", .type "str", .type "str", true, rfl, .ty "str", .base (.str x), kit_ty (by decide +kernel), _, rfl, iteT ⟨_, rfl, aH, _, rfl, .inr (tH H), rfl, ?_, ?_⟩⟩
    · rfl
    · rw [in_holders]
      exact k
theorem sc_br : FnScope ["text", "at", "sign", "behind"] ["text", "at"] (defScope (top 21)) := ⟨rfl, rfl, rfl, by decide +kernel, rfl, by decide +kernel, by decide +kernel⟩
theorem cl_br (T : All K mg) : Cl P w K mg base 4 "_bracket" ["text", "at"] (spBr K) := by
  obtain ⟨g, fd, D⟩ := T.dn 21 _ _ rfl
  refine D.cl (D.fn.ok sc_br (fun vs H Q E h => ?_) (fun cdv A outer s H vs Q E hr h => ?_))
  · obtain ⟨z, p, rfl, _⟩ := h
    rfl
  · obtain ⟨z, p, rfl, hz, k⟩ := h
    refine ⟨_, (pss_cons (ps_set (i := 2) sc_br.nd rfl (Or.inl rfl) (pe_slice sl_str (pv 0) (po_some (pv 1)) (po_some (pe_op op_add (pv 1) pe_int))))
      (pss_cons (ps_if (pt_cmpR op_eq (pv 2) pe_str (nomark _)) (pss_one (ps_ret (pe_tup (pa_cons (pe_tup (pa_cons pe_str pa_nil)) (pa_cons (pe_op op_add (pv 1) pe_int) pa_nil))))) pss_nil)
      (pss_cons (ps_if (pt_cmpR op_eq (pv 2) pe_str (nomark _)) (pss_one (ps_ret (pe_tup (pa_cons (pe_tup (pa_cons pe_str pa_nil)) (pa_cons (pe_op op_add (pv 1) pe_int) pa_nil))))) pss_nil)
      (pss_cons (ps_set (i := 3) sc_br.nd rfl (Or.inl rfl) (pe_cl (cl_wend T) hr (by decide) (pa_cons (pv 0) (pa_cons (pv 1) pa_nil))))
      (pss_cons (ps_if (PW.pt (pw_and (pt_cmpR op_gt (pv 3) (pv 1) (nomark _)) (pw_and1 (pt_cmpR op_eq (pe_slice sl_str (pv 0) (po_some (pv 3)) (po_some (pe_op op_add (pv 3) pe_int))) pe_str (nomark _))))) (pss_one (ps_ret (pe_tup (pa_cons (pe_tup (pa_cons pe_str (pa_cons (pe_slice sl_str (pv 0) (po_some (pv 1)) (po_some (pv 3))) pa_nil))) (pa_cons (pe_op op_add (pv 3) pe_int) pa_nil))))) pss_nil)
      (pss_one (ps_ret (pe_tup (pa_cons (pe_tup (pa_cons pe_str pa_nil)) (pa_cons (pv 1) pa_nil)))))))))), ?_⟩
    have c1 : ∀ q : Nat, (((q : Nat) : Int) + 1) = ((q + 1 : Nat) : Int) := fun q => by omega
    refine ⟨_, rfl, _, rfl, _, rfl, _, rfl, _, _, rfl, rfl, _, rfl, z, rfl, sizeL hz, ?_⟩
    rw [c1, cut_nat, Nat.add_sub_cancel_left]
    refine ⟨_, rfl, rfl, _, rfl, ?_⟩
    rw [sign_is (c := 43) (by decide +kernel)]
    unfold brM at k
    have s1 : 1 ≤ sizeLine := sizeL (by decide) (m := 1)
    have s2 : 2 ≤ sizeLine := sizeL (by decide) (m := 2)
    cases e1 : sgM (fun c => c == 43) (z.cps.toList.drop p) with
    | true =>
      rw [e1, if_pos rfl] at k
      refine iteT ⟨s1, fun a na => ⟨_, rfl, _, _, rfl, rfl, s2, fun b nb => ?_⟩⟩
      obtain ⟨q1, q2, q3⟩ := pair_new (x := .int ((p : Int) + 1)) (ds := [.str "sum"]) na nb (.cons (.str _ (by decide +kernel)) .nil)
      refine k _ b _ q1 ?_ q3
      rw [q2]
      congr 5
      omega
    | false =>
      rw [e1, if_neg Bool.false_ne_true] at k
      refine iteF ⟨_, rfl, rfl, _, rfl, ?_⟩
      rw [sign_is (c := 42) (by decide +kernel)]
      cases e2 : sgM (fun c => c == 42) (z.cps.toList.drop p) with
      | true =>
        rw [e2, if_pos rfl] at k
        refine iteT ⟨s1, fun a na => ⟨_, rfl, _, _, rfl, rfl, s2, fun b nb => ?_⟩⟩
        obtain ⟨q1, q2, q3⟩ := pair_new (x := .int ((p : Int) + 1)) (ds := [.str "product"]) na nb (.cons (.str _ (by decide +kernel)) .nil)
        refine k _ b _ q1 ?_ q3
        rw [q2]
        congr 5
        omega
      | false =>
        rw [e2, if_neg Bool.false_ne_true] at k
        refine iteF ⟨_, rfl, _, rfl, z, p, rfl, hz, ?_⟩
        refine ⟨_, rfl, _, rfl, _, _, rfl, rfl, _, rfl, ?_⟩
        have hgt : decide (((p : Nat) : Int) < ((p + wE (z.cps.toList.drop p) : Nat) : Int)) = decide (0 < wE (z.cps.toList.drop p)) := by
          rw [dec_pos]
          congr 1
          exact propext ⟨fun h => by omega, fun h => by omega⟩
        have blk : ¬ (0 < wE (z.cps.toList.drop p) ∧ ((z.cps.toList.drop p).drop (wE (z.cps.toList.drop p))).take 2 = [32, 61]) → tRet (tTup (tCons (tTup (tCons (tC (.str "block")) tNil)) (tCons (tVar 1) tNil))) { nx := fun _ H' => Q .non H', rt := Q } [some (.str z), some (.int (p : Int)), some (.str (sO ((z.cps.toList.drop p).take 1))), some (.int ((p + wE (z.cps.toList.drop p) : Nat) : Int))] H := by
          intro hn
          rw [if_neg hn] at k
          refine ⟨s1, fun a na => ⟨_, rfl, s2, fun b nb => ?_⟩⟩
          obtain ⟨q1, q2, q3⟩ := pair_new (x := .int (p : Int)) (ds := [.str "block"]) na nb (.cons (.str _ (by decide +kernel)) .nil)
          refine k _ b _ q1 ?_ q3
          rw [q2]
          congr 5
          omega
        by_cases h0 : 0 < wE (z.cps.toList.drop p)
        · have hgt' : decide (((p + wE (z.cps.toList.drop p) : Nat) : Int) > ((p : Nat) : Int)) = true := by rw [← decide_eq_true h0, ← hgt]
          rw [hgt']
          refine iteT ⟨_, rfl, _, rfl, _, rfl, _, rfl, _, _, rfl, rfl, _, rfl, z, rfl, sizeL hz, rfl, _, rfl, ?_⟩
          have c2 : (((p + wE (z.cps.toList.drop p) : Nat) : Int) + 2) = ((p + wE (z.cps.toList.drop p) + 2 : Nat) : Int) := by omega
          rw [c2, cut_nat, part_is (m := [32, 61]) (by decide +kernel), Nat.add_sub_cancel_left, ← List.drop_drop]
          by_cases h2 : ((z.cps.toList.drop p).drop (wE (z.cps.toList.drop p))).take 2 = [32, 61]
          · rw [decide_eq_true h2]
            rw [if_pos ⟨h0, h2⟩] at k
            refine iteT ⟨_, rfl, _, rfl, _, rfl, _, rfl, _, rfl, z, rfl, sizeL hz, s2, fun a na => ⟨_, rfl, _, _, rfl, rfl, s2, fun b nb => ?_⟩⟩
            rw [cut_nat, Nat.add_sub_cancel_left] at nb ⊢
            obtain ⟨q1, q2, q3⟩ := pair_new (x := .int (((p + wE (z.cps.toList.drop p) : Nat) : Int) + 2)) (ds := [.str "let", .str (sO ((z.cps.toList.drop p).take (wE (z.cps.toList.drop p))))]) na nb (.cons (.str _ (by decide +kernel)) (.cons (.str _ (by
              rw [sO_len]
              exact take_len_le (Nat.le_trans (wE_le _) (by decide)))) .nil))
            refine k _ b _ q1 ?_ q3
            rw [q2]
            congr 5
            omega
          · rw [decide_eq_false h2]
            exact iteF (blk fun q => h2 q.2)
        · have hgt' : decide (((p + wE (z.cps.toList.drop p) : Nat) : Int) > ((p : Nat) : Int)) = false := by rw [← decide_eq_false h0, ← hgt]
          rw [hgt']
          exact iteF (blk fun q => h0 q.1)
theorem sc_head : FnScope ["text", "at", "sign", "behind"] ["text", "at"] (defScope (top 20)) := ⟨rfl, rfl, rfl, by decide +kernel, rfl, by decide +kernel, by decide +kernel⟩
theorem cl_head {C fI : Addr} (T : All K mg) (R : Er K mg "BadText" C fI) : ClX P w K mg base 5 "_head" ["text", "at"] (spHead K C) := by
  obtain ⟨g, fd, D⟩ := T.dn 20 _ _ rfl
  refine D.clX (D.fn.okX sc_head (fun vs H Q E h => ?_) (fun cdv A outer s H vs Q E hr h => ?_))
  · obtain ⟨z, p, rfl, _⟩ := h
    rfl
  · obtain ⟨z, p, rfl, hz, k⟩ := h
    refine ⟨_, (pss_cons (ps_set (i := 2) sc_head.nd rfl (Or.inl rfl) (pe_slice sl_str (pv 0) (po_some (pv 1)) (po_some (pe_op op_add (pv 1) pe_int))))
      (pss_cons (ps_if (pt_cmpR op_eq (pv 2) pe_str (nomark _)) (pss_one (ps_ret (pe_cl (cl_br T) hr (by decide) (pa_cons (pv 0) (pa_cons (pe_op op_add (pv 1) pe_int) pa_nil))))) pss_nil)
      (pss_cons (ps_if (pt_cmpR op_eq (pv 2) pe_str (nomark _)) (pss_one (ps_ret (pe_tup (pa_cons (pe_tup (pa_cons pe_str pa_nil)) (pa_cons (pe_op op_add (pv 1) pe_int) pa_nil))))) pss_nil)
      (pss_cons (ps_set (i := 3) sc_head.nd rfl (Or.inl rfl) (pe_cl (cl_wend T) hr (by decide) (pa_cons (pv 0) (pa_cons (pv 1) pa_nil))))
      (pss_cons (ps_if (pt_cmpR op_gt (pv 3) (pv 1) (nomark _)) (pss_one (ps_ret (pe_tup (pa_cons (pe_tup (pa_cons pe_str (pa_cons (pe_slice sl_str (pv 0) (po_some (pv 1)) (po_some (pv 3))) pa_nil))) (pa_cons (pv 3) pa_nil))))) pss_nil)
      (pss_cons (ps_set (i := 3) sc_head.nd rfl (Or.inl rfl) (pe_cl (cl_nend T) hr (by decide) (pa_cons (pv 0) (pa_cons (pv 1) pa_nil))))
      (pss_cons (ps_if (pt_cmpR op_gt (pv 3) (pv 1) (nomark _)) (pss_one (ps_ret (pe_tup (pa_cons (pe_tup (pa_cons pe_str (pa_cons (pe_callTy call_int_str (by rfl) T.bi.int (by decide +kernel) (pa_cons (pe_slice sl_str (pv 0) (po_some (pv 1)) (po_some (pv 3))) pa_nil)) pa_nil))) (pa_cons (pv 3) pa_nil))))) pss_nil)
      (pss_one (ps_raise rfl (takes_of rfl rfl rfl rfl) (pmk_err R hr (by decide) (pa_cons (pv 1) pa_nil))))))))))), ?_⟩
    have c1 : ∀ q : Nat, (((q : Nat) : Int) + 1) = ((q + 1 : Nat) : Int) := fun q => by omega
    refine ⟨_, rfl, _, rfl, _, rfl, _, rfl, _, _, rfl, rfl, _, rfl, z, rfl, sizeL hz, ?_⟩
    rw [c1, cut_nat, Nat.add_sub_cancel_left]
    refine ⟨_, rfl, rfl, _, rfl, ?_⟩
    rw [sign_is (c := 40) (by decide +kernel)]
    have s1 : 1 ≤ sizeLine := sizeL (by decide) (m := 1)
    have s2 : 2 ≤ sizeLine := sizeL (by decide) (m := 2)
    unfold hdM at k
    cases e1 : sgM (fun c => c == 40) (z.cps.toList.drop p) with
    | true =>
      rw [e1, if_pos rfl] at k
      refine iteT ⟨_, rfl, _, rfl, _, _, rfl, rfl, z, p + 1, rfl, hz, fun H' t u S h1 h2 => ?_⟩
      rw [List.drop_drop] at k
      generalize brM (z.cps.toList.drop (p + 1)) = br at k h1 h2
      obtain ⟨hh, n⟩ := br
      refine k H' t u S ?_ h2
      rw [h1]
      congr 5
      show (((p + 1 + n : Nat) : Int) - 1) = ((p + n : Nat) : Int)
      omega
    | false =>
      rw [e1, if_neg Bool.false_ne_true] at k
      refine iteF ⟨_, rfl, rfl, _, rfl, ?_⟩
      rw [sign_is (c := 63) (by decide +kernel)]
      cases e2 : sgM (fun c => c == 63) (z.cps.toList.drop p) with
      | true =>
        rw [e2, if_pos rfl] at k
        refine iteT ⟨s1, fun a na => ⟨_, rfl, _, _, rfl, rfl, s2, fun b nb => ?_⟩⟩
        obtain ⟨q1, q2, q3⟩ := pair_new (x := .int ((p : Int) + 1)) (ds := [.str "lost"]) na nb (.cons (.str _ (by decide +kernel)) .nil)
        exact k _ b _ q1 q2 q3
      | false =>
        rw [e2, if_neg Bool.false_ne_true] at k
        refine iteF ⟨_, rfl, _, rfl, z, p, rfl, hz, ?_⟩
        refine ⟨_, rfl, _, rfl, _, _, rfl, rfl, _, rfl, ?_⟩
        have hgt : ∀ n : Nat, decide (((p + n : Nat) : Int) > ((p : Nat) : Int)) = decide (0 < n) := by
          intro n
          by_cases h : 0 < n
          · rw [decide_eq_true h, decide_eq_true (by omega)]
          · rw [decide_eq_false h, decide_eq_false (by omega)]
        rw [hgt]
        by_cases h0 : 0 < wE (z.cps.toList.drop p)
        · rw [if_pos h0] at k
          rw [decide_eq_true h0]
          refine iteT ⟨_, rfl, _, rfl, _, rfl, _, rfl, _, rfl, z, rfl, sizeL hz, s2, fun a na => ⟨_, rfl, s2, fun b nb => ?_⟩⟩
          rw [cut_nat, Nat.add_sub_cancel_left] at nb ⊢
          obtain ⟨q1, q2, q3⟩ := pair_new (x := .int ((p + wE (z.cps.toList.drop p) : Nat) : Int)) (ds := [.str "use", .str (sO ((z.cps.toList.drop p).take (wE (z.cps.toList.drop p))))]) na nb (.cons (.str _ (by decide +kernel)) (.cons (.str _ (by
              rw [sO_len]
              exact take_len_le (Nat.le_trans (wE_le _) (by decide)))) .nil))
          exact k _ b _ q1 q2 q3
        · rw [if_neg h0] at k
          rw [decide_eq_false h0]
          refine iteF ⟨_, rfl, _, rfl, z, p, rfl, hz, ?_⟩
          refine ⟨_, rfl, _, rfl, _, _, rfl, rfl, _, rfl, ?_⟩
          rw [hgt]
          by_cases h1 : 0 < nE (z.cps.toList.drop p)
          · rw [if_pos h1] at k
            rw [decide_eq_true h1]
            refine iteT ⟨_, rfl, _, rfl, _, rfl, _, rfl, _, rfl, z, rfl, sizeL hz, ?_⟩
            rw [cut_nat, Nat.add_sub_cancel_left]
            refine ⟨_, _, rfl, num_of h1, ?_, s2, fun a na => ⟨_, rfl, s2, fun b nb => ?_⟩⟩
            · rw [sO_len]
              exact take_len_le (Nat.le_trans (nE_le _) (by decide))
            · obtain ⟨q1, q2, q3⟩ := pair_new (x := .int ((p + nE (z.cps.toList.drop p) : Nat) : Int)) (ds := [.str "number", .int (numL ((z.cps.toList.drop p).take (nE (z.cps.toList.drop p))))]) na nb (.cons (.str _ (by decide +kernel)) (.cons (.int _) .nil))
              exact k _ b _ q1 q2 q3
          · rw [if_neg h1] at k
            rw [decide_eq_false h1]
            exact iteF ⟨_, rfl, _, rfl, fun H2 d2 S2 h2 => k H2 d2 S2 h2⟩
end
end K1
set_option maxHeartbeats 4000000
/-! rules: objects that are made and may raise, their methods; xs[-1] op= e; str of data -/
namespace K1
open PySem L2 PySem.Spec PyProof.Rows
section
variable {X : Cx} {CX : CXT} {k : Nat} {f C : Addr} {fd : FuncData} {ps : List Str} {sp : Sp} {x m : Str} {p pos apos : Pos} {e o : Expr} {es : List Expr} {ta : TE} {t : TA}
theorem run_fnA {A : Around} {E : XK} {pins : List (Addr × Obj)} {σ : L2.St} {H : Hp} {s : Shared} {Q : VK} {us : List Value} {vs : List V} (F : FnOk X.prog X.w X.K X.mg X.base CX k f fd ps sp) (hr : Room k A) (hfr : A.frames = X.A.frames) (hb : Binds X.K fd ps []) (hx : PassesAt CX X σ E)
    (I : Inv X pins σ H s) (r : Vals vs us) (h : sp vs H Q E) : wpAny (model X.prog X.w) A (call (.ref f) us) (EP X pins σ Q) X.xe s := by
  have hl : us.length = ps.length := by rw [← r.length]; exact F.len _ _ _ _ h
  have b := hb s us I.kIn (by rw [List.append_nil]; exact hl)
  rw [List.append_nil] at b
  have e0 : Env0 X.prog X.w X.K X.mg X.base A X.stack s H := by
    have e := I.env0
    exact ⟨by rw [hfr]; exact e.frames, e.mod, e.bs, e.bsz, e.funs, e.frf, e.hok, e.bare⟩
  refine wpAny_call (codeAny_mono (F.run A X.stack s H ⟨us, []⟩ us vs Q E hr e0 b r h) fun r s' hq => ?_)
  cases r with
  | error e => exact hx pins H s e s' I hq
  | ok fl =>
    cases fl with
    | ret u => exact I.after hq
    | next => exact False.elim hq
    | brk => exact False.elim hq
    | cont => exact False.elim hq
/-- a callee that is never to raise -/
theorem passN {σ : L2.St} : PassesAt (L2.CX X.prog X.w) X σ E0 := fun pins H s e s' I c => by
  obtain ⟨_, _, _, _, _, _, _, _, _, _, _, _, z⟩ := c
  exact z.elim
theorem run_makeS {E : XK} {dvs : List V} {ds : List Value} {pins : List (Addr × Obj)} {σ : L2.St} {H : Hp} {s : Shared} {Q : VK} {us : List Value} {vs : List V} (M : Mk X.K C f) (F : FnOk X.prog X.w X.K X.mg X.base CX k f fd ps sp) (hr : Room (k + 1) X.A) (hb : Binds X.K fd ps ds) (hd : Vals dvs ds)
    (hx : PassesAt CX X σ E) (I : Inv X pins σ H s) (r : Vals vs us)
    (h : ∀ x dx, H x = none → H dx = none → dx ≠ x → sp (.ref x :: (vs ++ dvs)) (upd (upd H dx (.own x)) x (.ins C dx [])) (fun v H2 => v = .non ∧ Q (.ref x) H2) E) :
    wpAny (model X.prog X.w) X.A (call (.ref C) us) (EP X pins σ Q) X.xe s := by
  have hq := h (s.heap.objs.size + 1) s.heap.objs.size (I.hok.fresh (Nat.le_succ _)) (I.hok.fresh (Nat.le_refl _)) (Nat.ne_of_lt (Nat.lt_succ_self _))
  have I2 := Inv.made (C := C) I
  have r2 : Vals (V.ref (s.heap.objs.size + 1) :: (vs ++ dvs)) (Value.ref (s.heap.objs.size + 1) :: (us ++ ds)) := .cons rfl (r.append hd)
  have hl : (Value.ref (s.heap.objs.size + 1) :: us ++ ds).length = ps.length := by
    have e := r2.length
    rw [F.len _ _ _ _ hq] at e
    exact e.symm
  refine wpAny_call (make_map (f := f) I.kIn M.makes M.init (beq_iff_eq.mp M.fn) (codeAny_mono (F.run _ X.stack _ _ ⟨Value.ref (s.heap.objs.size + 1) :: us, []⟩ (Value.ref (s.heap.objs.size + 1) :: (us ++ ds)) _ _ E (hr.make C us [])
    (I2.env0.make C us []) (hb _ (Value.ref (s.heap.objs.size + 1) :: us) I2.kIn hl) r2 hq) fun r s' hq' => ?_))
  cases r with
  | error e => exact hx pins _ _ e s' I2 hq'
  | ok fl =>
    cases fl with
    | ret u =>
      obtain ⟨v, H', I3, rv, ev, q3⟩ := I2.after hq'
      subst ev
      exact ⟨rv, ⟨V.ref (s.heap.objs.size + 1), H', I3, rfl, q3⟩⟩
    | next => exact False.elim hq'
    | brk => exact False.elim hq'
    | cont => exact False.elim hq'
def tMakeS (C : Addr) (sp : Sp) (dvs : List V) (E : L2.St → XK) (t : TA) : TE := fun σ H Q => t σ H fun vs H1 => ∀ x dx, H1 x = none → H1 dx = none → dx ≠ x →
  sp (.ref x :: (vs ++ dvs)) (upd (upd H1 dx (.own x)) x (.ins C dx [])) (fun v H2 => v = .non ∧ Q (.ref x) H2) (E σ)
theorem pe_makeS {E : L2.St → XK} {dvs : List V} {ds : List Value} (M : Mk X.K C f) (F : FnOk X.prog X.w X.K X.mg X.base CX k f fd ps sp) (hr : Room (k + 1) X.A) (hg : Gl X x) (hm : X.mg x = some (.ref C)) (hb : Binds X.K fd ps ds) (hd : Vals dvs ds) (hx : ∀ σ, PassesAt CX X σ (E σ))
    (ha : PA X (e :: es) t) (hdb : (x == ("__debug__" : Str)) = false := by decide) (he : starEach (e :: es) X.env = (false, eval e X.env) :: starEach es X.env := by rfl) (hpl : (backTo pos (starEach es X.env)).any (·.1) = false := by rfl) :
    PE X (.Call (.Name x p) (e :: es) [] pos) (tMakeS C sp dvs E t) := by
  refine ⟨fun pins s σ H Q I h => ?_⟩
  refine wpAny_Call_Name_kw (ld_glob I hg hm ?_ hdb)
  refine PySem.W.callWith_K (h₀ := X.base) I.ok.mod.kin M.kp (thn (ha.run pos pins s σ H _ I h) fun us s1 ⟨vs, H1, I1, r, q⟩ => ⟨I1.kIn, ?_⟩) he hpl
  exact run_makeS M F hr hb hd (hx σ) I1 r q
/-- o.m(e, ..), which may raise -/
def tMethS (C : Addr) (m : Str) (sp : Sp) (E : L2.St → XK) (ta : TE) (t : TA) : TE := fun σ H Q => ta σ H fun x H1 => ∃ a dx fs, x = .ref a ∧ H1 a = some (.ins C dx fs) ∧ fs.lookup m = none ∧ t σ H1 fun vs H2 => sp (x :: vs) H2 Q (E σ)
theorem pe_methS {X : Cx} {CX : CXT} {k : Nat} {f C : Addr} {fd : FuncData} {ps : List Str} {sp : Sp} {E : L2.St → XK} {m : Str} {pos apos : Pos} {e o : Expr} {es : List Expr} {ta : TE} {t : TA} {pl : Sem Bool} (he : PE X o ta) (c : Cls X.K C) (hm : Meth X.K C m f) (F : FnOk X.prog X.w X.K X.mg X.base CX k f fd ps sp) (hr : Room k X.A) (hb : Binds X.K fd ps []) (hx : ∀ σ, PassesAt CX X σ (E σ)) (ha : PA X (e :: es) t)
    (hst : starEach (e :: es) X.env = (false, eval e X.env) :: starEach es X.env := by rfl) (hpl : (backTo pos (starEach es X.env)).any (·.1) = false := by rfl)
    (ht : eval (.Call (.Attribute o m apos) (e :: es) [] pos) X.env = (do
      let ov ← eval o X.env
      standAt apos.atName
      let (f, first) ← holding [ov] (getMethod ov m pl)
      callWith pos f first (backTo pos (starEach (e :: es) X.env)) (backToKw pos (keywordEach [] X.env))) := by rfl) :
    PE X (.Call (.Attribute o m apos) (e :: es) [] pos) (tMethS C m sp E ta t) := by
  refine ⟨fun pins s σ H Q I h => ?_⟩
  refine PySem.W.methodCall_KW (pl := pl) (thn (he.run pins s σ H _ I h) fun u s1 ⟨x, H1, I1, rx, a, dx, fs, ex, ea, l, q⟩ => ?_) ht
  subst ex
  obtain rfl : u = Value.ref a := rx
  refine getmeth_ok I1 ea c hm l ?_
  refine PySem.W.callWith_K (first := [.ref a]) (h₀ := X.base) I.ok.mod.kin hm.kp (thn (ha.run pos pins s1 σ H1 _ I1 q) fun us s2 ⟨vs, H2, I2, r, q2⟩ => ⟨I2.kIn, ?_⟩) hst hpl
  exact run_fnA (us := .ref a :: us) (vs := .ref a :: vs) F hr rfl hb (hx σ) I2 (.cons rfl r) q2
end
theorem pe_methS0 {X : Cx} {CX : CXT} {k : Nat} {f C : Addr} {fd : FuncData} {ps : List Str} {sp : Sp} {E : L2.St → XK} {m : Str} {pos apos : Pos} {o : Expr} {ta : TE} {pl : Sem Bool} (he : PE X o ta) (c : Cls X.K C) (hm : Meth X.K C m f) (F : FnOk X.prog X.w X.K X.mg X.base CX k f fd ps sp) (hr : Room k X.A) (hb : Binds X.K fd ps []) (hx : ∀ σ, PassesAt CX X σ (E σ))
    (ht : eval (.Call (.Attribute o m apos) [] [] pos) X.env = (do
      let ov ← eval o X.env
      standAt apos.atName
      let (f, first) ← holding [ov] (getMethod ov m pl)
      callWith pos f first (backTo pos (starEach [] X.env)) (backToKw pos (keywordEach [] X.env))) := by rfl) :
    PE X (.Call (.Attribute o m apos) [] [] pos) (tMethS C m sp E ta tNil) := by
  refine ⟨fun pins s σ H Q I h => ?_⟩
  refine PySem.W.methodCall_KW (pl := pl) (thn (he.run pins s σ H _ I h) fun u s1 ⟨x, H1, I1, rx, a, dx, fs, ex, ea, l, q⟩ => ?_) ht
  subst ex
  obtain rfl : u = Value.ref a := rx
  refine getmeth_ok I1 ea c hm l ?_
  exact PySem.W.callWith_K0 (first := [.ref a]) I1.kIn hm.kp (by
    have z := run_fnA (us := [.ref a]) (vs := [.ref a]) F hr rfl hb (hx σ) I1 (.cons rfl .nil) q
    exact z)
/-- xs[i], i below nothing, to be written again -/
theorem pget_list {X : Cx} : PGet X (fun o i H Q => ∃ p xs k v, o = .ref p ∧ i = .int k ∧ SqL X.K H p xs ∧ k < 0 ∧ atI xs k = some v ∧ Q v H) := by
  intro pins s σ H o i ov iv Q I ro ri h
  obtain ⟨p, xs, k, z, rfl, rfl, hq, h0, he, q⟩ := h
  cases ro
  obtain ⟨t, rfl⟩ := ri
  obtain ⟨its, r, pl, hz⟩ := I.list hq
  obtain ⟨j, h1, h2, h3, h4, h5⟩ := atI_get he
  obtain ⟨w, ew, rw'⟩ := r.get h2
  have hl := r.length
  have hn := line63
  have hj : (k + (its.toArray.size : Int)).toNat = j := by
    rw [seqIndex_neg (by omega) h4] at h1
    rw [List.size_toArray, ← hl]
    exact Option.some.inj h1
  exact wpAny_getItem_list_neg pl.isList h0 (by rw [List.size_toArray] <;> omega) (by omega) (by rw [hj]; simpa using ew) ⟨z, H, I, rw', q⟩
/-- str of a tuple -/
def rStrT (K : PySem.W.Frag) : List V → Hp → VK → Prop := fun xs H Q => ∃ (v : V) (ds : List PyData), xs = [v] ∧ Shows K H v (.tuple ds) ∧ Q (.str (PyData.shown (.tuple ds))) H
theorem call_strT {X : Cx} (hg : X.A.guards = some []) (hu : X.A.units + 64 < cLine) : CallR X (.type "str") (rStrT X.K) := by
  intro pins s σ H xs us Q I r h
  obtain ⟨v, ds, rfl, S, q⟩ := h
  obtain ⟨u, rfl, ru⟩ := vals1 r
  obtain ⟨as, hr, hsm⟩ := DQ.reads I _ v u S.dq ru
  have hsm' : PyData.hasDict (.tuple ds) = true → sysModules ∉ as := fun z => hsm (S.nl z)
  have hdp := S.dp
  cases hr with
  | tuple a1 a2 a3 a4 => exact str_of_reads (PySem.Reads.tuple a1 a2 a3 a4) S.sh hsm' hg (by omega) (fun _ _ e => e) (fun h' u tk hk => ⟨.str _, H, I.kept hk, ⟨_, rfl⟩, q⟩) S.sz
end K1
set_option maxHeartbeats 4000000
/-! a scan that stands in the heap -/
namespace K1
open PySem L2
structure Ad where
  p : Addr
  a1 : Addr
  a2 : Addr
  a3 : Addr
  a4 : Addr
  a5 : Addr
  a6 : Addr
def Ad.L (a : Ad) : List Addr := [a.p, a.a1, a.a2, a.a3, a.a4, a.a5, a.a6]
theorem Ad.apart {a : Ad} (h : a.L.Nodup) : a.p ≠ a.a1 ∧ a.p ≠ a.a2 ∧ a.p ≠ a.a3 ∧ a.p ≠ a.a4 ∧ a.p ≠ a.a5 ∧ a.p ≠ a.a6 ∧ a.a1 ≠ a.a2 ∧ a.a1 ≠ a.a3 ∧ a.a1 ≠ a.a4 ∧ a.a1 ≠ a.a5 ∧ a.a1 ≠ a.a6 ∧ a.a2 ≠ a.a3 ∧ a.a2 ≠ a.a4 ∧ a.a2 ≠ a.a5 ∧ a.a2 ≠ a.a6 ∧ a.a3 ≠ a.a4 ∧ a.a3 ≠ a.a5 ∧ a.a3 ≠ a.a6 ∧ a.a4 ≠ a.a5 ∧ a.a4 ≠ a.a6 ∧ a.a5 ≠ a.a6 := by
  unfold Ad.L at h
  simp only [List.nodup_cons, List.mem_cons, List.not_mem_nil, or_false, not_or] at h
  obtain ⟨⟨h01, h02, h03, h04, h05, h06⟩, ⟨h12, h13, h14, h15, h16⟩, ⟨h23, h24, h25, h26⟩, ⟨h34, h35, h36⟩, ⟨h45, h46⟩, h56, _⟩ := h
  exact ⟨h01, h02, h03, h04, h05, h06, h12, h13, h14, h15, h16, h23, h24, h25, h26, h34, h35, h36, h45, h46, h56⟩

/-- all but those -/
def hidS (L : List Addr) (H : Hp) : Hp := fun b => if b ∈ L then none else H b
theorem hidS_at {L : List Addr} {H : Hp} {b : Addr} {u : HO} (h : hidS L H b = some u) : b ∉ L ∧ H b = some u := by
  unfold hidS at h
  by_cases e : b ∈ L
  · rw [if_pos e] at h
    cases h
  · rw [if_neg e] at h
    exact ⟨e, h⟩
theorem hidS_of {L : List Addr} {H : Hp} {b : Addr} {u : HO} (n : b ∉ L) (h : H b = some u) : hidS L H b = some u := by
  unfold hidS
  rw [if_neg n]
  exact h
theorem hidS_in (L : List Addr) (H : Hp) : Same (hidS L H) H := fun b u e => (hidS_at e).2
theorem hidS_more {L : List Addr} {H H' : Hp} (s : Same H H') : Same (hidS L H) (hidS L H') := fun b u e => hidS_of (hidS_at e).1 (s _ _ (hidS_at e).2)
theorem hidS_upd {L : List Addr} {H : Hp} {x : Addr} {o : HO} (h : x ∈ L) : hidS L (upd H x o) = hidS L H := by
  funext b
  unfold hidS
  by_cases e : b ∈ L
  · rw [if_pos e, if_pos e]
  · rw [if_neg e, if_neg e, upd_ne (fun q => e (by rw [q]; exact h))]
theorem hidS_nw {L : List Addr} {H H' : Hp} (h : ∀ b ∈ L, H b ≠ none) : Same (nw H H') (hidS L H') := fun b u e => hidS_of (fun q => h b q (nw_at e).1) (nw_at e).2
def pathD (l : List Int) : PyData := .tuple (l.map PyData.int)
def natV (n : Nat) : V := .int (n : Int)
/-- the attributes of a scan -/
def scF (a : Ad) (z : Str) (p : Nat) : List (Str × V) := [("paths", .ref a.a1), ("heads", .ref a.a2), ("firsts", .ref a.a3), ("behinds", .ref a.a4), ("_text", .str z), ("_at", natV p), ("_around", .ref a.a5), ("_counts", .ref a.a6)]
structure ScAt (K : PySem.W.Frag) (C : Addr) (H : Hp) (a : Ad) (z : Str) (S : Sc) : Prop where
  ob : ∃ dx, H a.p = some (.ins C dx (scF a z S.pos))
  l1 : ∃ vs, H a.a1 = some (.lst vs) ∧ DQs K (hidS a.L H) vs (S.paths.map pathD)
  l2 : ∃ vs, H a.a2 = some (.lst vs) ∧ DQs K (hidS a.L H) vs (S.heads.map PyData.tuple)
  l3 : H a.a3 = some (.lst (S.firsts.map V.int))
  l4 : H a.a4 = some (.lst (S.behinds.map V.int))
  l5 : H a.a5 = some (.lst (S.around.map natV))
  l6 : H a.a6 = some (.lst (S.counts.map natV))
  nd : a.L.Nodup
theorem ScAt.there {K : PySem.W.Frag} {C : Addr} {H : Hp} {a : Ad} {z : Str} {S : Sc} (A : ScAt K C H a z S) : ∀ b ∈ a.L, H b ≠ none := by
  obtain ⟨dx, h0⟩ := A.ob
  obtain ⟨v1, h1, _⟩ := A.l1
  obtain ⟨v2, h2, _⟩ := A.l2
  intro b hb e
  unfold Ad.L at hb
  simp only [List.mem_cons, List.not_mem_nil, or_false] at hb
  rcases hb with rfl | rfl | rfl | rfl | rfl | rfl | rfl
  · rw [h0] at e; cases e
  · rw [h1] at e; cases e
  · rw [h2] at e; cases e
  · rw [A.l3] at e; cases e
  · rw [A.l4] at e; cases e
  · rw [A.l5] at e; cases e
  · rw [A.l6] at e; cases e
theorem ScAt.same {K : PySem.W.Frag} {C : Addr} {H H' : Hp} {a : Ad} {z : Str} {S : Sc} (A : ScAt K C H a z S) (s : Same H H') : ScAt K C H' a z S := by
  obtain ⟨dx, h0⟩ := A.ob
  obtain ⟨v1, h1, d1⟩ := A.l1
  obtain ⟨v2, h2, d2⟩ := A.l2
  exact ⟨⟨dx, s _ _ h0⟩, ⟨v1, s _ _ h1, d1.to (hidS_more s)⟩, ⟨v2, s _ _ h2, d2.to (hidS_more s)⟩, s _ _ A.l3, s _ _ A.l4, s _ _ A.l5, s _ _ A.l6, A.nd⟩
theorem ScAt.pos {K : PySem.W.Frag} {C : Addr} {H : Hp} {a : Ad} {z : Str} {S : Sc} (A : ScAt K C H a z S) (q : Nat) : ∃ dx, H a.p = some (.ins C dx (scF a z S.pos)) ∧ ScAt K C (upd H a.p (.ins C dx (scF a z q))) a z { S with pos := q } := by
  obtain ⟨h01, h02, h03, h04, h05, h06, h12, h13, h14, h15, h16, h23, h24, h25, h26, h34, h35, h36, h45, h46, h56⟩ := Ad.apart A.nd
  have e : ∀ o, hidS a.L (upd H a.p o) = hidS a.L H := fun o => hidS_upd (by simp [Ad.L])
  obtain ⟨dx, h⟩ := A.ob
  exact ⟨dx, h, ⟨⟨dx, upd_same⟩, ⟨A.l1.choose, by rw [upd_ne (Ne.symm h01)]; exact A.l1.choose_spec.1, by rw [e]; exact A.l1.choose_spec.2⟩, ⟨A.l2.choose, by rw [upd_ne (Ne.symm h02)]; exact A.l2.choose_spec.1, by rw [e]; exact A.l2.choose_spec.2⟩, (by rw [upd_ne (Ne.symm h03)]; exact A.l3), (by rw [upd_ne (Ne.symm h04)]; exact A.l4), (by rw [upd_ne (Ne.symm h05)]; exact A.l5), (by rw [upd_ne (Ne.symm h06)]; exact A.l6), A.nd⟩⟩
theorem ScAt.path {K : PySem.W.Frag} {C : Addr} {H : Hp} {a : Ad} {z : Str} {S : Sc} (A : ScAt K C H a z S) {v : V} {l : List Int} (hv : DQ K (hidS a.L H) v (pathD l)) : ∃ vs, H a.a1 = some (.lst vs) ∧ vs.length = S.paths.length ∧ ScAt K C (upd H a.a1 (.lst (vs ++ [v]))) a z { S with paths := S.paths ++ [l] } := by
  obtain ⟨h01, h02, h03, h04, h05, h06, h12, h13, h14, h15, h16, h23, h24, h25, h26, h34, h35, h36, h45, h46, h56⟩ := Ad.apart A.nd
  have e : ∀ o, hidS a.L (upd H a.a1 o) = hidS a.L H := fun o => hidS_upd (by simp [Ad.L])
  obtain ⟨vs, g1, g2⟩ := A.l1
  exact ⟨vs, g1, by rw [g2.len, List.length_map], ⟨⟨A.ob.choose, by rw [upd_ne h01]; exact A.ob.choose_spec⟩, ⟨_, upd_same, by rw [e, List.map_append]; exact g2.app (.cons hv .nil)⟩, ⟨A.l2.choose, by rw [upd_ne (Ne.symm h12)]; exact A.l2.choose_spec.1, by rw [e]; exact A.l2.choose_spec.2⟩, (by rw [upd_ne (Ne.symm h13)]; exact A.l3), (by rw [upd_ne (Ne.symm h14)]; exact A.l4), (by rw [upd_ne (Ne.symm h15)]; exact A.l5), (by rw [upd_ne (Ne.symm h16)]; exact A.l6), A.nd⟩⟩
theorem ScAt.head {K : PySem.W.Frag} {C : Addr} {H : Hp} {a : Ad} {z : Str} {S : Sc} (A : ScAt K C H a z S) {v : V} {l : List PyData} (hv : DQ K (hidS a.L H) v (.tuple l)) : ∃ vs, H a.a2 = some (.lst vs) ∧ vs.length = S.heads.length ∧ ScAt K C (upd H a.a2 (.lst (vs ++ [v]))) a z { S with heads := S.heads ++ [l] } := by
  obtain ⟨h01, h02, h03, h04, h05, h06, h12, h13, h14, h15, h16, h23, h24, h25, h26, h34, h35, h36, h45, h46, h56⟩ := Ad.apart A.nd
  have e : ∀ o, hidS a.L (upd H a.a2 o) = hidS a.L H := fun o => hidS_upd (by simp [Ad.L])
  obtain ⟨vs, g1, g2⟩ := A.l2
  exact ⟨vs, g1, by rw [g2.len, List.length_map], ⟨⟨A.ob.choose, by rw [upd_ne h02]; exact A.ob.choose_spec⟩, ⟨A.l1.choose, by rw [upd_ne h12]; exact A.l1.choose_spec.1, by rw [e]; exact A.l1.choose_spec.2⟩, ⟨_, upd_same, by rw [e, List.map_append]; exact g2.app (.cons hv .nil)⟩, (by rw [upd_ne (Ne.symm h23)]; exact A.l3), (by rw [upd_ne (Ne.symm h24)]; exact A.l4), (by rw [upd_ne (Ne.symm h25)]; exact A.l5), (by rw [upd_ne (Ne.symm h26)]; exact A.l6), A.nd⟩⟩
theorem ScAt.first {K : PySem.W.Frag} {C : Addr} {H : Hp} {a : Ad} {z : Str} {S : Sc} (A : ScAt K C H a z S) (l : List Int) : ScAt K C (upd H a.a3 (.lst (l.map V.int))) a z { S with firsts := l } := by
  obtain ⟨h01, h02, h03, h04, h05, h06, h12, h13, h14, h15, h16, h23, h24, h25, h26, h34, h35, h36, h45, h46, h56⟩ := Ad.apart A.nd
  have e : ∀ o, hidS a.L (upd H a.a3 o) = hidS a.L H := fun o => hidS_upd (by simp [Ad.L])
  exact ⟨⟨A.ob.choose, by rw [upd_ne h03]; exact A.ob.choose_spec⟩, ⟨A.l1.choose, by rw [upd_ne h13]; exact A.l1.choose_spec.1, by rw [e]; exact A.l1.choose_spec.2⟩, ⟨A.l2.choose, by rw [upd_ne h23]; exact A.l2.choose_spec.1, by rw [e]; exact A.l2.choose_spec.2⟩, upd_same, (by rw [upd_ne (Ne.symm h34)]; exact A.l4), (by rw [upd_ne (Ne.symm h35)]; exact A.l5), (by rw [upd_ne (Ne.symm h36)]; exact A.l6), A.nd⟩
theorem ScAt.behind {K : PySem.W.Frag} {C : Addr} {H : Hp} {a : Ad} {z : Str} {S : Sc} (A : ScAt K C H a z S) (l : List Int) : ScAt K C (upd H a.a4 (.lst (l.map V.int))) a z { S with behinds := l } := by
  obtain ⟨h01, h02, h03, h04, h05, h06, h12, h13, h14, h15, h16, h23, h24, h25, h26, h34, h35, h36, h45, h46, h56⟩ := Ad.apart A.nd
  have e : ∀ o, hidS a.L (upd H a.a4 o) = hidS a.L H := fun o => hidS_upd (by simp [Ad.L])
  exact ⟨⟨A.ob.choose, by rw [upd_ne h04]; exact A.ob.choose_spec⟩, ⟨A.l1.choose, by rw [upd_ne h14]; exact A.l1.choose_spec.1, by rw [e]; exact A.l1.choose_spec.2⟩, ⟨A.l2.choose, by rw [upd_ne h24]; exact A.l2.choose_spec.1, by rw [e]; exact A.l2.choose_spec.2⟩, (by rw [upd_ne h34]; exact A.l3), upd_same, (by rw [upd_ne (Ne.symm h45)]; exact A.l5), (by rw [upd_ne (Ne.symm h46)]; exact A.l6), A.nd⟩
theorem ScAt.arnd {K : PySem.W.Frag} {C : Addr} {H : Hp} {a : Ad} {z : Str} {S : Sc} (A : ScAt K C H a z S) (l : List Nat) : ScAt K C (upd H a.a5 (.lst (l.map natV))) a z { S with around := l } := by
  obtain ⟨h01, h02, h03, h04, h05, h06, h12, h13, h14, h15, h16, h23, h24, h25, h26, h34, h35, h36, h45, h46, h56⟩ := Ad.apart A.nd
  have e : ∀ o, hidS a.L (upd H a.a5 o) = hidS a.L H := fun o => hidS_upd (by simp [Ad.L])
  exact ⟨⟨A.ob.choose, by rw [upd_ne h05]; exact A.ob.choose_spec⟩, ⟨A.l1.choose, by rw [upd_ne h15]; exact A.l1.choose_spec.1, by rw [e]; exact A.l1.choose_spec.2⟩, ⟨A.l2.choose, by rw [upd_ne h25]; exact A.l2.choose_spec.1, by rw [e]; exact A.l2.choose_spec.2⟩, (by rw [upd_ne h35]; exact A.l3), (by rw [upd_ne h45]; exact A.l4), upd_same, (by rw [upd_ne (Ne.symm h56)]; exact A.l6), A.nd⟩
theorem ScAt.cnt {K : PySem.W.Frag} {C : Addr} {H : Hp} {a : Ad} {z : Str} {S : Sc} (A : ScAt K C H a z S) (l : List Nat) : ScAt K C (upd H a.a6 (.lst (l.map natV))) a z { S with counts := l } := by
  obtain ⟨h01, h02, h03, h04, h05, h06, h12, h13, h14, h15, h16, h23, h24, h25, h26, h34, h35, h36, h45, h46, h56⟩ := Ad.apart A.nd
  have e : ∀ o, hidS a.L (upd H a.a6 o) = hidS a.L H := fun o => hidS_upd (by simp [Ad.L])
  exact ⟨⟨A.ob.choose, by rw [upd_ne h06]; exact A.ob.choose_spec⟩, ⟨A.l1.choose, by rw [upd_ne h16]; exact A.l1.choose_spec.1, by rw [e]; exact A.l1.choose_spec.2⟩, ⟨A.l2.choose, by rw [upd_ne h26]; exact A.l2.choose_spec.1, by rw [e]; exact A.l2.choose_spec.2⟩, (by rw [upd_ne h36]; exact A.l3), (by rw [upd_ne h46]; exact A.l4), (by rw [upd_ne h56]; exact A.l5), upd_same, A.nd⟩

theorem putF_at (a : Ad) (z : Str) (p q : Nat) : putF "_at" (natV q) (scF a z p) = scF a z q := by rfl
/-- the class as the top has made it -/
structure ScC (K : PySem.W.Frag) (mg : Str → Option Value) (C : Addr) : Prop where
  cl : Cls K C
  mg : mg "Scan" = some (.ref C)
  n1 : NoAttr K C "paths"
  n2 : NoAttr K C "heads"
  n3 : NoAttr K C "firsts"
  n4 : NoAttr K C "behinds"
  nT : NoAttr K C "_text"
  nA : NoAttr K C "_at"
  n5 : NoAttr K C "_around"
  n6 : NoAttr K C "_counts"
  ini : ∃ f fd, Fun K "__init__" "Scan.__init__" (inClass (top 17) 0) f fd ∧ Binds K fd ["self", "text"] [] ∧ Mk K C f
  run : ∃ f fd, Fun K "_run" "Scan._run" (inClass (top 17) 1) f fd ∧ Binds K fd ["self"] [] ∧ Meth K C "_run" f
  isn : ∃ f fd, Fun K "_is_in_new_block" "Scan._is_in_new_block" (inClass (top 17) 2) f fd ∧ Binds K fd ["self"] [] ∧ Meth K C "_is_in_new_block" f
  beg : ∃ f fd, Fun K "_begin" "Scan._begin" (inClass (top 17) 3) f fd ∧ Binds K fd ["self"] [] ∧ Meth K C "_begin" f
  clo : ∃ f fd, Fun K "_close" "Scan._close" (inClass (top 17) 4) f fd ∧ Binds K fd ["self"] [] ∧ Meth K C "_close" f
theorem look1 (a : Ad) (z : Str) (p : Nat) : (scF a z p).lookup ("paths" : Str) = some (.ref a.a1) := by rfl
theorem look2 (a : Ad) (z : Str) (p : Nat) : (scF a z p).lookup ("heads" : Str) = some (.ref a.a2) := by rfl
theorem look3 (a : Ad) (z : Str) (p : Nat) : (scF a z p).lookup ("firsts" : Str) = some (.ref a.a3) := by rfl
theorem look4 (a : Ad) (z : Str) (p : Nat) : (scF a z p).lookup ("behinds" : Str) = some (.ref a.a4) := by rfl
theorem lookT (a : Ad) (z : Str) (p : Nat) : (scF a z p).lookup ("_text" : Str) = some (.str z) := by rfl
theorem lookA (a : Ad) (z : Str) (p : Nat) : (scF a z p).lookup ("_at" : Str) = some (natV p) := by rfl
theorem look5 (a : Ad) (z : Str) (p : Nat) : (scF a z p).lookup ("_around" : Str) = some (.ref a.a5) := by rfl
theorem look6 (a : Ad) (z : Str) (p : Nat) : (scF a z p).lookup ("_counts" : Str) = some (.ref a.a6) := by rfl
theorem atI_end {xs : List V} {v : V} (h : xs.getLast? = some v) (hl : xs.length < 2 ^ 62) : atI xs (-1) = some v := by
  have ne : xs ≠ [] := fun e => by rw [e] at h; cases h
  have h0 : 0 < xs.length := List.length_pos_iff.mpr ne
  rw [List.getLast?_eq_getElem?] at h
  unfold atI
  have e : ixN xs.length (-1) = some (xs.length - 1) := by
    unfold ixN
    rw [if_neg (by decide)]
    rw [if_pos (by omega)]
    congr 1
    omega
  rw [e]
  exact h
end K1
set_option maxHeartbeats 4000000
/-! the methods of a scan -/
namespace K1
open PySem L2
/-- heads as they are found -/
def HdOk (h : List PyData) : Prop := (∃ x, h = [.str x] ∧ PyData.strOk x = true) ∨ (∃ x y, h = [.str x, .str y] ∧ PyData.strOk x = true ∧ PyData.strOk y = true ∧ y.length ≤ 6) ∨ ∃ x i, h = [.str x, .int i] ∧ PyData.strOk x = true
theorem let_mem : ∀ (n : Nat) (S : List Nat), ∀ c ∈ S.take (lE n S), c < 200
  | 0, S, c, h => by
    have : lE 0 S = 0 := by cases S <;> rfl
    rw [this] at h
    cases h
  | n + 1, [], c, h => by cases h
  | n + 1, d :: r, c, h => by
    have e : lE (n + 1) (d :: r) = if isLet d = true then lE n r + 1 else 0 := rfl
    by_cases q : isLet d = true
    · rw [e, if_pos q, List.take_succ_cons] at h
      rcases List.mem_cons.mp h with rfl | h
      · unfold isLet at q
        simp only [Bool.and_eq_true, decide_eq_true_eq] at q
        omega
      · exact let_mem n r c h
    · rw [e, if_neg q] at h
      cases h
theorem fig_lt {c : Nat} (h : isFig c = true) : c < 200 := by
  unfold isFig at h
  simp only [Bool.and_eq_true, decide_eq_true_eq] at h
  omega
theorem pos_mem (S : List Nat) : ∀ c ∈ S.take (pE S), c < 200 := by
  intro c h
  unfold pE at h
  cases e1 : sgM isFst S with
  | false =>
    rw [e1, if_neg Bool.false_ne_true] at h
    cases h
  | true =>
    rw [e1, if_pos rfl] at h
    cases S with
    | nil => cases e1
    | cons a r =>
      have ha := fig_lt (fst_fig (show isFst a = true from e1))
      cases e2 : sgM isFig ((a :: r).drop 1) with
      | false =>
        rw [e2, if_neg Bool.false_ne_true] at h
        have : c = a := by simpa using h
        rw [this]; exact ha
      | true =>
        rw [e2, if_pos rfl] at h
        cases r with
        | nil => cases e2
        | cons b r =>
          have hb := fig_lt (show isFig b = true from e2)
          have : c = a ∨ c = b := by simpa using h
          rcases this with rfl | rfl
          · exact ha
          · exact hb
theorem wr_mem (S : List Nat) : ∀ c ∈ S.take (wE S), c < 200 := by
  intro c h
  unfold wE at h
  split at h
  · cases h
  · rw [List.take_add] at h
    rcases List.mem_append.mp h with h | h
    · exact let_mem 4 S c h
    · exact pos_mem _ c h
theorem ok_small {l : List Nat} (h : ∀ c ∈ l, c < 200) : PyData.strOk (sO l) = true := by
  unfold PyData.strOk sO
  rw [List.all_toArray, List.all_eq_true]
  intro n hn
  have := h n hn
  exact decide_eq_true (by omega)
theorem lit_ok {x : String} : PyData.strOk (Str.ofString x) = true := by
  rw [Str.ofString_eq_toList]
  unfold PyData.strOk
  rw [List.all_toArray, List.all_eq_true]
  intro n hn
  obtain ⟨ch, _, rfl⟩ := List.mem_map.mp hn
  have h : ch.toNat < 0xd800 ∨ (0xdfff < ch.toNat ∧ ch.toNat < 0x110000) := ch.valid
  exact decide_eq_true (by omega)
theorem hdM_ok {S : List Nat} {h : List PyData} {n : Nat} (e : hdM S = some (h, n)) : HdOk h ∧ 1 ≤ n ∧ n ≤ 9 := by
  have wl := fun S => wE_le S
  have nl := nE_le S
  unfold hdM at e
  split at e
  · unfold brM at e
    split at e
    · cases e; exact ⟨.inl ⟨_, rfl, lit_ok⟩, by decide, by decide⟩
    · split at e
      · cases e; exact ⟨.inl ⟨_, rfl, lit_ok⟩, by decide, by decide⟩
      · split at e
        · cases e
          have := wl (S.drop 1)
          exact ⟨.inr (.inl ⟨_, _, rfl, lit_ok, ok_small (wr_mem _), by rw [sO_len]; exact take_len_le (wE_le _)⟩), by omega, by omega⟩
        · cases e; exact ⟨.inl ⟨_, rfl, lit_ok⟩, by decide, by decide⟩
  · split at e
    · cases e; exact ⟨.inl ⟨_, rfl, lit_ok⟩, by decide, by decide⟩
    · split at e
      · cases e
        have := wl S
        exact ⟨.inr (.inl ⟨_, _, rfl, lit_ok, ok_small (wr_mem _), by rw [sO_len]; exact take_len_le (wE_le _)⟩), by omega, by omega⟩
      · split at e
        · cases e
          exact ⟨.inr (.inr ⟨_, _, rfl, lit_ok⟩), by omega, by omega⟩
        · cases e
theorem HdOk.shaped {h : List PyData} (k : HdOk h) : SeqAt.shaped (.tuple h) = true := by
  rcases k with ⟨x, rfl, hx⟩ | ⟨x, y, rfl, hx, hy, _⟩ | ⟨x, i, rfl, hx⟩
  · simp [SeqAt.shaped, PyData.canLay0, PyData.canLayAll0, hx, PyData.depth, PyData.depthAll]
  · simp [SeqAt.shaped, PyData.canLay0, PyData.canLayAll0, hx, hy, PyData.depth, PyData.depthAll]
  · simp [SeqAt.shaped, PyData.canLay0, PyData.canLayAll0, hx, PyData.depth, PyData.depthAll]
theorem HdOk.dict {h : List PyData} (k : HdOk h) : PyData.hasDict (.tuple h) = false := by
  rcases k with ⟨x, rfl, _⟩ | ⟨x, y, rfl, _⟩ | ⟨x, i, rfl, _⟩ <;> rfl
theorem HdOk.blk {h : List PyData} (k : HdOk h) : PyData.eqv (.tuple h) (.tuple [.str "block"]) = blkH h := by
  rcases k with ⟨x, rfl, _⟩ | ⟨x, y, rfl, _⟩ | ⟨x, i, rfl, _⟩
  · simp [PyData.eqv, PyData.eqvAll, blkH]
  · simp [PyData.eqv, PyData.eqvAll, blkH]
  · simp [PyData.eqv, PyData.eqvAll, blkH]
theorem HdOk.kind {h : List PyData} (k : HdOk h) : ∃ x r, h = .str x :: r ∧ holdH h = holdsD (.str x) := by
  rcases k with ⟨x, rfl, _⟩ | ⟨x, y, rfl, _⟩ | ⟨x, i, rfl, _⟩ <;> exact ⟨_, _, rfl, rfl⟩
/-- what holds of a scan at each moment -/
structure ScOk (S : Sc) : Prop where
  wf : Wf S
  hd : ∀ h ∈ S.heads, HdOk h
  lc : S.counts.length = S.around.length + 1
  la : S.around.length ≤ S.heads.length
  nz : ∀ c ∈ S.counts.dropLast, c ≠ 0
  hp : S.heads.length ≤ S.pos
  pl : ∀ l ∈ S.paths, l.length ≤ S.heads.length
theorem ScOk.hol {S : Sc} (k : ScOk S) : S.holder.length ≤ S.heads.length := by
  unfold Sc.holder
  cases e : S.around.getLast? with
  | none => exact Nat.zero_le _
  | some i =>
    have hi := k.wf.ar i (List.mem_of_getLast? e)
    have hl := k.wf.lp
    show (S.paths.getD i []).length ≤ _
    rw [List.getD_eq_getElem?_getD, List.getElem?_eq_getElem (by omega)]
    exact k.pl _ (List.getElem_mem _)
theorem ScOk.last {S : Sc} (k : ScOk S) : (S.counts.map natV).getLast? = some (natV S.count) := by
  rw [List.getLast?_map, List.getLast?_eq_some_getLast k.wf.ne]
  show some (natV _) = some (natV ((S.counts.getLast?).getD 0))
  rw [List.getLast?_eq_some_getLast k.wf.ne]
  rfl
theorem getLast_natV {l : List Nat} {i : Nat} (h : l.getLast? = some i) : (l.map natV).getLast? = some (natV i) := by rw [List.getLast?_map, h]; rfl
def spIsn (K : PySem.W.Frag) (C : Addr) : Sp := fun vs H Q _ => ∃ a z S, vs = [.ref a.p] ∧ ScAt K C H a z S ∧ ScOk S ∧ (S.around = [] → S.count ≠ 0) ∧ S.pos ≤ 3000 ∧ ∀ H', Same H H' → Q (.bl S.newB) H'
def spClo (K : PySem.W.Frag) (C : Addr) : Sp := fun vs H Q _ => ∃ a z S, vs = [.ref a.p] ∧ ScAt K C H a z S ∧ ScOk S ∧ S.around ≠ [] ∧ ∀ H', ScAt K C H' a z S.close → hidS a.L H' = hidS a.L H → Q .non H'
section
variable {P : Program} {w : World} {K : PySem.W.Frag} {mg : Str → Option Value} {base : Heap}
theorem dec_nat0 {n : Nat} : decide (natV n = V.int 0) = (n == 0) := by
  by_cases h : n = 0
  · subst h; rfl
  · have q : (n == 0) = false := by simpa using h
    rw [q, decide_eq_false]
    intro z
    injection z with z
    omega
theorem sc_isn : FnScope ["self"] ["self"] (defScope (inClass (top 17) 2)) := ⟨rfl, rfl, rfl, by decide +kernel, rfl, by decide +kernel, by decide +kernel⟩
theorem ok_isn {C f : Addr} {fd : FuncData} (F : Fun K "_is_in_new_block" "Scan._is_in_new_block" (inClass (top 17) 2) f fd) (W : ScC K mg C) : FnOk P w K mg base CX0 1 f fd ["self"] (spIsn K C) := by
  refine F.ok sc_isn (fun vs H Q E h => ?_) (fun cdv A outer s H vs Q E hr h => ?_)
  · obtain ⟨a, z, S, rfl, _⟩ := h
    rfl
  · obtain ⟨a, z, S, rfl, At, Ok, tp, hp, k⟩ := h
    obtain ⟨dx, hob⟩ := At.ob
    have hl := Ok.hp
    have hla := Ok.la
    have hlc := Ok.lc
    have lenA : (S.around.map natV).length < 2 ^ 62 := by rw [List.length_map]; omega
    have lenC : (S.counts.map natV).length < 2 ^ 62 := by rw [List.length_map]; omega
    refine ⟨_, (pss_one (ps_ret (pe_and (pe_cmpR op_eq (pe_ix ix_list (pe_fld (pv 0) rfl) (pe_un un_neg pe_int) (fun _ _ => rfl)) pe_int (nomark _)) (pe_one (pe_cmpR (op_eqD hr.units) (pe_ix ix_list (pe_fld (pv 0) rfl) (pe_ix ix_list (pe_fld (pv 0) rfl) (pe_un un_neg pe_int) (fun _ _ => rfl)) (fun _ _ => rfl)) (pe_tup (pa_cons pe_str pa_nil)) (nomark _)))))), ?_⟩
    refine ⟨_, rfl, a.p, C, dx, _, _, rfl, hob, W.cl, W.n6, look6 _ _ _, _, rfl, a.a6, _, _, _, rfl, rfl, SqL.of At.l6, atI_end Ok.last lenC, rfl, _, rfl, ?_⟩
    rw [dec_nat0]
    cases e : S.count == 0 with
    | false =>
      refine iteF ?_
      have q : S.newB = false := by unfold Sc.newB; rw [e]; rfl
      rw [← q]
      exact k H (Same.refl H)
    | true =>
      have ne : S.around ≠ [] := fun z => tp z (eq_of_beq e)
      obtain ⟨i, hi⟩ : ∃ i, S.around.getLast? = some i := ⟨_, List.getLast?_eq_some_getLast ne⟩
      have hi2 := Ok.wf.ar i (List.mem_of_getLast? hi)
      obtain ⟨vs, h2, d2⟩ := At.l2
      have hg : S.heads[i]? = some S.heads[i] := List.getElem?_eq_getElem hi2
      obtain ⟨u, hu, du⟩ := d2.get (i := i) (d := .tuple S.heads[i]) (by rw [List.getElem?_map, hg]; rfl)
      have ho := Ok.hd _ (List.getElem_mem hi2)
      refine iteT ⟨_, rfl, a.p, C, dx, _, _, rfl, hob, W.cl, W.n2, look2 _ _ _, _, rfl, a.p, C, dx, _, _, rfl, hob, W.cl, W.n5, look5 _ _ _, _, rfl, a.a5, _, _, _, rfl, rfl, SqL.of At.l5, atI_end (getLast_natV hi) lenA, a.a2, vs, _, u, rfl, rfl, SqL.of h2, atI_nat hu, sizeL (by decide) (m := 1), fun q nq => ?_⟩
      have s1 := K0.same_upd (o := .tup [.str "block"]) nq
      refine ⟨.tuple S.heads[i], .tuple [.str "block"], DQ.dp _ _ ho.dict (du.to fun b u e => s1 _ _ ((hidS_in _ _) b u e)), .tup (.inl (.inl upd_same)) (.cons (.str _) .nil), ho.shaped, by decide +kernel, ?_⟩
      rw [ho.blk]
      have q : S.newB = blkH S.heads[i] := by
        unfold Sc.newB
        rw [e, hi]
        show (true && blkH (S.heads.getD i [])) = _
        rw [List.getD_eq_getElem?_getD, hg]
        rfl
      rw [← q]
      exact k _ s1
theorem sc_clo : FnScope ["self"] ["self"] (defScope (inClass (top 17) 4)) := ⟨rfl, rfl, rfl, by decide +kernel, rfl, by decide +kernel, by decide +kernel⟩
theorem ok_clo {C f : Addr} {fd : FuncData} (F : Fun K "_close" "Scan._close" (inClass (top 17) 4) f fd) (W : ScC K mg C) : FnOk P w K mg base CX0 1 f fd ["self"] (spClo K C) := by
  refine F.ok sc_clo (fun vs H Q E h => ?_) (fun cdv A outer s H vs Q E hr h => ?_)
  · obtain ⟨a, z, S, rfl, _⟩ := h
    rfl
  · obtain ⟨a, z, S, rfl, At, Ok, ne, k⟩ := h
    obtain ⟨i, hi⟩ : ∃ i, S.around.getLast? = some i := ⟨_, List.getLast?_eq_some_getLast ne⟩
    have hi2 := Ok.wf.ar i (List.mem_of_getLast? hi)
    have hL : ∀ {x : Addr} {o : HO} {J : Hp}, x ∈ a.L → hidS a.L (upd J x o) = hidS a.L J := fun h => hidS_upd h
    obtain ⟨dx, hob, At1⟩ := At.pos (S.pos + 1)
    refine ⟨_, (pss_cons (ps_fldaug (pv 0) pe_int in_add)
      (pss_cons (ps_asg (pe_fld (pv 0) rfl) (pg_sub (pe_fld (pv 0) rfl) (pe_bm0 PySem.F.plainAttrs_list PySem.F.slot_list_pop PySem.F.type_list_pop mt_pop (pe_fld (pv 0) rfl)) set_list))
      (pss_one (ps_expr (pe_bm0 PySem.F.plainAttrs_list PySem.F.slot_list_pop PySem.F.type_list_pop mt_pop (pe_fld (pv 0) rfl)))))), ?_⟩
    refine ⟨_, rfl, a.p, C, dx, _, _, rfl, hob, W.cl, W.nA, lookA _ _ _, _, _, rfl, rfl, dx, _, hob, (by show 8 < 1000; decide), ?_⟩
    have e1 : V.int ((S.pos : Int) + 1) = natV (S.pos + 1) := by unfold natV; congr 1
    rw [e1, putF_at]
    have f1 : hidS a.L (upd H a.p (.ins C dx (scF a z (S.pos + 1)))) = hidS a.L H := hL (by simp [Ad.L])
    generalize upd H a.p (.ins C dx (scF a z (S.pos + 1))) = H1 at At1 f1 ⊢
    obtain ⟨dx1, hob1⟩ := At1.ob
    -- self.behinds[self._around.pop()] = self._at
    have hlast : (S.around.map natV)[(S.around.map natV).length - 1]? = some (natV i) := by
      rw [← List.getLast?_eq_getElem?]
      exact getLast_natV hi
    have At2 := At1.arnd S.around.dropLast
    rw [List.map_dropLast] at At2
    refine ⟨_, rfl, a.p, C, dx1, _, _, rfl, hob1, W.cl, W.nA, lookA _ _ _, _, rfl, a.p, C, dx1, _, _, rfl, hob1, W.cl, W.n4, look4 _ _ _, _, rfl, a.p, C, dx1, _, _, rfl, hob1, W.cl, W.n5, look5 _ _ _, .inl ⟨rfl, _, SqL.of At1.l5⟩, a.a5, _, _, rfl, rfl, At1.l5, hlast, ?_⟩
    have f2 : hidS a.L (upd H1 a.a5 (.lst (S.around.map natV).dropLast)) = hidS a.L H1 := hL (by simp [Ad.L])
    generalize upd H1 a.a5 (.lst (S.around.map natV).dropLast) = H2 at At2 f2 ⊢
    have At3 := At2.behind (S.behinds.set i ((S.pos + 1 : Nat) : Int))
    have f3 : hidS a.L (upd H2 a.a4 (.lst ((S.behinds.set i ((S.pos + 1 : Nat) : Int)).map V.int))) = hidS a.L H2 := hL (by simp [Ad.L])
    rw [show (S.behinds.set i ((S.pos + 1 : Nat) : Int)).map V.int = (S.behinds.map V.int).set i (natV (S.pos + 1)) from by rw [List.map_set]; rfl] at At3 f3
    refine ⟨a.a4, S.behinds.map V.int, _, i, rfl, rfl, At2.l4, ?_, ?_⟩
    · unfold ixN
      rw [if_pos (by omega), if_pos (by rw [List.length_map, Ok.wf.lb]; omega), Int.toNat_natCast]
    dsimp only
    generalize upd H2 a.a4 (.lst ((S.behinds.map V.int).set i (natV (S.pos + 1)))) = H3 at At3 f3 ⊢
    obtain ⟨dx3, hob3⟩ := At3.ob
    have At4 := At3.cnt S.counts.dropLast
    have hlast2 : (S.counts.map natV)[(S.counts.map natV).length - 1]? = some (natV S.count) := by
      rw [← List.getLast?_eq_getElem?]
      exact Ok.last
    refine ⟨_, rfl, a.p, C, dx3, _, _, rfl, hob3, W.cl, W.n6, look6 _ _ _, .inl ⟨rfl, _, SqL.of At3.l6⟩, a.a6, _, _, rfl, rfl, At3.l6, hlast2, ?_⟩
    rw [List.map_dropLast] at At4
    refine k _ ?_ ((hL (by simp [Ad.L])).trans (f3.trans (f2.trans f1)))
    have e4 : S.close = { S with pos := S.pos + 1, behinds := S.behinds.set i ((S.pos + 1 : Nat) : Int), around := S.around.dropLast, counts := S.counts.dropLast } := by
      unfold Sc.close
      rw [hi]
      rfl
    rw [e4]
    exact At4
end
end K1
set_option maxHeartbeats 4000000
/-! a scan begins an item -/
namespace K1
open PySem L2
theorem ScOk.add {S : Sc} {T : List Nat} {h : List PyData} {n : Nat} (k : ScOk S) (e : hdM (T.drop S.pos) = some (h, n)) : ScOk (S.add h n) := by
  obtain ⟨ho, n1, n9⟩ := hdM_ok e
  have hla := k.la
  have hlc := k.lc
  have hhp := k.hp
  have dl : S.counts.dropLast.length = S.around.length := by rw [List.length_dropLast]; omega
  have npl : ∀ l ∈ (S.add h n).paths, l.length ≤ (S.add h n).heads.length := by
    intro l hl
    show l.length ≤ (S.heads ++ [h]).length
    rw [List.length_append]
    rcases List.mem_append.mp (show l ∈ S.paths ++ [S.holder ++ [(S.count : Int)]] from hl) with q | q
    · exact Nat.le_succ_of_le (k.pl l q)
    · rw [List.mem_singleton.mp q, List.length_append]
      exact Nat.succ_le_succ k.hol
  cases c : holdH h with
  | true =>
    obtain ⟨W1, h2, h3, h4, h5⟩ := add_open (n := n) k.wf c
    have ec : (S.add h n).counts = (S.counts.dropLast ++ [S.count + 1]) ++ [0] := by unfold Sc.add; rw [c]; rfl
    refine ⟨W1, fun x hx => ?_, ?_, ?_, ?_, ?_, npl⟩
    · rw [h5] at hx
      rcases List.mem_append.mp hx with q | q
      · exact k.hd x q
      · rw [List.mem_singleton.mp q]; exact ho
    · rw [ec, h4]
      simp only [List.length_append, List.length_cons, List.length_nil, dl]
    · rw [h4, h5]
      simp only [List.length_append, List.length_cons, List.length_nil]
      omega
    · rw [ec, List.dropLast_concat]
      intro x hx
      rcases List.mem_append.mp hx with q | q
      · exact k.nz x q
      · rw [List.mem_singleton.mp q]; exact Nat.succ_ne_zero _
    · rw [h5]
      show (S.heads ++ [h]).length ≤ S.pos + n
      simp only [List.length_append, List.length_cons, List.length_nil]
      omega
  | false =>
    have ea : S.add h n = S.more [(S.holder ++ [(S.count : Int)], (S.pos : Int), ((S.pos + n : Nat) : Int))] [h] (S.pos + n) 1 := add_leaf c
    rw [ea]
    rw [ea] at npl
    refine ⟨more_wf k.wf rfl, fun x hx => ?_, ?_, ?_, ?_, ?_, npl⟩
    · rcases List.mem_append.mp (show x ∈ S.heads ++ [h] from hx) with q | q
      · exact k.hd x q
      · rw [List.mem_singleton.mp q]; exact ho
    · show (S.counts.dropLast ++ [S.count + 1]).length = S.around.length + 1
      rw [List.length_append, dl]; rfl
    · show S.around.length ≤ (S.heads ++ [h]).length
      rw [List.length_append]; omega
    · show ∀ c ∈ (S.counts.dropLast ++ [S.count + 1]).dropLast, c ≠ 0
      rw [List.dropLast_concat]
      exact k.nz
    · show (S.heads ++ [h]).length ≤ S.pos + n
      rw [List.length_append]
      show S.heads.length + 1 ≤ S.pos + n
      omega
theorem ScOk.close {S : Sc} (k : ScOk S) (ne : S.around ≠ []) : ScOk S.close ∧ S.close.count ≠ 0 := by
  have hla := k.la
  have hlc := k.lc
  have hhp := k.hp
  have l1 : 1 ≤ S.around.length := List.length_pos_iff.mpr ne
  have dne : S.counts.dropLast ≠ [] := fun e => by
    have z := congrArg List.length e
    rw [List.length_dropLast] at z
    simp at z
    omega
  refine ⟨⟨⟨k.wf.lp, k.wf.lf, ?_, dne, fun i hi => k.wf.ar i (List.dropLast_subset _ hi)⟩, k.hd, ?_, ?_, fun c hc => k.nz c (List.dropLast_subset _ hc), ?_, k.pl⟩, ?_⟩
  · show (S.behinds.set _ _).length = S.heads.length
    rw [List.length_set]; exact k.wf.lb
  · show S.counts.dropLast.length = S.around.dropLast.length + 1
    rw [List.length_dropLast, List.length_dropLast]; omega
  · show S.around.dropLast.length ≤ S.heads.length
    rw [List.length_dropLast]; omega
  · show S.heads.length ≤ S.pos + 1
    omega
  · show (S.counts.dropLast.getLast?).getD 0 ≠ 0
    rw [List.getLast?_eq_some_getLast dne]
    exact k.nz _ (List.getLast_mem dne)
theorem add_top {S : Sc} {h : List PyData} {n : Nat} (ha : (S.add h n).around = []) : (S.add h n).count ≠ 0 := by
  cases c : holdH h with
  | true =>
    have e : (S.add h n).around = S.around ++ [S.heads.length] := by unfold Sc.add; rw [c]; rfl
    rw [e] at ha
    simp at ha
  | false =>
    rw [add_leaf c, more_count]
    omega
theorem set_last {α : Type} {x : α} : ∀ {l : List α}, l ≠ [] → l.set (l.length - 1) x = l.dropLast ++ [x] := by
  intro l h
  have e := List.dropLast_concat_getLast h
  have : l.length - 1 = l.dropLast.length := by rw [List.length_dropLast]
  rw [this]
  generalize l.getLast h = y at e
  generalize l.dropLast = m at e ⊢
  subst e
  rw [List.set_append_right _ _ (Nat.le_refl _), Nat.sub_self]
  rfl
/-- the path of the holder of what begins now -/
def tHolder (K : PySem.W.Frag) (C : Addr) : TE := fun σ H Q => ∃ (a : Ad) (z : Str) (S : Sc), σ[0]? = some (some (.ref a.p)) ∧ ScAt K C H a z S ∧ ScOk S ∧ S.pos ≤ 3000 ∧ ∀ H1 v, Same H H1 → DQ K (hidS a.L H1) v (pathD S.holder) → Q v H1
def begPost (K : PySem.W.Frag) (C B : Addr) (H : Hp) (a : Ad) (z : Str) (Q : VK) (E : XK) : Nat ⊕ Sc → Prop
  | .inl e => ∀ H' d, Same (hidS a.L H) H' → H' d = some (.xd [("told", natV e)]) → E (.ref B) (some d) H'
  | .inr S' => ∀ H', ScAt K C H' a z S' → Same (hidS a.L H) (hidS a.L H') → Q .non H'
def spBeg (K : PySem.W.Frag) (C B : Addr) : Sp := fun vs H Q E => ∃ (a : Ad) (z : Str) (S : Sc), vs = [.ref a.p] ∧ ScAt K C H a z S ∧ ScOk S ∧ S.pos ≤ 2500 ∧ z.length ≤ 2000 ∧ begPost K C B H a z Q E (beginS z.cps.toList S)
section
variable {P : Program} {w : World} {K : PySem.W.Frag} {mg : Str → Option Value} {base : Heap}
theorem sc_beg : FnScope ["self", "head", "behind", "holder"] ["self"] (defScope (inClass (top 17) 3)) := ⟨rfl, rfl, rfl, by decide +kernel, rfl, by decide +kernel, by decide +kernel⟩
theorem ok_beg {C B fI f : Addr} {fd : FuncData} (F : Fun K "_begin" "Scan._begin" (inClass (top 17) 3) f fd) (T : All K mg) (W : ScC K mg C) (R : Er K mg "BadText" B fI) : FnOk P w K mg base (L2.CX P w) 6 f fd ["self"] (spBeg K C B) := by
  refine F.okX sc_beg (fun vs H Q E h => ?_) (fun cdv A outer s H vs Q E hr h => ?_)
  · obtain ⟨a, z, S, rfl, _⟩ := h
    rfl
  · obtain ⟨a, z, S, rfl, At, Ok, hp, hz, k⟩ := h
    obtain ⟨dx, hob⟩ := At.ob
    have hll := Ok.hp
    have hla := Ok.la
    have hlc := Ok.lc
    refine ⟨_, (pss_cons (ps_asg (pe_clX (cl_head T R) hr (takes_of rfl rfl rfl rfl) (by decide) (pa_cons (pe_fld (pv 0) rfl) (pa_cons (pe_fld (pv 0) rfl) pa_nil))) (pg_tup (t := (gCons (gName 1) (gCons (gName 2) gNil))) rfl (pgs_cons (pg_name (i := 1) sc_beg.nd rfl (Or.inl rfl)) (pgs_cons (pg_name (i := 2) sc_beg.nd rfl (Or.inl rfl)) pgs_nil))))
      (pss_cons (ps_set (i := 3) sc_beg.nd rfl (Or.inl rfl) (K0.pe_imp (t' := tHolder K C) (pe_ifExp (pt_truth (pe_fld (pv 0) rfl) (by intro _; rfl)) (pe_ix ix_list (pe_fld (pv 0) rfl) (pe_ix ix_list (pe_fld (pv 0) rfl) (pe_un un_neg pe_int) (fun _ _ => rfl)) (fun _ _ => rfl)) (pe_tup pa_nil)) (fun σ H Q hh => ?_)))
      (pss_cons (ps_expr (pe_bm PySem.F.plainAttrs_list PySem.F.slot_list_append PySem.F.type_list_append mt_append (pe_fld (pv 0) rfl) (pa_cons (pe_tup (StX.pa_star (pv 3) (pa_cons (pe_ix ix_list (pe_fld (pv 0) rfl) (pe_un un_neg pe_int) (fun _ _ => rfl)) pa_nil))) pa_nil)))
      (pss_cons (ps_expr (pe_bm PySem.F.plainAttrs_list PySem.F.slot_list_append PySem.F.type_list_append mt_append (pe_fld (pv 0) rfl) (pa_cons (pv 1) pa_nil)))
      (pss_cons (ps_expr (pe_bm PySem.F.plainAttrs_list PySem.F.slot_list_append PySem.F.type_list_append mt_append (pe_fld (pv 0) rfl) (pa_cons (pe_fld (pv 0) rfl) pa_nil)))
      (pss_cons (ps_expr (pe_bm PySem.F.plainAttrs_list PySem.F.slot_list_append PySem.F.type_list_append mt_append (pe_fld (pv 0) rfl) (pa_cons (pv 2) pa_nil)))
      (pss_cons (ps_augS (pe_fld (pv 0) rfl) (pe_un un_neg pe_int) pget_list pe_int ip_add set_list)
      (pss_cons (ps_if (pt_val (pe_cl (cl_holds T) hr (by decide) (pa_cons (pe_ix ix_tup (pv 1) pe_int (fun _ _ => rfl)) pa_nil))) (pss_cons (ps_expr (pe_bm PySem.F.plainAttrs_list PySem.F.slot_list_append PySem.F.type_list_append mt_append (pe_fld (pv 0) rfl) (pa_cons (pe_op op_sub (pe_callB call_len_seq (by rfl) T.bi.len PySem.boot_len (pa_cons (pe_fld (pv 0) rfl) pa_nil)) pe_int) pa_nil)))
      (pss_one (ps_expr (pe_bm PySem.F.plainAttrs_list PySem.F.slot_list_append PySem.F.type_list_append mt_append (pe_fld (pv 0) rfl) (pa_cons pe_int pa_nil))))) pss_nil)
      (pss_one (ps_fld (pv 0) (pv 2) rfl)))))))))), ?_⟩
    · -- the holder
      obtain ⟨a, z, S, h0, At, Ok, hp, q⟩ := hh
      obtain ⟨dx, hob⟩ := At.ob
      have hla := Ok.la
      have hll := Ok.hp
      refine ⟨_, h0, a.p, C, dx, _, _, rfl, hob, W.cl, W.n5, look5 _ _ _, _, .inl ⟨_, SqL.of At.l5, rfl⟩, ?_⟩
      cases e : S.around.getLast? with
      | none =>
        have e2 : S.around = [] := List.getLast?_eq_none_iff.mp e
        have e3 : S.holder = [] := by unfold Sc.holder; rw [e]
        rw [e2]
        refine iteF ⟨Nat.zero_le _, fun t nt => q _ _ (K0.same_upd nt) ?_⟩
        rw [e3]
        exact .tup (.inl (.inl (hidS_of (fun z => At.there _ z nt) upd_same))) .nil
      | some i =>
        have ne : S.around ≠ [] := fun z => by rw [z] at e; cases e
        have hi2 := Ok.wf.ar i (List.mem_of_getLast? e)
        obtain ⟨vs, h1, d1⟩ := At.l1
        have hlp := Ok.wf.lp
        have hg : S.paths[i]? = some S.paths[i] := List.getElem?_eq_getElem (by omega)
        obtain ⟨u, hu, du⟩ := d1.get (i := i) (d := pathD S.paths[i]) (by rw [List.getElem?_map, hg]; rfl)
        have e3 : S.holder = S.paths[i] := by
          unfold Sc.holder
          rw [e]
          show S.paths.getD i [] = _
          rw [List.getD_eq_getElem?_getD, hg]
          rfl
        have tr : (!(S.around.map natV).isEmpty) = true := by
          cases q : S.around with
          | nil => exact absurd q ne
          | cons _ _ => rfl
        rw [tr]
        refine iteT ⟨_, h0, a.p, C, dx, _, _, rfl, hob, W.cl, W.n1, look1 _ _ _, _, h0, a.p, C, dx, _, _, rfl, hob, W.cl, W.n5, look5 _ _ _, _, rfl, a.a5, _, _, _, rfl, rfl, SqL.of At.l5, atI_end (getLast_natV e) (by rw [List.length_map]; omega), a.a1, vs, _, u, rfl, rfl, SqL.of h1, atI_nat hu, q _ _ (Same.refl _) ?_⟩
        rw [e3]
        exact du
    · refine ⟨_, rfl, a.p, C, dx, _, _, rfl, hob, W.cl, W.nT, lookT _ _ _, _, rfl, a.p, C, dx, _, _, rfl, hob, W.cl, W.nA, lookA _ _ _, z, S.pos, rfl, hz, ?_⟩
      cases e : hdM (z.cps.toList.drop S.pos) with
      | none =>
        have eb : beginS z.cps.toList S = .inl S.pos := by unfold beginS; rw [e]
        rw [eb] at k
        exact fun H' d s hd => k H' d (fun b u q => s _ _ (hidS_in _ _ b u q)) hd
      | some hn =>
        obtain ⟨h, n⟩ := hn
        have eb : beginS z.cps.toList S = .inr (S.add h n) := by unfold beginS; rw [e]
        rw [eb] at k
        obtain ⟨ho, n1, n9⟩ := hdM_ok e
        intro H1 t u S1 h1 du
        have At1 := At.same S1
        have du1 : DQ K (hidS a.L H1) u (.tuple h) := du.to (hidS_nw At.there)
        have fH : Same (hidS a.L H) (hidS a.L H1) := hidS_more S1
        refine ⟨t, _, rfl, .inl (.inl h1), rfl, _, _, rfl, _, _, rfl, rfl, a, z, S, rfl, At1, Ok, by omega, fun H2 v S2 dv => ?_⟩
        have At2 := At1.same S2
        have du2 := du1.to (hidS_more S2)
        have f2 := fH.trans (hidS_more S2)
        obtain ⟨dx2, hob2⟩ := At2.ob
        have lenC : (S.counts.map natV).length < 2 ^ 62 := by rw [List.length_map]; omega
        obtain ⟨hv, xs, rfl, hT, hd⟩ : ∃ hv xs, v = .ref hv ∧ SqT K (hidS a.L H2) hv xs ∧ DQs K (hidS a.L H2) xs (S.holder.map PyData.int) := by
          cases dv with
          | tup h1 h2 => exact ⟨_, _, rfl, h1, h2⟩
        have hxl : xs.length ≤ 3000 := by
          rw [hd.len, List.length_map]
          have := Ok.hol
          omega
        obtain ⟨vs1, g1, _⟩ := At2.l1
        refine ⟨_, rfl, a.p, C, dx2, _, _, rfl, hob2, W.cl, W.n1, look1 _ _ _, .inl ⟨rfl, _, SqL.of g1⟩, _, rfl, hv, xs, rfl, .inl (K0.seqT_same (hidS_in _ _) hT), _, rfl, a.p, C, dx2, _, _, rfl, hob2, W.cl, W.n6, look6 _ _ _, _, rfl, a.a6, _, _, _, rfl, rfl, SqL.of At2.l6, atI_end Ok.last lenC, ?_, fun q nq => ?_⟩
        · rw [List.length_append]
          exact sizeL (by show xs.length + 1 ≤ 4000; omega)
        have S3 := K0.same_upd (o := .tup (xs ++ [natV S.count])) nq
        have At3 := At2.same S3
        have dq : DQ K (hidS a.L (upd H2 q (.tup (xs ++ [natV S.count])))) (.ref q) (pathD (S.holder ++ [(S.count : Int)])) := by
          refine .tup (.inl (.inl (hidS_of (fun z => At2.there _ z nq) upd_same))) ?_
          rw [List.map_append]
          exact (hd.to (hidS_more S3)).app (.cons (.int _) .nil)
        have du3 := du2.to (hidS_more S3)
        have f3 := f2.trans (hidS_more S3)
        generalize upd H2 q (.tup (xs ++ [natV S.count])) = H3 at At3 dq du3 f3 ⊢
        obtain ⟨vs1, g1, l1, At4⟩ := At3.path dq
        have hL : ∀ {x : Addr} {o : HO} {J : Hp}, x ∈ a.L → hidS a.L (upd J x o) = hidS a.L J := fun h => hidS_upd h
        have hlp := Ok.wf.lp
        have hlf := Ok.wf.lf
        have hlb := Ok.wf.lb
        have ha1 : hidS a.L (upd H3 a.a1 (.lst (vs1 ++ [.ref q]))) = hidS a.L H3 := hL (by simp [Ad.L])
        refine ⟨a.a1, vs1, _, rfl, rfl, g1, by rw [sizeLine_eq]; omega, ?_⟩
        rw [← ha1] at du3 f3
        generalize upd H3 a.a1 (.lst (vs1 ++ [.ref q])) = H4 at At4 du3 f3 ⊢
        -- the head
        obtain ⟨vs2, g2, l2, At5⟩ := At4.head du3
        obtain ⟨dx4, hob4⟩ := At4.ob
        have ha2 : hidS a.L (upd H4 a.a2 (.lst (vs2 ++ [u]))) = hidS a.L H4 := hL (by simp [Ad.L])
        refine ⟨_, rfl, a.p, C, dx4, _, _, rfl, hob4, W.cl, W.n2, look2 _ _ _, .inl ⟨rfl, _, SqL.of g2⟩, _, rfl, a.a2, vs2, _, rfl, rfl, g2, by rw [l2]; show S.heads.length < sizeLine; rw [sizeLine_eq]; omega, ?_⟩
        rw [← ha2] at du3 f3
        generalize upd H4 a.a2 (.lst (vs2 ++ [u])) = H5 at At5 du3 f3 ⊢
        -- the first sign
        have At6 := At5.first (S.firsts ++ [(S.pos : Int)])
        obtain ⟨dx5, hob5⟩ := At5.ob
        have ha3 : hidS a.L (upd H5 a.a3 (.lst ((S.firsts ++ [(S.pos : Int)]).map V.int))) = hidS a.L H5 := hL (by simp [Ad.L])
        rw [List.map_append] at At6 ha3
        refine ⟨_, rfl, a.p, C, dx5, _, _, rfl, hob5, W.cl, W.n3, look3 _ _ _, .inl ⟨rfl, _, SqL.of At5.l3⟩, _, rfl, a.p, C, dx5, _, _, rfl, hob5, W.cl, W.nA, lookA _ _ _, a.a3, _, _, rfl, rfl, At5.l3, by show (S.firsts.map V.int).length < sizeLine; rw [List.length_map, sizeLine_eq]; omega, ?_⟩
        rw [← ha3] at du3 f3
        show _
        dsimp only
        have z3 : (S.firsts.map V.int ++ [natV S.pos]) = S.firsts.map V.int ++ List.map V.int [(S.pos : Int)] := rfl
        rw [z3]
        generalize upd H5 a.a3 (.lst (S.firsts.map V.int ++ List.map V.int [(S.pos : Int)])) = H6 at At6 du3 f3 ⊢
        -- the sign behind
        have At7 := At6.behind (S.behinds ++ [((S.pos + n : Nat) : Int)])
        obtain ⟨dx6, hob6⟩ := At6.ob
        have ha4 : hidS a.L (upd H6 a.a4 (.lst ((S.behinds ++ [((S.pos + n : Nat) : Int)]).map V.int))) = hidS a.L H6 := hL (by simp [Ad.L])
        rw [List.map_append] at At7 ha4
        refine ⟨_, rfl, a.p, C, dx6, _, _, rfl, hob6, W.cl, W.n4, look4 _ _ _, .inl ⟨rfl, _, SqL.of At6.l4⟩, _, rfl, a.a4, _, _, rfl, rfl, At6.l4, by show (S.behinds.map V.int).length < sizeLine; rw [List.length_map, sizeLine_eq]; omega, ?_⟩
        rw [← ha4] at du3 f3
        dsimp only
        have z4 : (S.behinds.map V.int ++ [V.int ((S.pos + n : Nat) : Int)]) = S.behinds.map V.int ++ List.map V.int [((S.pos + n : Nat) : Int)] := rfl
        rw [z4]
        generalize upd H6 a.a4 (.lst (S.behinds.map V.int ++ List.map V.int [((S.pos + n : Nat) : Int)])) = H7 at At7 du3 f3 ⊢
        -- the count
        have At8 := At7.cnt (S.counts.dropLast ++ [S.count + 1])
        obtain ⟨dx7, hob7⟩ := At7.ob
        have ha6 : hidS a.L (upd H7 a.a6 (.lst ((S.counts.dropLast ++ [S.count + 1]).map natV))) = hidS a.L H7 := hL (by simp [Ad.L])
        have z5 : (S.counts.map natV).set ((S.counts.map natV).length - 1) (natV (S.count + 1)) = (S.counts.dropLast ++ [S.count + 1]).map natV := by
          rw [set_last (fun z => Ok.wf.ne (List.map_eq_nil_iff.mp z)), List.map_append, List.map_dropLast]
          rfl
        refine ⟨_, rfl, a.p, C, dx7, _, _, rfl, hob7, W.cl, W.n6, look6 _ _ _, _, rfl, a.a6, _, _, _, rfl, rfl, SqL.of At7.l6, by decide, atI_end Ok.last lenC, _, _, rfl, rfl, a.a6, S.counts.map natV, _, (S.counts.map natV).length - 1, rfl, rfl, At7.l6, ?_, ?_⟩
        · unfold ixN
          rw [if_neg (by decide), if_pos (by rw [List.length_map]; omega)]
          congr 1
          rw [List.length_map]
          omega
        dsimp only
        have z6 : V.int ((S.count : Int) + 1) = natV (S.count + 1) := by unfold natV; congr 1
        rw [z6, z5]
        rw [← ha6] at du3 f3
        generalize upd H7 a.a6 (.lst ((S.counts.dropLast ++ [S.count + 1]).map natV)) = H8 at At8 du3 f3 ⊢
        obtain ⟨dx8, hob8⟩ := At8.ob
        -- does it hold others
        obtain ⟨kx, kr, rfl, ek⟩ := ho.kind
        obtain ⟨ua, uxs, u0, rfl, hu1, hu2, hu3⟩ := (du3.to (hidS_in _ _)).item (i := 0) rfl
        cases hu3
        refine ⟨_, rfl, ua, uxs, _, _, rfl, rfl, hu1, hu2, kx, rfl, _, rfl, ?_⟩
        rw [← ek]
        have hpn : V.int ((S.pos + n : Nat) : Int) = natV (S.pos + n) := rfl
        cases eh : holdH (.str kx :: kr) with
        | true =>
          have At9 := At8.arnd (S.around ++ [S.heads.length])
          have ha5 : hidS a.L (upd H8 a.a5 (.lst ((S.around ++ [S.heads.length]).map natV))) = hidS a.L H8 := hL (by simp [Ad.L])
          rw [List.map_append] at At9 ha5
          obtain ⟨vsH, gH, dH⟩ := At8.l2
          have lH : vsH.length = S.heads.length + 1 := by
            have := dH.len
            rw [this]
            show ((S.heads ++ [_]).map PyData.tuple).length = _
            rw [List.length_map, List.length_append]
            rfl
          refine iteT ⟨_, rfl, a.p, C, dx8, _, _, rfl, hob8, W.cl, W.n5, look5 _ _ _, .inl ⟨rfl, _, SqL.of At8.l5⟩, _, rfl, a.p, C, dx8, _, _, rfl, hob8, W.cl, W.n2, look2 _ _ _, a.a2, vsH, rfl, .inl (SqL.of gH), _, _, rfl, rfl, a.a5, _, _, rfl, rfl, At8.l5, by show (S.around.map natV).length < sizeLine; rw [List.length_map, sizeLine_eq]; omega, ?_⟩
          dsimp only
          have z7 : S.around.map natV ++ [V.int ((vsH.length : Int) - 1)] = S.around.map natV ++ List.map natV [S.heads.length] := by
            rw [lH]
            have : ((S.heads.length + 1 : Nat) : Int) - 1 = (S.heads.length : Int) := by omega
            rw [this]
            rfl
          rw [z7]
          rw [← ha5] at f3
          generalize upd H8 a.a5 (.lst (S.around.map natV ++ List.map natV [S.heads.length])) = H9 at At9 f3 ⊢
          have At10 := At9.cnt ((S.counts.dropLast ++ [S.count + 1]) ++ [0])
          obtain ⟨dx9, hob9⟩ := At9.ob
          have hb6 : hidS a.L (upd H9 a.a6 (.lst (((S.counts.dropLast ++ [S.count + 1]) ++ [0]).map natV))) = hidS a.L H9 := hL (by simp [Ad.L])
          rw [List.map_append] at At10 hb6
          refine ⟨_, rfl, a.p, C, dx9, _, _, rfl, hob9, W.cl, W.n6, look6 _ _ _, .inl ⟨rfl, _, SqL.of At9.l6⟩, a.a6, _, _, rfl, rfl, At9.l6, by show ((S.counts.dropLast ++ [S.count + 1]).map natV).length < sizeLine; rw [List.length_map, List.length_append, List.length_dropLast, sizeLine_eq]; show _ + 1 < _; omega, ?_⟩
          dsimp only
          have z8 : (S.counts.dropLast ++ [S.count + 1]).map natV ++ [V.int 0] = (S.counts.dropLast ++ [S.count + 1]).map natV ++ List.map natV [0] := rfl
          rw [z8]
          rw [← hb6] at f3
          generalize upd H9 a.a6 (.lst ((S.counts.dropLast ++ [S.count + 1]).map natV ++ List.map natV [0])) = H10 at At10 f3 ⊢
          obtain ⟨dx10, hob10, At11⟩ := At10.pos (S.pos + n)
          refine ⟨_, rfl, _, rfl, a.p, C, dx10, _, rfl, hob10, W.cl, W.nA, (by show 8 < 1000; decide), ?_⟩
          dsimp only
          rw [hpn, putF_at]
          have hb0 : hidS a.L (upd H10 a.p (.ins C dx10 (scF a z (S.pos + n)))) = hidS a.L H10 := hL (by simp [Ad.L])
          refine k _ ?_ (by rw [hb0]; exact f3)
          unfold Sc.add
          rw [eh]
          exact At11
        | false =>
          obtain ⟨dx10, hob10, At11⟩ := At8.pos (S.pos + n)
          refine iteF ⟨_, rfl, _, rfl, a.p, C, dx10, _, rfl, hob10, W.cl, W.nA, (by show 8 < 1000; decide), ?_⟩
          dsimp only
          rw [hpn, putF_at]
          have hb0 : hidS a.L (upd H8 a.p (.ins C dx10 (scF a z (S.pos + n)))) = hidS a.L H8 := hL (by simp [Ad.L])
          refine k _ ?_ (by rw [hb0]; exact f3)
          unfold Sc.add
          rw [eh]
          exact At11
end
end K1
set_option maxHeartbeats 4000000
/-! a scan runs -/
namespace K1
open PySem L2
theorem seq_of {t1 t2 : TS} {D : Ends} {σ : St} {H : Hp} (R : St → Hp → Prop) (h2 : ∀ σ' H', R σ' H' → t2 D σ' H') (h1 : ∀ (G : St → Hp → Prop), (∀ σ' H', R σ' H' → G σ' H') → t1 { D with nx := G } σ H) : tSeq t1 t2 D σ H := h1 (t2 D) h2
theorem pt_imp {X : Cx} {e : Expr} {t t' : TT} (h : PT X e t) (k : ∀ σ H Q, t' σ H Q → t σ H Q) : PT X e t' := ⟨fun pins s σ H Q I q => h.run pins s σ H Q I (k σ H Q q)⟩
/-- is it a bracket's end, and is there one open -/
def tEnds (K : PySem.W.Frag) (C : Addr) : TT := fun σ H Q => ∃ (a : Ad) (z : Str) (S : Sc) (c : Nat), σ[0]? = some (some (.ref a.p)) ∧ σ[1]? = some (some (.str ⟨#[c]⟩)) ∧ ScAt K C H a z S ∧ Q (decide (c = 41 ∧ S.around ≠ [])) H
theorem sgn_is {c d : Nat} {y : Str} (hy : y.cps.toList = [d]) : decide (V.str ⟨#[c]⟩ = V.str y) = (c == d) := by
  have e : (⟨#[c]⟩ : Str) = sO [c] := rfl
  rw [e, part_is hy, Bool.eq_iff_iff]
  simp
/-- how the scan of a text ends -/
def ScanR (T : List Nat) (r : Nat ⊕ Sc) : Prop := (T = [] ∧ r = .inr sc0) ∨ (T ≠ [] ∧ ((∃ e, beginS T sc0 = .inl e ∧ r = .inl e) ∨ ∃ S1 n, beginS T sc0 = .inr S1 ∧ Runs T n S1 r))
theorem sc0_ok : ScOk sc0 := ⟨sc0_wf, fun h hh => (by cases hh), rfl, Nat.le_refl _, fun c hc => (by cases hc), Nat.le_refl _, fun l hl => (by cases hl)⟩
theorem begin_add {T : List Nat} {S S' : Sc} (e : beginS T S = .inr S') : ∃ h n, S' = S.add h n ∧ hdM (T.drop S.pos) = some (h, n) := by
  unfold beginS at e
  cases q : hdM (T.drop S.pos) with
  | none => rw [q] at e; cases e
  | some hn =>
    obtain ⟨h, n⟩ := hn
    rw [q] at e
    cases e
    exact ⟨h, n, rfl, rfl⟩
theorem begin_ok {T : List Nat} {S S' : Sc} (k : ScOk S) (e : beginS T S = .inr S') : ScOk S' ∧ (S'.around = [] → S'.count ≠ 0) := by
  obtain ⟨h, n, rfl, q⟩ := begin_add e
  exact ⟨k.add q, add_top⟩
theorem ScOk.pos {S : Sc} (k : ScOk S) : ScOk { S with pos := S.pos + 1 } := ⟨⟨k.wf.lp, k.wf.lf, k.wf.lb, k.wf.ne, k.wf.ar⟩, k.hd, k.lc, k.la, k.nz, Nat.le_succ_of_le k.hp, k.pl⟩
def spRun (K : PySem.W.Frag) (C B : Addr) : Sp := fun vs H Q E => ∃ (a : Ad) (z : Str) (r : Nat ⊕ Sc), vs = [.ref a.p] ∧ ScAt K C H a z sc0 ∧ z.length ≤ 2000 ∧ ScanR z.cps.toList r ∧ begPost K C B H a z Q E r
/-- the scan between two signs -/
def WRun (K : PySem.W.Frag) (C : Addr) (H : Hp) (a : Ad) (z : Str) (r : Nat ⊕ Sc) : Nat → St → Hp → Prop := fun m σ H' => ∃ (S : Sc) (v : Option V), σ = [some (.ref a.p), v] ∧ ScAt K C H' a z S ∧ ScOk S ∧ (S.around = [] → S.count ≠ 0 ∨ z.cps.toList.length ≤ S.pos) ∧ Runs z.cps.toList m S r ∧ Same (hidS a.L H) (hidS a.L H')
section
variable {P : Program} {w : World} {K : PySem.W.Frag} {mg : Str → Option Value} {base : Heap}
theorem arnd_tru (l : List Nat) : (!(l.map natV).isEmpty) = decide (l ≠ []) := by
  cases l with
  | nil => rfl
  | cons _ _ => simp
theorem sc_run : FnScope ["self", "sign"] ["self"] (defScope (inClass (top 17) 1)) := ⟨rfl, rfl, rfl, by decide +kernel, rfl, by decide +kernel, by decide +kernel⟩
theorem ok_run {C B fI f : Addr} {fd : FuncData} (F : Fun K "_run" "Scan._run" (inClass (top 17) 1) f fd) (T : All K mg) (W : ScC K mg C) (R : Er K mg "BadText" B fI) : FnOk P w K mg base (L2.CX P w) 7 f fd ["self"] (spRun K C B) := by
  obtain ⟨fB, fdB, FB, bB, mB⟩ := W.beg
  obtain ⟨fN, fdN, FN, bN, mN⟩ := W.isn
  obtain ⟨fC, fdC, FC, bC, mC⟩ := W.clo
  have GB : FnOk P w K mg base (L2.CX P w) 6 fB fdB ["self"] (spBeg K C B) := ok_beg FB T W R
  have GN : FnOk P w K mg base CX0 1 fN fdN ["self"] (spIsn K C) := ok_isn FN W
  have GC : FnOk P w K mg base CX0 1 fC fdC ["self"] (spClo K C) := ok_clo FC W
  refine F.okX sc_run (fun vs H Q E h => ?_) (fun cdv A outer s H vs Q E hr h => ?_)
  · obtain ⟨a, z, r, rfl, _⟩ := h
    rfl
  · obtain ⟨a, z, r, rfl, At, hz, hR, k⟩ := h
    have hr1 : Room 1 _ := hr.mono (by decide)
    obtain ⟨dx, hob⟩ := At.ob
    have zl := len_cps z
    have hL : ∀ {x : Addr} {o : HO} {J : Hp}, x ∈ a.L → hidS a.L (upd J x o) = hidS a.L J := fun h => hidS_upd h
    have errK : ∀ {e : Nat} {H' : Hp}, r = .inl e → Same (hidS a.L H) (hidS a.L H') → ∀ H2 d, Same (hidS a.L H') H2 → H2 d = some (.xd [("told", natV e)]) → E (.ref B) (some d) H2 := by
      intro e H' er s1 H2 d s2 hd
      rw [er] at k
      exact k H2 d (s1.trans s2) hd
    refine ⟨_, (pss_cons (ps_if (pt_truth (pe_fld (pv 0) rfl) (by intro _; rfl)) (pss_one (ps_expr (pe_methS0 (pv 0) W.cl mB GB hr bB (fun σ => passAt (takes_of rfl rfl rfl rfl) σ)))) pss_nil)
      (pss_cons (ps_while (passes_of rfl) (pt_cmpR op_lt (pe_fld (pv 0) rfl) (pe_callB call_len_str (by rfl) T.bi.len PySem.boot_len (pa_cons (pe_fld (pv 0) rfl) pa_nil)) (nomark _)) (pss_cons (ps_set (i := 1) sc_run.nd rfl (Or.inl rfl) (pe_ix ix_str (pe_fld (pv 0) rfl) (pe_fld (pv 0) rfl) (fun _ _ => rfl)))
      (pss_one (ps_if (pt_imp (t' := tEnds K C) (PW.pt (pw_and (pt_cmpR op_eq (pv 1) pe_str (nomark _)) (pw_and1 (pt_truth (pe_fld (pv 0) rfl) (by intro _; rfl))))) (fun σ H Q hh => ?_)) (pss_one (ps_expr (pe_meth0 (pv 0) W.cl mC GC hr1 bC .nil pass0))) (pss_one (ps_if (pt_val (pe_meth0 (pv 0) W.cl mN GN hr1 bN .nil pass0)) (pss_one (ps_expr (pe_methS0 (pv 0) W.cl mB GB hr bB (fun σ => passAt (takes_of rfl rfl rfl rfl) σ)))) (pss_one (ps_if (pt_cmpR op_eq (pv 1) pe_str (nomark _)) (pss_cons (ps_fldaug (pv 0) pe_int in_add)
      (pss_one (ps_expr (pe_methS0 (pv 0) W.cl mB GB hr bB (fun σ => passAt (takes_of rfl rfl rfl rfl) σ))))) (pss_one (ps_raise rfl (takes_of rfl rfl rfl rfl) (pmk_err R hr (by decide) (pa_cons (pe_fld (pv 0) rfl) pa_nil))))))))))))
      (pss_one (ps_if (pt_truth (pe_fld (pv 0) rfl) (by intro _; rfl)) (pss_one (ps_raise rfl (takes_of rfl rfl rfl rfl) (pmk_err R hr (by decide) (pa_cons (pe_fld (pv 0) rfl) pa_nil)))) pss_nil)))), ?_⟩
    · -- the bracket's end
      obtain ⟨a, z, S, c, h0, h1, At, q⟩ := hh
      obtain ⟨dx, hob⟩ := At.ob
      refine ⟨_, h1, rfl, _, rfl, ?_⟩
      rw [sgn_is (d := 41) (by decide +kernel)]
      cases e : c == 41 with
      | false =>
        have : decide (c = 41 ∧ S.around ≠ []) = false := decide_eq_false fun z => by rw [z.1] at e; cases e
        rw [this] at q
        exact iteF q
      | true =>
        refine iteT ⟨_, h0, a.p, C, dx, _, _, rfl, hob, W.cl, W.n5, look5 _ _ _, _, .inl ⟨_, SqL.of At.l5, rfl⟩, ?_⟩
        rw [arnd_tru]
        have : decide (c = 41 ∧ S.around ≠ []) = decide (S.around ≠ []) := by rw [eq_of_beq e]; simp
        rw [this] at q
        exact q
    refine seq_of (fun σ' H' => ∃ m, WRun K C H a z r m σ' H') ?loop ?first
    case first =>
      intro G hG
      refine ⟨_, rfl, a.p, C, dx, _, _, rfl, hob, W.cl, W.nT, lookT _ _ _, _, ⟨sizeL hz, rfl⟩, ?_⟩
      rcases hR with ⟨h0, hr0⟩ | ⟨h0, hR⟩
      · have e0 : ((z.length : Int) != 0) = false := by
          rw [← zl, h0]
          rfl
        rw [e0]
        refine iteF (hG _ _ ⟨0, sc0, none, rfl, At, sc0_ok, fun _ => .inr (by rw [h0]; exact Nat.le_refl _), ?_, Same.refl _⟩)
        rw [hr0]
        exact .fin (S := sc0) (by rw [h0]; exact Nat.le_refl _)
      · have e0 : ((z.length : Int) != 0) = true := by
          rw [← zl]
          have : z.cps.toList.length ≠ 0 := fun q => h0 (List.length_eq_zero_iff.mp q)
          simpa using this
        rw [e0]
        refine iteT ⟨_, rfl, a.p, dx, _, rfl, hob, rfl, a, z, sc0, rfl, At, sc0_ok, by decide, hz, ?_⟩
        rcases hR with ⟨e, he, hr0⟩ | ⟨S1, n, he, hr0⟩
        · rw [he]
          exact errK hr0 (Same.refl _)
        · rw [he]
          intro H' At1 s1
          obtain ⟨o1, o2⟩ := begin_ok sc0_ok he
          exact hG _ _ ⟨n, S1, none, rfl, At1, o1, fun q => .inl (o2 q), hr0, s1⟩
    case loop =>
      rintro σ0 H0 ⟨m0, hW⟩
      refine ⟨WRun K C H a z r, ⟨m0, hW⟩, ?_⟩
      rintro m σ H' ⟨S, v, rfl, At, Ok, tp, hRun, s1⟩
      obtain ⟨dx, hob⟩ := At.ob
      refine ⟨_, rfl, a.p, C, dx, _, _, rfl, hob, W.cl, W.nA, lookA _ _ _, _, rfl, a.p, C, dx, _, _, rfl, hob, W.cl, W.nT, lookT _ _ _, z, rfl, sizeL hz, _, _, rfl, rfl, _, rfl, ?_⟩
      rw [dec_pos, ← zl]
      by_cases hlt : S.pos < z.cps.toList.length
      · rw [decide_eq_true hlt]
        have step : (∃ e, stepS z.cps.toList S = .inl e ∧ r = .inl e) ∨ ∃ S' m', m' < m ∧ stepS z.cps.toList S = .inr S' ∧ Runs z.cps.toList m' S' r := by
          cases hRun with
          | fin hfin => exact absurd hlt (by omega)
          | bad _ hs => exact .inl ⟨_, hs, rfl⟩
          | go _ hs ht => exact .inr ⟨_, _, Nat.lt_succ_self _, hs, ht⟩
        have hc : z.cps.toList[S.pos]? = some z.cps.toList[S.pos] := List.getElem?_eq_getElem hlt
        generalize z.cps.toList[S.pos] = c at hc
        have hgd : z.cps.toList.getD S.pos 0 = c := by rw [List.getD_eq_getElem?_getD, hc]; rfl
        have tp' : S.around = [] → S.count ≠ 0 := fun q => (tp q).resolve_right (by omega)
        have hhp := Ok.hp
        refine iteT ⟨fun σ' H' => ∃ m', m' < m ∧ WRun K C H a z r m' σ' H', fun _ _ q => q, ?_⟩
        refine ⟨_, rfl, a.p, C, dx, _, _, rfl, hob, W.cl, W.nT, lookT _ _ _, _, rfl, a.p, C, dx, _, _, rfl, hob, W.cl, W.nA, lookA _ _ _, z, _, c, rfl, rfl, sizeL hz, atI_nat hc, ?_⟩
        refine ⟨a, z, S, c, rfl, rfl, At, ?_⟩
        unfold stepS at step
        rw [hgd] at step
        have begun : ∀ {S0 : Sc} {H0 : Hp}, ScAt K C H0 a z S0 → ScOk S0 → Same (hidS a.L H) (hidS a.L H0) → ((∃ e, beginS z.cps.toList S0 = .inl e ∧ r = .inl e) ∨ ∃ S' m', m' < m ∧ beginS z.cps.toList S0 = .inr S' ∧ Runs z.cps.toList m' S' r) →
            begPost K C B H0 a z (fun _ H' => ∃ m', m' < m ∧ WRun K C H a z r m' [some (.ref a.p), some (.str ⟨#[c]⟩)] H') E (beginS z.cps.toList S0) := by
          intro S0 H0 At0 Ok0 s0 h
          rcases h with ⟨e, he, hr0⟩ | ⟨S', m', hm, he, hr0⟩
          · rw [he]
            exact errK hr0 s0
          · rw [he]
            intro H' At1 s2
            obtain ⟨o1, o2⟩ := begin_ok Ok0 he
            exact ⟨m', hm, S', _, rfl, At1, o1, fun q => .inl (o2 q), hr0, s0.trans s2⟩
        by_cases hcl : c = 41 ∧ S.around ≠ []
        · rw [decide_eq_true hcl]
          rw [if_pos hcl] at step
          rcases step with ⟨e, he, _⟩ | ⟨S', m', hm, he, ht⟩
          · cases he
          · cases he
            obtain ⟨o1, o2⟩ := Ok.close hcl.2
            exact iteT ⟨_, rfl, a.p, dx, _, rfl, hob, rfl, a, z, S, rfl, At, Ok, hcl.2, fun H2 At2 f2 => ⟨m', hm, S.close, _, rfl, At2, o1, fun _ => .inl o2, ht, by rw [f2]; exact s1⟩⟩
        · rw [decide_eq_false hcl]
          rw [if_neg hcl] at step
          refine iteF ⟨_, rfl, a.p, dx, _, rfl, hob, rfl, a, z, S, rfl, At, Ok, tp', by omega, fun H2 s2 => ⟨_, rfl, ?_⟩⟩
          have At2 := At.same s2
          have s12 := s1.trans (hidS_more s2)
          obtain ⟨dx2, hob2⟩ := At2.ob
          cases eB : S.newB with
          | true =>
            rw [eB, if_pos rfl] at step
            exact iteT ⟨_, rfl, a.p, dx2, _, rfl, hob2, rfl, a, z, S, rfl, At2, Ok, by omega, hz, begun At2 Ok s12 step⟩
          | false =>
            rw [eB, if_neg Bool.false_ne_true] at step
            refine iteF ⟨_, rfl, rfl, _, rfl, ?_⟩
            rw [sgn_is (d := 32) (by decide +kernel)]
            by_cases h32 : c = 32
            · rw [if_pos h32] at step
              have : (c == 32) = true := by simp [h32]
              rw [this]
              obtain ⟨dx3, hob3, At3⟩ := At2.pos (S.pos + 1)
              refine iteT ⟨_, rfl, a.p, C, dx3, _, _, rfl, hob3, W.cl, W.nA, lookA _ _ _, _, _, rfl, rfl, dx3, _, hob3, (by show 8 < 1000; decide), ?_⟩
              have e1 : V.int ((S.pos : Int) + 1) = natV (S.pos + 1) := by unfold natV; congr 1
              rw [e1, putF_at]
              have f1 : hidS a.L (upd H2 a.p (.ins C dx3 (scF a z (S.pos + 1)))) = hidS a.L H2 := hL (by simp [Ad.L])
              generalize upd H2 a.p (.ins C dx3 (scF a z (S.pos + 1))) = H3 at At3 f1 ⊢
              obtain ⟨dx4, hob4⟩ := At3.ob
              refine ⟨_, rfl, a.p, dx4, _, rfl, hob4, rfl, a, z, _, rfl, At3, Ok.pos, by show S.pos + 1 ≤ 2500; omega, hz, begun At3 Ok.pos (by rw [f1]; exact s12) step⟩
            · rw [if_neg h32] at step
              have : (c == 32) = false := by simp [h32]
              rw [this]
              rcases step with ⟨e, he, hr0⟩ | ⟨S', m', hm, he, ht⟩
              · cases he
                refine iteF ⟨_, rfl, a.p, C, dx2, _, _, rfl, hob2, W.cl, W.nA, lookA _ _ _, _, rfl, ?_⟩
                exact fun H3 d3 S3 h3 => errK hr0 s12 H3 d3 (fun b u q => S3 _ _ (hidS_in _ _ b u q)) h3
              · cases he
      · rw [decide_eq_false hlt]
        have hr0 : r = if S.around = [] then .inr S else .inl S.pos := by
          cases hRun with
          | fin hfin => rfl
          | bad h _ => exact absurd h hlt
          | go h _ _ => exact absurd h hlt
        refine iteF ⟨_, rfl, a.p, C, dx, _, _, rfl, hob, W.cl, W.n5, look5 _ _ _, _, .inl ⟨_, SqL.of At.l5, rfl⟩, ?_⟩
        rw [arnd_tru]
        by_cases ha : S.around = []
        · rw [decide_eq_false (fun q => q ha)]
          rw [if_pos ha] at hr0
          rw [hr0] at k
          exact iteF (k H' At s1)
        · rw [decide_eq_true ha]
          rw [if_neg ha] at hr0
          refine iteT ⟨_, rfl, a.p, C, dx, _, _, rfl, hob, W.cl, W.nA, lookA _ _ _, _, rfl, ?_⟩
          exact fun H2 d2 S2 h2 => errK hr0 s1 H2 d2 (fun b u q => S2 _ _ (hidS_in _ _ b u q)) h2
end
end K1
set_option maxHeartbeats 4000000
/-! a scan is made -/
namespace K1
open PySem L2
/-- an object whose attributes are put one by one -/
structure Bld (C dx p : Addr) (H0 H : Hp) (fs : List (Str × V)) (L : List (Addr × List V)) : Prop where
  ins : H p = some (.ins C dx fs)
  old : Same (hidS [p] H0) H
  lst : ∀ r ∈ L, H r.1 = some (.lst r.2) ∧ H0 r.1 = none ∧ r.1 ≠ p
  nd : (L.map (·.1)).Nodup
theorem Bld.set {C dx p : Addr} {H0 H : Hp} {fs fs' : List (Str × V)} {L : List (Addr × List V)} (b : Bld C dx p H0 H fs L) : Bld C dx p H0 (upd H p (.ins C dx fs')) fs' L := by
  refine ⟨upd_same, fun x u e => ?_, fun r hr => ?_, b.nd⟩
  · have : x ≠ p := fun q => (hidS_at e).1 (by simp [q])
    rw [upd_ne this]
    exact b.old _ _ e
  · obtain ⟨h1, h2, h3⟩ := b.lst r hr
    exact ⟨by rw [upd_ne h3]; exact h1, h2, h3⟩
theorem Bld.new {C dx p q : Addr} {H0 H : Hp} {fs : List (Str × V)} {L : List (Addr × List V)} {xs : List V} (b : Bld C dx p H0 H fs L) (nq : H q = none) : Bld C dx p H0 (upd H q (.lst xs)) fs (L ++ [(q, xs)]) := by
  have qp : q ≠ p := fun e => by rw [e, b.ins] at nq; cases nq
  refine ⟨by rw [upd_ne (Ne.symm qp)]; exact b.ins, b.old.trans (K0.same_upd nq), fun r hr => ?_, ?_⟩
  · rcases List.mem_append.mp hr with h | h
    · obtain ⟨h1, h2, h3⟩ := b.lst r h
      exact ⟨by rw [upd_ne (ne_of_none h1 nq)]; exact h1, h2, h3⟩
    · rw [List.mem_singleton.mp h]
      refine ⟨upd_same, ?_, qp⟩
      cases e : H0 q with
      | none => rfl
      | some u =>
        have z := b.old q u (hidS_of (by simp [qp]) e)
        rw [nq] at z
        cases z
  · rw [List.map_append, List.nodup_append]
    refine ⟨b.nd, by simp, fun x hx y hy => ?_⟩
    obtain ⟨r, hr, rfl⟩ := List.mem_map.mp hx
    have : y = q := by simpa using hy
    rw [this]
    exact ne_of_none (b.lst r hr).1 nq
/-- a made scan -/
def iniPost (K : PySem.W.Frag) (C B p : Addr) (H : Hp) (z : Str) (Q : VK) (E : XK) : Nat ⊕ Sc → Prop
  | .inl e => ∀ H' d, Same (hidS [p] H) H' → H' d = some (.xd [("told", natV e)]) → E (.ref B) (some d) H'
  | .inr S' => ∀ H' a, a.p = p → ScAt K C H' a z S' → Same (hidS [p] H) H' → Q .non H'
/-- what a scan is made of: a text, or none -/
def srcPost (K : PySem.W.Frag) (H : Hp) (v : V) (non : Prop) (post : Str → Nat ⊕ Sc → Prop) : Prop := ((∃ d, DQ K H v d ∧ kitB (tyD d) "str" = some false) ∧ non) ∨ ∃ z r, v = .str z ∧ z.length ≤ 2000 ∧ ScanR z.cps.toList r ∧ post z r
def spIniS (K : PySem.W.Frag) (C B : Addr) : Sp := fun vs H Q E => ∃ (p dx : Addr) (v : V), vs = [.ref p, v] ∧ H p = some (.ins C dx []) ∧ srcPost K H v (iniPost K C B p H ⟨#[]⟩ Q E (.inl 0)) (fun z r => iniPost K C B p H z Q E r)
section
variable {P : Program} {w : World} {K : PySem.W.Frag} {mg : Str → Option Value} {base : Heap}
theorem sc_inis : FnScope ["self", "text"] ["self", "text"] (defScope (inClass (top 17) 0)) := ⟨rfl, rfl, rfl, by decide +kernel, rfl, by decide +kernel, by decide +kernel⟩
theorem ok_inis {C B fI f : Addr} {fd : FuncData} (F : Fun K "__init__" "Scan.__init__" (inClass (top 17) 0) f fd) (T : All K mg) (W : ScC K mg C) (R : Er K mg "BadText" B fI) : FnOk P w K mg base (L2.CX P w) 8 f fd ["self", "text"] (spIniS K C B) := by
  obtain ⟨fR, fdR, FR, bR, mR⟩ := W.run
  have GR : FnOk P w K mg base (L2.CX P w) 7 fR fdR ["self"] (spRun K C B) := ok_run FR T W R
  refine F.okX sc_inis (fun vs H Q E h => ?_) (fun cdv A outer s H vs Q E hr h => ?_)
  · obtain ⟨p, dx, v, rfl, _⟩ := h
    rfl
  · obtain ⟨p, dx, v, rfl, hp, hv⟩ := h
    refine ⟨_, (pss_cons (ps_if (pt_not (pt_val (pe_callB call_isi (by rfl) T.bi.isi (by decide +kernel) (pa_cons (pv 1) (pa_cons (pe_bltn (v := .ty "str") (by rfl) T.bi.str (by decide +kernel) rfl) pa_nil))))) (pss_one (ps_raise rfl (takes_of rfl rfl rfl rfl) (pmk_err R hr (by decide) (pa_cons pe_int pa_nil)))) pss_nil)
      (pss_cons (ps_fld (pv 0) (pe_lst pa_nil) rfl)
      (pss_cons (ps_fld (pv 0) (pe_lst pa_nil) rfl)
      (pss_cons (ps_fld (pv 0) (pe_lst pa_nil) rfl)
      (pss_cons (ps_fld (pv 0) (pe_lst pa_nil) rfl)
      (pss_cons (ps_fld (pv 0) (pv 1) rfl)
      (pss_cons (ps_fld (pv 0) pe_int rfl)
      (pss_cons (ps_fld (pv 0) (pe_lst pa_nil) rfl)
      (pss_cons (ps_fld (pv 0) (pe_lst (pa_cons pe_int pa_nil)) rfl)
      (pss_one (ps_expr (pe_methS0 (pv 0) W.cl mR GR hr bR (fun σ => passAt (takes_of rfl rfl rfl rfl) σ))))))))))))), ?_⟩
    rcases hv with ⟨⟨d, hd, hk⟩, k⟩ | ⟨z, r, rfl, hz, hR, k⟩
    · refine ⟨_, rfl, v, .ty "str", .type (tyD d), .type "str", false, rfl, .ty "str", tyX_of hd, kit_ty hk, _, rfl, iteT ?_⟩
      exact ⟨_, rfl, fun H2 d2 S2 h2 => k H2 d2 (fun b u q => S2 _ _ (hidS_in _ _ b u q)) h2⟩
    · refine ⟨_, rfl, .str z, .ty "str", .type "str", .type "str", true, rfl, .ty "str", .base (.str z), kit_ty (by decide +kernel), _, rfl, iteF ?_⟩
      have b0 : Bld C dx p H H [] [] := ⟨hp, hidS_in _ _, fun r hr => (by cases hr), List.nodup_nil⟩
      have lst0 : ([] : List V).length ≤ sizeLine := Nat.zero_le _
      refine ⟨Nat.zero_le _, fun q1 n1 => ?_⟩
      have b1 := b0.new (xs := []) n1
      refine ⟨_, rfl, p, C, dx, _, rfl, b1.ins, W.cl, W.n1, (by decide), ?_⟩
      have b1 := b1.set (fs' := putF "paths" (.ref q1) [])
      generalize upd (upd H q1 (.lst [])) p (.ins C dx (putF "paths" (.ref q1) [])) = H1 at b1 ⊢
      refine ⟨Nat.zero_le _, fun q2 n2 => ?_⟩
      have b2 := b1.new (xs := []) n2
      refine ⟨_, rfl, p, C, dx, _, rfl, b2.ins, W.cl, W.n2, (by show 1 < 1000; decide), ?_⟩
      have b2 := b2.set (fs' := putF "heads" (.ref q2) (putF "paths" (.ref q1) []))
      generalize upd (upd H1 q2 (.lst [])) p (.ins C dx (putF "heads" (.ref q2) (putF "paths" (.ref q1) []))) = H2 at b2 ⊢
      refine ⟨Nat.zero_le _, fun q3 n3 => ?_⟩
      have b3 := b2.new (xs := []) n3
      refine ⟨_, rfl, p, C, dx, _, rfl, b3.ins, W.cl, W.n3, (by show 2 < 1000; decide), ?_⟩
      have b3 := b3.set (fs' := putF "firsts" (.ref q3) (putF "heads" (.ref q2) (putF "paths" (.ref q1) [])))
      generalize upd (upd H2 q3 (.lst [])) p (.ins C dx (putF "firsts" (.ref q3) (putF "heads" (.ref q2) (putF "paths" (.ref q1) [])))) = H3 at b3 ⊢
      refine ⟨Nat.zero_le _, fun q4 n4 => ?_⟩
      have b4 := b3.new (xs := []) n4
      refine ⟨_, rfl, p, C, dx, _, rfl, b4.ins, W.cl, W.n4, (by show 3 < 1000; decide), ?_⟩
      have b4 := b4.set (fs' := putF "behinds" (.ref q4) (putF "firsts" (.ref q3) (putF "heads" (.ref q2) (putF "paths" (.ref q1) []))))
      generalize upd (upd H3 q4 (.lst [])) p (.ins C dx (putF "behinds" (.ref q4) (putF "firsts" (.ref q3) (putF "heads" (.ref q2) (putF "paths" (.ref q1) []))))) = H4 at b4 ⊢
      refine ⟨_, rfl, _, rfl, p, C, dx, _, rfl, b4.ins, W.cl, W.nT, (by show 4 < 1000; decide), ?_⟩
      have b5 := b4.set (fs' := putF "_text" (.str z) (putF "behinds" (.ref q4) (putF "firsts" (.ref q3) (putF "heads" (.ref q2) (putF "paths" (.ref q1) [])))))
      generalize upd H4 p (.ins C dx (putF "_text" (.str z) (putF "behinds" (.ref q4) (putF "firsts" (.ref q3) (putF "heads" (.ref q2) (putF "paths" (.ref q1) [])))))) = H5 at b5 ⊢
      refine ⟨_, rfl, p, C, dx, _, rfl, b5.ins, W.cl, W.nA, (by show 5 < 1000; decide), ?_⟩
      have b6 := b5.set (fs' := putF "_at" (.int 0) (putF "_text" (.str z) (putF "behinds" (.ref q4) (putF "firsts" (.ref q3) (putF "heads" (.ref q2) (putF "paths" (.ref q1) []))))))
      generalize upd H5 p (.ins C dx (putF "_at" (.int 0) (putF "_text" (.str z) (putF "behinds" (.ref q4) (putF "firsts" (.ref q3) (putF "heads" (.ref q2) (putF "paths" (.ref q1) []))))))) = H6 at b6 ⊢
      refine ⟨Nat.zero_le _, fun q5 n5 => ?_⟩
      have b7 := b6.new (xs := []) n5
      refine ⟨_, rfl, p, C, dx, _, rfl, b7.ins, W.cl, W.n5, (by show 6 < 1000; decide), ?_⟩
      have b7 := b7.set (fs' := putF "_around" (.ref q5) (putF "_at" (.int 0) (putF "_text" (.str z) (putF "behinds" (.ref q4) (putF "firsts" (.ref q3) (putF "heads" (.ref q2) (putF "paths" (.ref q1) [])))))))
      generalize upd (upd H6 q5 (.lst [])) p (.ins C dx (putF "_around" (.ref q5) (putF "_at" (.int 0) (putF "_text" (.str z) (putF "behinds" (.ref q4) (putF "firsts" (.ref q3) (putF "heads" (.ref q2) (putF "paths" (.ref q1) [])))))))) = H7 at b7 ⊢
      refine ⟨sizeL (by decide) (m := 1), fun q6 n6 => ?_⟩
      have b8 := b7.new (xs := [.int 0]) n6
      refine ⟨_, rfl, p, C, dx, _, rfl, b8.ins, W.cl, W.n6, (by show 7 < 1000; decide), ?_⟩
      have b8 := b8.set (fs' := putF "_counts" (.ref q6) (putF "_around" (.ref q5) (putF "_at" (.int 0) (putF "_text" (.str z) (putF "behinds" (.ref q4) (putF "firsts" (.ref q3) (putF "heads" (.ref q2) (putF "paths" (.ref q1) []))))))))
      generalize upd (upd H7 q6 (.lst [.int 0])) p (.ins C dx (putF "_counts" (.ref q6) (putF "_around" (.ref q5) (putF "_at" (.int 0) (putF "_text" (.str z) (putF "behinds" (.ref q4) (putF "firsts" (.ref q3) (putF "heads" (.ref q2) (putF "paths" (.ref q1) []))))))))) = H8 at b8 ⊢
      have l1 := b8.lst (q1, []) (by simp)
      have l2 := b8.lst (q2, []) (by simp)
      have l3 := b8.lst (q3, []) (by simp)
      have l4 := b8.lst (q4, []) (by simp)
      have l5 := b8.lst (q5, []) (by simp)
      have l6 := b8.lst (q6, [.int 0]) (by simp)
      have nd : [q1, q2, q3, q4, q5, q6].Nodup := b8.nd
      have At : ScAt K C H8 ⟨p, q1, q2, q3, q4, q5, q6⟩ z sc0 := by
        refine ⟨⟨dx, b8.ins⟩, ⟨[], l1.1, .nil⟩, ⟨[], l2.1, .nil⟩, l3.1, l4.1, l5.1, l6.1, ?_⟩
        refine List.nodup_cons.mpr ⟨fun hm => ?_, nd⟩
        have hm : p ∈ [q1, q2, q3, q4, q5, q6] := hm
        simp only [List.mem_cons, List.not_mem_nil, or_false] at hm
        rcases hm with h | h | h | h | h | h
        · exact l1.2.2 h.symm
        · exact l2.2.2 h.symm
        · exact l3.2.2 h.symm
        · exact l4.2.2 h.symm
        · exact l5.2.2 h.symm
        · exact l6.2.2 h.symm
      have fr : Same (hidS [p] H) (hidS (Ad.L ⟨p, q1, q2, q3, q4, q5, q6⟩) H8) := fun b u e => by
        obtain ⟨e1, e2⟩ := hidS_at e
        refine hidS_of (fun hm => ?_) (b8.old _ _ e)
        unfold Ad.L at hm
        simp only [List.mem_cons, List.not_mem_nil, or_false] at hm
        rcases hm with h | h | h | h | h | h | h
        · exact e1 (by simp [h])
        · rw [h, l1.2.1] at e2; cases e2
        · rw [h, l2.2.1] at e2; cases e2
        · rw [h, l3.2.1] at e2; cases e2
        · rw [h, l4.2.1] at e2; cases e2
        · rw [h, l5.2.1] at e2; cases e2
        · rw [h, l6.2.1] at e2; cases e2
      refine ⟨_, rfl, p, dx, _, rfl, b8.ins, by rfl, ⟨p, q1, q2, q3, q4, q5, q6⟩, z, r, rfl, At, hz, hR, ?_⟩
      cases r with
      | inl e => exact fun H' d s1 hd => k H' d (fr.trans s1) hd
      | inr S' => exact fun H' At' s1 => k H' _ rfl At' (fr.trans (s1.trans (hidS_in _ _)))
end
end K1
set_option maxHeartbeats 4000000
/-! the items that are drawn -/
namespace K1
open PySem L2
def nameC : List (List Nat) := [[97], [98], [97, 49]]
def nameV : List V := [.str "a", .str "b", .str "a1"]
def nameD' : List PyData := nameC.map fun w => .str (sO w)
theorem nameV_eq : nameV = nameC.map fun w => V.str (sO w) := by decide +kernel
theorem delim_fig {rest : List Nat} (d : Delim rest) : sgM isFig rest = false := by
  rcases d with rfl | ⟨r, rfl⟩ | ⟨r, rfl⟩ <;> rfl
theorem delim2 {rest : List Nat} (d : Delim2 rest) : Delim rest := by
  rcases d with ⟨c, r, rfl, _⟩ | ⟨r, rfl⟩
  · exact .inr (.inl ⟨_, rfl⟩)
  · exact .inr (.inr ⟨_, rfl⟩)
theorem br_of {S : List Nat} (h1 : sgM (fun c => c == 43) S = false) (h2 : sgM (fun c => c == 42) S = false) (h3 : (S.drop (wE S)).take 2 ≠ [32, 61]) : brM S = ([.str "block"], 1) := by
  unfold brM
  rw [h1, h2, if_neg Bool.false_ne_true, if_neg Bool.false_ne_true, if_neg (fun q => h3 q.2)]
theorem leaf_use (w : List Nat) (h : w ∈ nameC) : LeafOk [.str "use", .str (sO w)] w := by
  unfold nameC at h
  simp only [List.mem_cons, List.not_mem_nil, or_false] at h
  rcases h with rfl | rfl | rfl | rfl | rfl | rfl | rfl
  all_goals
    refine ⟨fun rest d => ?_, fun rest d => ?_, by decide +kernel, ⟨_, _, rfl, by decide, by decide, by decide⟩⟩
    · rcases d with rfl | ⟨r, rfl⟩ | ⟨r, rfl⟩ <;> rfl
    · rcases d with ⟨c, r, rfl, hc⟩ | ⟨r, rfl⟩
      · exact br_of rfl rfl (fun h => hc (List.cons.inj (List.cons.inj (show [32, c] = [32, 61] from h)).2).1)
      · rfl
theorem leaf_lost : LeafOk [.str "lost"] [63] := ⟨fun rest d => rfl, fun rest d => rfl, by decide +kernel, ⟨63, [], rfl, by decide, by decide, by decide⟩⟩
def numC (m : Nat) : List Nat := if m < 10 then [48 + m] else [48 + m / 10, 48 + m % 10]
theorem num_text : ∀ m : Fin 100, Str.ofString (toString ((m.val : Nat) : Int)) = sO (numC m.val) := by decide +kernel
theorem br_num {c : Nat} {t : List Nat} (h : isFig c = true) : brM (c :: t) = ([.str "block"], 1) := by
  have hl : isLet c = false := by
    unfold isFig at h
    unfold isLet
    simp only [Bool.and_eq_true, decide_eq_true_eq] at h
    rw [decide_eq_false (by omega)]
    rfl
  have w0 : wE (c :: t) = 0 := by
    have e : lE 4 (c :: t) = 0 := by
      show (if isLet c = true then _ else 0) = 0
      rw [hl]
      rfl
    unfold wE
    rw [if_pos e]
  unfold isFig at h
  simp only [Bool.and_eq_true, decide_eq_true_eq] at h
  have n1 : sgM (fun d => d == 43) (c :: t) = false := by show (c == 43) = false; simp; omega
  have n2 : sgM (fun d => d == 42) (c :: t) = false := by show (c == 42) = false; simp; omega
  unfold brM
  rw [n1, n2, w0, if_neg Bool.false_ne_true, if_neg Bool.false_ne_true, if_neg (fun q => Nat.lt_irrefl _ q.1)]
theorem hd_num {c : Nat} {t : List Nat} {n : Nat} (h : isFig c = true) (hn : nE (c :: t) = n) (h0 : 0 < n) : hdM (c :: t) = some ([.str "number", .int (numL ((c :: t).take n))], n) := by
  have hl : isLet c = false := by
    unfold isFig at h
    unfold isLet
    simp only [Bool.and_eq_true, decide_eq_true_eq] at h
    rw [decide_eq_false (by omega)]
    rfl
  have w0 : wE (c :: t) = 0 := by
    have e : lE 4 (c :: t) = 0 := by
      show (if isLet c = true then _ else 0) = 0
      rw [hl]
      rfl
    unfold wE
    rw [if_pos e]
  unfold isFig at h
  simp only [Bool.and_eq_true, decide_eq_true_eq] at h
  have n1 : sgM (fun d => d == 40) (c :: t) = false := by show (c == 40) = false; simp; omega
  have n2 : sgM (fun d => d == 63) (c :: t) = false := by show (c == 63) = false; simp; omega
  unfold hdM
  rw [n1, n2, w0, hn, if_neg Bool.false_ne_true, if_neg Bool.false_ne_true, if_neg (Nat.lt_irrefl _), if_pos h0]
theorem hold_num (y : PyData) : holdH [.str "number", y] = false := by
  show ((("number" : Str) == "block" || ("number" : Str) == "let" || ("number" : Str) == "sum" || ("number" : Str) == "product")) = false
  decide +kernel
theorem leaf_num (m : Nat) (hm : m < 100) : LeafOk [.str "number", .int (m : Int)] (numC m) := by
  unfold numC
  by_cases h : m < 10
  · rw [if_pos h]
    have hf : isFig (48 + m) = true := by unfold isFig; simp; omega
    refine ⟨fun rest d => ?_, fun rest d => br_num hf, hold_num _, ⟨_, _, rfl, by omega, by omega, by omega⟩⟩
    have hn : nE ([48 + m] ++ rest) = 1 := by
      unfold nE
      by_cases h0 : m = 0
      · rw [if_pos (by show (48 + m == 48) = true; rw [h0]; rfl)]
      · rw [if_neg (by show ¬ (48 + m == 48) = true; simp; omega)]
        unfold pE
        rw [if_pos (by show isFst (48 + m) = true; unfold isFst; simp; omega), if_neg]
        have : ([48 + m] ++ rest).drop 1 = rest := rfl
        rw [this, delim_fig d]
        exact Bool.false_ne_true
    have e := hd_num (t := rest) hf hn (by decide)
    show hdM ((48 + m) :: rest) = _
    rw [e]
    have z : numL (((48 + m) :: rest).take 1) = (m : Int) := by
      show 10 * 0 + (((48 + m : Nat) : Int) - 48) = (m : Int)
      omega
    rw [z]
    rfl
  · rw [if_neg h]
    have hf : isFig (48 + m / 10) = true := by unfold isFig; simp; omega
    refine ⟨fun rest d => ?_, fun rest d => br_num hf, hold_num _, ⟨_, _, rfl, by omega, by omega, by omega⟩⟩
    have hn : nE ([48 + m / 10, 48 + m % 10] ++ rest) = 2 := by
      unfold nE
      rw [if_neg (by show ¬ (48 + m / 10 == 48) = true; simp; omega)]
      unfold pE
      rw [if_pos (by show isFst (48 + m / 10) = true; unfold isFst; simp; omega), if_pos (by show isFig (48 + m % 10) = true; unfold isFig; simp; omega)]
    have e := hd_num (t := (48 + m % 10) :: rest) hf hn (by decide)
    show hdM ((48 + m / 10) :: (48 + m % 10) :: rest) = _
    rw [e]
    have z : numL (((48 + m / 10) :: (48 + m % 10) :: rest).take 2) = (m : Int) := by
      show 10 * (10 * 0 + (((48 + m / 10 : Nat) : Int) - 48)) + (((48 + m % 10 : Nat) : Int) - 48) = (m : Int)
      omega
    rw [z]
    rfl
theorem node_let (w : List Nat) (h : w ∈ nameC) : NodeOk [.str "let", .str (sO w)] (40 :: (w ++ [32, 61])) false := by
  unfold nameC at h
  simp only [List.mem_cons, List.not_mem_nil, or_false] at h
  rcases h with rfl | rfl | rfl | rfl | rfl | rfl | rfl
  all_goals exact .other (fun rest => rfl) (by decide +kernel) rfl ⟨_, rfl⟩
theorem node_sum : NodeOk [.str "sum"] [40, 43] false := .other (fun rest => rfl) (by decide +kernel) (by decide +kernel) ⟨_, rfl⟩
theorem node_product : NodeOk [.str "product"] [40, 42] false := .other (fun rest => rfl) (by decide +kernel) (by decide +kernel) ⟨_, rfl⟩
/-! ### how large they are -/
def wB : Nat → Nat
  | 0 => 4
  | n + 1 => 8 + 3 * (wB n + 1)
end K1
set_option maxHeartbeats 4000000
/-! drawn items: their sizes; data that no list of the heap is part of -/
namespace K1
open PySem L2
mutual
inductive Flat : PyData → Prop
  | non : Flat .none
  | bl (b : Bool) : Flat (.bool b)
  | int (i : Int) : Flat (.int i)
  | str (x : Str) : Flat (.str x)
  | tup {ds : List PyData} : Flats ds → Flat (.tuple ds)
inductive Flats : List PyData → Prop
  | nil : Flats []
  | cons {d : PyData} {ds : List PyData} : Flat d → Flats ds → Flats (d :: ds)
end
theorem Flats.of : ∀ {ds : List PyData}, (∀ d ∈ ds, Flat d) → Flats ds
  | [], _ => .nil
  | d :: ds, h => .cons (h d List.mem_cons_self) (Flats.of fun e he => h e (List.mem_cons_of_mem _ he))
theorem hideT {K : PySem.W.Frag} {H : Hp} {a b : Addr} {us xs : List V} (ha : H a = some (.lst us)) (h : SqT K H b xs) : SqT K (hid a H) b xs := by
  rcases h with (h | ⟨o, h⟩) | h
  · refine .inl (.inl ?_)
    rw [hid_ne (fun z => by rw [z, ha] at h; cases h)]
    exact h
  · refine .inl (.inr ⟨o, ?_⟩)
    rw [hid_ne (fun z => by rw [z, ha] at h; cases h)]
    exact h
  · exact .inr h
mutual
theorem Flat.hide {K : PySem.W.Frag} {H : Hp} {a : Addr} {us : List V} (ha : H a = some (.lst us)) : ∀ (d : PyData) (v : V), Flat d → DQ K H v d → DQ K (hid a H) v d
  | .none, _, _, h => by
    cases h
    exact .non
  | .bool b, _, _, h => by
    cases h
    exact .bl b
  | .int i, _, _, h => by
    cases h
    exact .int i
  | .str x, _, _, h => by
    cases h with
    | str _ h => exact .str x h
  | .list ds, _, f, _ => by cases f
  | .tuple ds, _, f, h => by
    cases f with
    | tup f =>
      cases h with
      | tup h1 h2 => exact .tup (hideT ha h1) (Flats.hide ha ds _ f h2)
  | .dict ps, _, f, _ => by cases f
theorem Flats.hide {K : PySem.W.Frag} {H : Hp} {a : Addr} {us : List V} (ha : H a = some (.lst us)) : ∀ (ds : List PyData) (vs : List V), Flats ds → DQs K H vs ds → DQs K (hid a H) vs ds
  | [], _, _, h => by
    cases h
    exact .nil
  | d :: ds, _, f, h => by
    cases f with
    | cons f1 f2 =>
      cases h with
      | cons h1 h2 => exact .cons (Flat.hide ha d _ f1 h1) (Flats.hide ha ds _ f2 h2)
end
/-- held against an empty one -/
def rEqE (K : PySem.W.Frag) : R2 := fun x y H Q => ∃ a b xs, x = .ref a ∧ y = .ref b ∧ ((SqL K H a xs ∧ SqL K H b []) ∨ (SqT K H a xs ∧ SqT K H b [])) ∧ Q (.bl xs.isEmpty) H
theorem op_eqE {X : Cx} (hu : X.A.units + 64 < cLine) : OpR X (compareOp .Eq) (rEqE X.K) := by
  intro pins s σ H x y v u Q I rx ry h
  obtain ⟨a, b, xs, rfl, rfl, h, q⟩ := h
  cases rx
  cases ry
  rcases h with ⟨h1, h2⟩ | ⟨h1, h2⟩
  · obtain ⟨us, r1, p1, _⟩ := I.list h1
    obtain ⟨ws, r2, p2, _⟩ := I.list h2
    cases r2
    cases r1 with
    | nil => exact SeqAt.eq_listAt (e := fun _ => true) p1.isList p2.isList rfl (by omega) (fun j h1 h2 => absurd h2 (Nat.not_lt_zero j)) ⟨.bl true, H, I, rfl, q⟩
    | cons r1 rs => exact SeqAt.eq_list_lengthsAt p1.isList p2.isList (by simp) (by omega) ⟨.bl false, H, I, rfl, q⟩
  · obtain ⟨us, r1, p1, _⟩ := I.tuple h1
    obtain ⟨ws, r2, p2, _⟩ := I.tuple h2
    cases r2
    refine SeqAt.eq_tupleAt (e := fun _ => true) p1 p2 (by omega) (fun j h1 h2 => absurd h2 (Nat.not_lt_zero j)) ⟨.bl xs.isEmpty, H, I, ?_, q⟩
    cases r1 with
    | nil => rfl
    | cons r1 rs => show Value.bool _ = Value.bool false; simp
def rNeE (K : PySem.W.Frag) : R2 := fun x y H Q => ∃ a b xs, x = .ref a ∧ y = .ref b ∧ SqL K H a xs ∧ SqL K H b [] ∧ Q (.bl !xs.isEmpty) H
theorem op_neE {X : Cx} (hu : X.A.units + 64 < cLine) : OpR X (compareOp .NotEq) (rNeE X.K) := by
  intro pins s σ H x y v u Q I rx ry h
  obtain ⟨a, b, xs, rfl, rfl, h1, h2, q⟩ := h
  cases rx
  cases ry
  obtain ⟨us, r1, p1, _⟩ := I.list h1
  obtain ⟨ws, r2, p2, _⟩ := I.list h2
  cases r2
  cases r1 with
  | nil => exact SeqAt.RcNeAt.lists (e := fun _ => true) p1.isList p2.isList rfl (by omega) (fun j h1 h2 => absurd h2 (Nat.not_lt_zero j)) _ _ _ _ ⟨.bl false, H, I, rfl, q⟩
  | cons r1 rs => exact SeqAt.RcNeAt.lists_lengths p1.isList p2.isList (by simp) (by omega) _ _ _ _ ⟨.bl true, H, I, rfl, q⟩
/-- a leaf as it is drawn -/
inductive LfK : List PyData → List Nat → Prop
  | num (m : Nat) (h : m < 100) : LfK [.str "number", .int (m : Int)] (numC m)
  | lost : LfK [.str "lost"] [63]
  | use (w : List Nat) (h : w ∈ nameC) : LfK [.str "use", .str (sO w)] w
inductive NdK : List PyData → List Nat → Bool → Prop
  | block : NdK [.str "block"] [40] true
  | sum : NdK [.str "sum"] [40, 43] false
  | product : NdK [.str "product"] [40, 42] false
  | let_ (w : List Nat) (h : w ∈ nameC) : NdK [.str "let", .str (sO w)] (40 :: (w ++ [32, 61])) false
inductive Dr : Nat → It → Prop
  | leaf {n : Nat} {h : List PyData} {w : List Nat} (k : LfK h w) : Dr n (.leaf h w)
  | node {n : Nat} {h : List PyData} {o : List Nat} {b : Bool} {l : List It} (k : NdK h o b) (hl : l.length ≤ 3) (hc : ∀ x ∈ l, Dr n x) : Dr (n + 1) (.node h o b l)
theorem LfK.ok {h : List PyData} {w : List Nat} (k : LfK h w) : LeafOk h w := by
  cases k with
  | num m h => exact leaf_num m h
  | lost => exact leaf_lost
  | use w h => exact leaf_use w h
theorem NdK.ok {h : List PyData} {o : List Nat} {b : Bool} (k : NdK h o b) : NodeOk h o b := by
  cases k with
  | block => exact .block
  | sum => exact node_sum
  | product => exact node_product
  | let_ w h => exact node_let w h
theorem Dr.gd {n : Nat} {x : It} (d : Dr n x) : Gd n x := by
  induction d with
  | leaf k => exact .leaf k.ok
  | node k hl _ ih => exact .node k.ok hl ih
theorem name_len {w : List Nat} (h : w ∈ nameC) : 1 ≤ w.length ∧ w.length ≤ 4 ∧ ∀ c ∈ w, c < 200 := by
  unfold nameC at h
  simp only [List.mem_cons, List.not_mem_nil, or_false] at h
  rcases h with rfl | rfl | rfl | rfl | rfl | rfl | rfl <;> decide
theorem LfK.len {h : List PyData} {w : List Nat} (k : LfK h w) : w.length ≤ 4 := by
  cases k with
  | num m h => unfold numC; split <;> simp
  | lost => decide
  | use w h => exact (name_len h).2.1
theorem NdK.len {h : List PyData} {o : List Nat} {b : Bool} (k : NdK h o b) : o.length ≤ 7 := by
  cases k with
  | block => decide
  | sum => decide
  | product => decide
  | let_ w h =>
    have := (name_len h).2.1
    simp only [List.length_cons, List.length_append, List.length_nil]
    omega
theorem gapped_len {B : Nat} : ∀ {l : List It}, (∀ x ∈ l, x.word.length ≤ B) → (gapped l).length ≤ l.length * (B + 1)
  | [], _ => by rw [gapped]; exact Nat.zero_le _
  | x :: r, h => by
    have h1 := h x List.mem_cons_self
    have h2 := gapped_len (B := B) (l := r) fun y hy => h y (List.mem_cons_of_mem _ hy)
    rw [gapped, List.length_cons, List.length_append, List.length_cons, Nat.succ_mul]
    omega
theorem Dr.len {n : Nat} {x : It} (d : Dr n x) : x.word.length ≤ wB n := by
  induction d with
  | @leaf n h w k =>
    rw [It.word]
    have := k.len
    cases n with
    | zero => exact this
    | succ n => show _ ≤ 8 + 3 * (wB n + 1); omega
  | @node n h o b l k hl _ ih =>
    rw [word_node]
    have h1 := gapped_len ih
    have h2 := k.len
    have h3 : (if b = true then (gapped l).drop 1 else gapped l).length ≤ (gapped l).length := by
      split
      · rw [List.length_drop]; omega
      · exact Nat.le_refl _
    rw [List.length_append, List.length_append]
    have h4 : l.length * (wB n + 1) ≤ 3 * (wB n + 1) := Nat.mul_le_mul_right _ hl
    show _ ≤ 8 + 3 * (wB n + 1)
    simp only [List.length_cons, List.length_nil]
    omega
def cB : Nat → Nat
  | 0 => 1
  | n + 1 => 1 + 3 * cB n
theorem cB_pos (n : Nat) : 1 ≤ cB n := by cases n <;> simp [cB] <;> omega
theorem rowsL_len {B : Nat} : ∀ {l : List It} {p : List Int} {k a : Nat}, (∀ x ∈ l, ∀ p a, (x.rows p a).length ≤ B) → (rowsL p k a l).length ≤ l.length * B
  | [], p, k, a, _ => by rw [rowsL]; exact Nat.zero_le _
  | x :: r, p, k, a, h => by
    rw [rowsL, List.length_append, List.length_cons, Nat.succ_mul]
    have h1 := h x List.mem_cons_self (p ++ [(k : Int)]) a
    have h2 := rowsL_len (B := B) (l := r) (p := p) (k := k + 1) (a := a + x.word.length + 1) fun y hy => h y (List.mem_cons_of_mem _ hy)
    omega
theorem Dr.rows {n : Nat} {x : It} (d : Dr n x) : ∀ p a, (x.rows p a).length ≤ cB n := by
  induction d with
  | @leaf n h w k =>
    intro p a
    rw [It.rows]
    exact cB_pos n
  | @node n h o b l k hl _ ih =>
    intro p a
    rw [It.rows, List.length_cons]
    have h1 := rowsL_len (p := p) (k := 0) (a := a + o.length + if b = true then 0 else 1) ih
    have h4 : l.length * cB n ≤ 3 * cB n := Nat.mul_le_mul_right _ hl
    show _ ≤ 1 + 3 * cB n
    omega
theorem datL_map : ∀ l : List It, datL l = l.map It.dat
  | [] => by rw [datL]; rfl
  | x :: r => by rw [datL, datL_map r]; rfl
theorem Flats.app {ds es : List PyData} (h : Flats ds) (g : Flats es) : Flats (ds ++ es) := by
  induction ds with
  | nil => exact g
  | cons d ds ih =>
    cases h with
    | cons h1 h2 => exact .cons h1 (ih h2)
theorem LfK.flat {h : List PyData} {w : List Nat} (k : LfK h w) : Flats h := by
  cases k with
  | num m _ => exact .cons (.str _) (.cons (.int _) .nil)
  | lost => exact .cons (.str _) .nil
  | use w _ => exact .cons (.str _) (.cons (.str _) .nil)
theorem NdK.flat {h : List PyData} {o : List Nat} {b : Bool} (k : NdK h o b) : Flats h := by
  cases k with
  | block => exact .cons (.str _) .nil
  | sum => exact .cons (.str _) .nil
  | product => exact .cons (.str _) .nil
  | let_ w _ => exact .cons (.str _) (.cons (.str _) .nil)
theorem Dr.flat {n : Nat} {x : It} (d : Dr n x) : Flat x.dat := by
  induction d with
  | @leaf n h w k => rw [It.dat]; exact .tup k.flat
  | @node n h o b l k hl _ ih =>
    rw [It.dat, datL_map]
    refine .tup (k.flat.app (.cons (.tup (Flats.of fun e he => ?_)) .nil))
    obtain ⟨y, hy, rfl⟩ := List.mem_map.mp he
    exact ih y hy
theorem str_small {w : List Nat} (h : ∀ c ∈ w, c < 200) : (sO w).cps.toList.all (fun c => decide (c < 16 ^ 8)) = true := by
  rw [sO_cps, List.all_eq_true]
  intro c hc
  exact decide_eq_true (Nat.lt_of_lt_of_le (h c hc) (by decide))
def dB : Nat → Nat
  | 0 => 30
  | n + 1 => 3 * (3 * (dB n + 1) + 1)
theorem dB_low (n : Nat) : 30 ≤ dB n := by
  induction n with
  | zero => exact Nat.le_refl _
  | succ n ih => show 30 ≤ 3 * (3 * (dB n + 1) + 1); omega
theorem nice_lit {x : String} (h : (Str.ofString x).length ≤ 13) (hc : (Str.ofString x).cps.toList.all (fun c => decide (c < 16 ^ 8)) = true) : Nice 0 14 (.str (Str.ofString x)) := (nice_str h hc).mono (Nat.le_refl _) (by decide)
theorem LfK.nice {h : List PyData} {w : List Nat} (k : LfK h w) : (∀ d ∈ h, Nice 0 14 d) ∧ h.length ≤ 2 := by
  cases k with
  | num m hm =>
    refine ⟨fun d hd => ?_, by simp⟩
    simp only [List.mem_cons, List.not_mem_nil, or_false] at hd
    rcases hd with rfl | rfl
    · exact nice_lit (by decide +kernel) (by decide +kernel)
    · exact nice_int (by omega)
  | lost =>
    refine ⟨fun d hd => ?_, by simp⟩
    rw [List.mem_singleton.mp hd]
    exact nice_lit (by decide +kernel) (by decide +kernel)
  | use w hw =>
    refine ⟨fun d hd => ?_, by simp⟩
    simp only [List.mem_cons, List.not_mem_nil, or_false] at hd
    rcases hd with rfl | rfl
    · exact nice_lit (by decide +kernel) (by decide +kernel)
    · obtain ⟨_, h2, h3⟩ := name_len hw
      exact (nice_str (n := 14) (by rw [sO_len]; omega) (str_small h3))
theorem NdK.nice {h : List PyData} {o : List Nat} {b : Bool} (k : NdK h o b) : (∀ d ∈ h, Nice 0 14 d) ∧ h.length ≤ 2 := by
  cases k with
  | block =>
    refine ⟨fun d hd => ?_, by simp⟩
    rw [List.mem_singleton.mp hd]
    exact nice_lit (by decide +kernel) (by decide +kernel)
  | sum =>
    refine ⟨fun d hd => ?_, by simp⟩
    rw [List.mem_singleton.mp hd]
    exact nice_lit (by decide +kernel) (by decide +kernel)
  | product =>
    refine ⟨fun d hd => ?_, by simp⟩
    rw [List.mem_singleton.mp hd]
    exact nice_lit (by decide +kernel) (by decide +kernel)
  | let_ w hw =>
    refine ⟨fun d hd => ?_, by simp⟩
    simp only [List.mem_cons, List.not_mem_nil, or_false] at hd
    rcases hd with rfl | rfl
    · exact nice_lit (by decide +kernel) (by decide +kernel)
    · obtain ⟨_, h2, h3⟩ := name_len hw
      exact (nice_str (n := 14) (by rw [sO_len]; omega) (str_small h3))
theorem Nice.tuple' {k W n : Nat} {ds : List PyData} (h : ∀ d ∈ ds, Nice k W d) (hl : ds.length ≤ n) : Nice (k + 1) (n * (W + 1)) (.tuple ds) := (Nice.tuple h).mono (Nat.le_refl _) (Nat.mul_le_mul_right _ hl)
theorem items_nice {n : Nat} {l : List It} (hl : l.length ≤ 3) (h : ∀ x ∈ l, Nice (2 * n + 1) (dB n) x.dat) : Nice (2 * n + 2) (3 * (dB n + 1)) (.tuple (datL l)) := by
  rw [datL_map]
  refine Nice.tuple' (fun d hd => ?_) (by rw [List.length_map]; exact hl)
  obtain ⟨y, hy, rfl⟩ := List.mem_map.mp hd
  exact h y hy
theorem Dr.nice {n : Nat} {x : It} (d : Dr n x) : Nice (2 * n + 1) (dB n) x.dat := by
  induction d with
  | @leaf n h w k =>
    rw [It.dat]
    obtain ⟨h1, h2⟩ := k.nice
    exact (Nice.tuple' h1 h2).mono (by omega) (dB_low n)
  | @node n h o b l k hl _ ih =>
    rw [It.dat]
    obtain ⟨h1, h2⟩ := k.nice
    have hi := items_nice hl ih
    have := dB_low n
    refine (Nice.tuple' (k := 2 * n + 2) (W := 3 * (dB n + 1)) (n := 3) (fun d hd => ?_) (by rw [List.length_append]; show h.length + 1 ≤ 3; omega)).mono (by omega) (Nat.le_refl _)
    rcases List.mem_append.mp hd with q | q
    · exact (h1 d q).mono (Nat.zero_le _) (by omega)
    · rw [List.mem_singleton.mp q]
      exact hi
mutual
theorem flat_pure : ∀ (d : PyData), Flat d → Pure d
  | .none, _ => pure_none
  | .bool _, _ => ⟨rfl, rfl⟩
  | .int _, _ => pure_int _
  | .str _, _ => pure_str _
  | .list _, h => by cases h
  | .dict _, h => by cases h
  | .tuple ds, h => by
    cases h with
    | tup f => exact flats_pure ds f
theorem flats_pure : ∀ (ds : List PyData), Flats ds → PyData.hasDictAll ds = false ∧ noListAll ds = true
  | [], _ => ⟨rfl, rfl⟩
  | d :: ds, h => by
    cases h with
    | cons h1 h2 =>
      obtain ⟨a1, a2⟩ := flat_pure d h1
      obtain ⟨b1, b2⟩ := flats_pure ds h2
      refine ⟨?_, ?_⟩
      · show (d.hasDict || PyData.hasDictAll ds) = false
        rw [a1, b1]; rfl
      · show (noList d && noListAll ds) = true
        rw [a2, b2]; rfl
end
theorem Dr.pure {n : Nat} {x : It} (d : Dr n x) : Pure x.dat := by
  have f : ∀ (d : PyData), Flat d → Pure d := by
    intro d h
    exact flat_pure d h
  exact f _ d.flat
end K1
set_option maxHeartbeats 4000000
/-! _law_item, _law_program -/
namespace K1
open PySem L2
theorem Bt.ne {p q : Addr} {H : Hp} (h : Src H p) (n : H q = none) : q ≠ p := fun e => by
  obtain ⟨x, y, z, _⟩ := h
  rw [e, z] at n
  cases n
theorem hid_mono {p : Addr} {H H' : Hp} (s : Same H H') : Same (hid p H) (hid p H') := fun b u e => by
  obtain ⟨h1, h2⟩ := hid_at e
  rw [hid_ne h1]
  exact s _ _ h2
theorem hid_put {p : Addr} {H : Hp} {o : HO} : hid p (upd H p o) = hid p H := by
  funext b
  unfold hid
  by_cases e : b = p
  · rw [if_pos e, if_pos e]
  · rw [if_neg e, if_neg e, upd_ne e]
theorem hid_comm {p q : Addr} {H : Hp} : hid p (hid q H) = hid q (hid p H) := by
  funext b
  unfold hid
  by_cases e : b = p <;> by_cases f : b = q <;> simp [e, f]
/-- texts as data -/
theorem strs_dqs {K : PySem.W.Frag} {H : Hp} : ∀ (ws : List (List Nat)), (∀ w ∈ ws, w.length ≤ 1000) → DQs K H (ws.map fun w => V.str (sO w)) (ws.map fun w => PyData.str (sO w))
  | [], _ => .nil
  | w :: ws, h => .cons (.str _ (by rw [sO_len]; exact h w List.mem_cons_self)) (strs_dqs ws fun x hx => h x (List.mem_cons_of_mem _ hx))
theorem names_dqs {K : PySem.W.Frag} {H : Hp} : DQs K H nameV nameD' := by
  rw [nameV_eq]
  exact strs_dqs nameC fun w hw => Nat.le_trans (name_len hw).2.1 (by decide)
theorem name_b : (V.str "b") = V.str (sO [98]) := by decide +kernel
theorem names_b {K : PySem.W.Frag} {H : Hp} : DQs K H (nameV ++ [.str "b"]) ((nameC ++ [[98]]).map fun w => PyData.str (sO w)) := by
  rw [nameV_eq, name_b]
  have z := strs_dqs (K := K) (H := H) (nameC ++ [[98]]) fun w hw => by
    rcases List.mem_append.mp hw with h | h
    · exact Nat.le_trans (name_len h).2.1 (by decide)
    · rw [List.mem_singleton.mp h]; decide
  rw [List.map_append] at z
  exact z
theorem name_in {d : PyData} (h : d ∈ nameD') : ∃ w ∈ nameC, d = .str (sO w) := by
  obtain ⟨w, hw, rfl⟩ := List.mem_map.mp h
  exact ⟨w, hw, rfl⟩
theorem name_inb {d : PyData} (h : d ∈ (nameC ++ [[98]]).map fun w => PyData.str (sO w)) : ∃ w ∈ nameC, d = .str (sO w) := by
  obtain ⟨w, hw, rfl⟩ := List.mem_map.mp h
  rcases List.mem_append.mp hw with q | q
  · exact ⟨w, q, rfl⟩
  · rw [List.mem_singleton.mp q]
    exact ⟨[98], by decide, rfl⟩
/-- the names as the law gives them -/
def NamesAt (H : Hp) (p l : Addr) : Prop := H l = some (.lst nameV) ∧ l ≠ p
theorem NamesAt.bt {H H' : Hp} {p l : Addr} (h : NamesAt H p l) (b : Bt p H H') : NamesAt H' p l := ⟨b.at h.2 h.1, h.2⟩
def spIt (K : PySem.W.Frag) (n : Nat) : Sp := fun vs H Q _ => ∃ (p l : Addr), vs = [.ref p, .int (n : Int), .ref l] ∧ Src H p ∧ NamesAt H p l ∧ ∀ H' u x, Bt p H H' → Dr n x → DQ K (hid p H') u x.dat → Q u H'
/-- is nothing to be held -/
def tDeep : TT := fun σ H Q => ∃ n r : Int, σ[1]? = some (some (.int n)) ∧ σ[3]? = some (some (.int r)) ∧ Q (decide (n = 0 ∨ r < 4)) H
def tWay3 : TT := fun σ H Q => ∃ (r : Int) (l : Addr), σ[3]? = some (some (.int r)) ∧ σ[2]? = some (some (.ref l)) ∧ H l = some (.lst nameV) ∧ ∀ H', Same H H' → Q (decide (r = 3)) H'
theorem dec_int {a b : Int} : decide (V.int a = V.int b) = decide (a = b) := by
  by_cases h : a = b
  · rw [h, decide_eq_true rfl, decide_eq_true rfl]
  · rw [decide_eq_false h, decide_eq_false fun z => h (by injection z)]
/-- a new tuple of data -/
theorem tup_new {K : PySem.W.Frag} {p q : Addr} {H H' : Hp} {us : List V} {ds : List PyData} (b : Bt p H H') (nq : H' q = none) (h : DQs K (hid p H') us ds) : Bt p H (upd H' q (.tup us)) ∧ DQ K (hid p (upd H' q (.tup us))) (.ref q) (.tuple ds) := by
  have nqp := Bt.ne b.src nq
  exact ⟨b.new nq, .tup (.inl (.inl (by rw [hid_ne nqp, upd_same]))) (h.to (hid_mono (K0.same_upd nq)))⟩
abbrev NI : List Str := ["_law_pool_here", "_law_deep", "_law_names", "_law_way", "_law_items", "_law_turn"]
section
variable {P : Program} {w : World} {K : PySem.W.Frag} {mg : Str → Option Value} {base : Heap}
theorem sc_item : FnScope NI ["_law_pool_here", "_law_deep", "_law_names"] (defScope (top 31)) := ⟨rfl, rfl, rfl, by decide +kernel, rfl, by decide +kernel, by decide +kernel⟩
/-- the test of a drawn item: a leaf, or one that holds others -/
theorem deep_ask {σ : St} {H : Hp} {Q : Bool → Hp → Prop} (hh : tDeep σ H Q) : tOr (tTest (tOp rEq (tVar 1) (tC (.int 0)))) (tTest (tOp (rI0 fun i j => .bl (decide (i < j))) (tVar 3) (tC (.int 4)))) σ H Q := by
  obtain ⟨n, r, h1, h3, q⟩ := hh
  refine ⟨_, h1, rfl, _, rfl, ?_⟩
  rw [dec_int]
  by_cases c : n = 0
  · have e : decide (n = 0 ∨ r < 4) = true := decide_eq_true (.inl c)
    rw [e] at q
    rw [decide_eq_true c]
    exact iteT q
  · have e : decide (n = 0 ∨ r < 4) = decide (r < 4) := by
      by_cases f : r < 4
      · rw [decide_eq_true f, decide_eq_true (.inr f)]
      · rw [decide_eq_false f, decide_eq_false fun z => z.elim c f]
    rw [e] at q
    rw [decide_eq_false c]
    exact iteF ⟨_, h3, _, _, rfl, rfl, _, rfl, q⟩
theorem leaf_rest {n : Nat} : True := trivial
theorem cl_item (T : All K mg) (M : Nms mg) (hrange : mg "range" = none) : ∀ n : Nat, Cl P w K mg base (n + 3) "_law_item" ["_law_pool_here", "_law_deep", "_law_names"] (spIt K n) := by
  obtain ⟨g, fd, D⟩ := T.dn 31 _ _ rfl
  intro n
  induction n with
  | zero =>
    refine D.cl (D.fn.ok sc_item (fun vs H Q E h => ?_) (fun cdv A outer s H vs Q E hr h => ?_))
    · obtain ⟨p, l, rfl, _⟩ := h
      rfl
    · obtain ⟨p, l, rfl, src, hl, k⟩ := h
      refine ⟨_, (pss_cons (ps_set (i := 3) sc_item.nd rfl (Or.inl rfl) (pe_cl (cl_takeB T M) hr (by decide) (pa_cons (pv 0) (pa_cons pe_int pa_nil))))
      (pss_cons (ps_if (pt_imp (t' := tDeep) (PW.pt (pw_or (pt_cmpR op_eq (pv 1) pe_int (nomark _)) (pw_or1 (pt_cmpR op_lt (pv 3) pe_int (nomark _))))) (fun σ H Q hh => deep_ask hh)) (pss_cons (ps_if (pt_imp (t' := tWay3) (PW.pt (pw_or (pt_cmpR op_eq (pv 3) pe_int (nomark _)) (pw_or1 (pt_cmpR (op_eqE hr.units) (pv 2) (pe_lst pa_nil) (nomark _))))) (fun σ H Q hh => ?_)) (pss_one (ps_ret (pe_tup (pa_cons pe_str (pa_cons (pe_cl (cl_takeB T M) hr (by decide) (pa_cons (pv 0) (pa_cons pe_int pa_nil))) pa_nil))))) pss_nil)
      (pss_one (ps_ret (pe_ifExp (pt_cmpR op_eq (pv 3) pe_int (nomark _)) (pe_tup (pa_cons pe_str pa_nil)) (pe_tup (pa_cons pe_str (pa_cons (pe_cl (cl_one T M) hr (by decide) (pa_cons (pv 0) (pa_cons (pv 2) pa_nil))) pa_nil))))))) pss_nil)
      (pss_cons ps_never
      (pss_cons ps_never
      (pss_one ps_never))))), ?_⟩
      · -- way == 3, or there are no names
        obtain ⟨r, l, h3, h2, hl, q⟩ := hh
        refine ⟨_, h3, rfl, _, rfl, ?_⟩
        rw [dec_int]
        by_cases c : r = 3
        · rw [decide_eq_true c] at q ⊢
          exact iteT (q H (Same.refl H))
        · rw [decide_eq_false c] at q ⊢
          refine iteF ⟨_, h2, Nat.zero_le _, fun t nt => ⟨l, t, nameV, rfl, rfl, .inl ⟨SqL.of ((upd_ne (ne_of_none hl nt)).trans hl), SqL.of upd_same⟩, _, rfl, q _ (K0.same_upd nt)⟩⟩
      · refine ⟨_, rfl, p, 9, rfl, src, by decide, by decide, fun r H1 r0 r1 b1 => ?_⟩
        refine ⟨_, _, rfl, rfl, ?_⟩
        rw [decide_eq_true (.inl rfl)]
        refine iteT ?_
        refine ⟨_, l, rfl, rfl, (hl.bt b1).1, fun H2 s2 => ?_⟩
        have b2 := b1.grow s2
        have s12 : 1 ≤ sizeLine := sizeL (by decide) (m := 1)
        have s22 : 2 ≤ sizeLine := sizeL (by decide) (m := 2)
        by_cases c3 : r = 3
        · rw [decide_eq_true c3]
          refine iteT ⟨_, rfl, p, 100, rfl, b2.src, by decide, by decide, fun m H3 m0 m1 b3 => ⟨s22, fun q nq => ?_⟩⟩
          obtain ⟨i, rfl⟩ : ∃ i : Nat, m = (i : Int) := ⟨m.toNat, by omega⟩
          obtain ⟨g1, g2⟩ := tup_new (K := K) (us := [.str "number", .int (i : Int)]) (ds := [.str "number", .int (i : Int)]) (b2.trans b3) nq (.cons (.str _ (by decide +kernel)) (.cons (.int _) .nil))
          exact k _ _ (.leaf [.str "number", .int (i : Int)] (numC i)) g1 (.leaf (.num i (by omega))) g2
        · rw [decide_eq_false c3]
          refine iteF ⟨_, rfl, rfl, _, rfl, ?_⟩
          rw [dec_int]
          by_cases c2 : r = 2
          · rw [decide_eq_true c2]
            refine iteT ⟨s12, fun q nq => ?_⟩
            obtain ⟨g1, g2⟩ := tup_new (K := K) (us := [.str "lost"]) (ds := [.str "lost"]) b2 nq (.cons (.str _ (by decide +kernel)) .nil)
            exact k _ _ (.leaf [.str "lost"] [63]) g1 (.leaf .lost) g2
          · rw [decide_eq_false c2]
            have hl2 := hl.bt b2
            refine iteF ⟨_, rfl, _, rfl, p, l, nameV, nameD', rfl, b2.src, SqL.of (by rw [hid_ne hl2.2]; exact hl2.1), names_dqs, by decide, by decide, fun H3 u d hd b3 hu => ⟨s22, fun q nq => ?_⟩⟩
            obtain ⟨w, hw, rfl⟩ := name_in hd
            obtain ⟨g1, g2⟩ := tup_new (K := K) (us := [.str "use", u]) (ds := [.str "use", .str (sO w)]) (b2.trans b3) nq (.cons (.str _ (by decide +kernel)) (.cons hu .nil))
            exact k _ _ (.leaf [.str "use", .str (sO w)] w) g1 (.leaf (.use w hw)) g2
  | succ n ih =>
    refine D.cl (D.fn.ok sc_item (fun vs H Q E h => ?_) (fun cdv A outer s H vs Q E hr h => ?_))
    · obtain ⟨p, l, rfl, _⟩ := h
      rfl
    · obtain ⟨p, l, rfl, src, hl, k⟩ := h
      have hr3 : Room (n + 3) _ := hr
      have le1 : 1 ≤ n + 3 := by omega
      have le2 : 2 ≤ n + 3 := by omega
      refine ⟨_, (pss_cons (ps_set (i := 3) sc_item.nd rfl (Or.inl rfl) (pe_cl (cl_takeB T M) hr3 le1 (pa_cons (pv 0) (pa_cons pe_int pa_nil))))
      (pss_cons (ps_if (pt_imp (t' := tDeep) (PW.pt (pw_or (pt_cmpR op_eq (pv 1) pe_int (nomark _)) (pw_or1 (pt_cmpR op_lt (pv 3) pe_int (nomark _))))) (fun σ H Q hh => deep_ask hh)) (pss_cons (ps_if (pt_imp (t' := tWay3) (PW.pt (pw_or (pt_cmpR op_eq (pv 3) pe_int (nomark _)) (pw_or1 (pt_cmpR (op_eqE hr.units) (pv 2) (pe_lst pa_nil) (nomark _))))) (fun σ H Q hh => ?_)) (pss_one (ps_ret (pe_tup (pa_cons pe_str (pa_cons (pe_cl (cl_takeB T M) hr3 le1 (pa_cons (pv 0) (pa_cons pe_int pa_nil))) pa_nil))))) pss_nil)
      (pss_one (ps_ret (pe_ifExp (pt_cmpR op_eq (pv 3) pe_int (nomark _)) (pe_tup (pa_cons pe_str pa_nil)) (pe_tup (pa_cons pe_str (pa_cons (pe_cl (cl_one T M) hr3 le2 (pa_cons (pv 0) (pa_cons (pv 2) pa_nil))) pa_nil))))))) pss_nil)
      (pss_cons (ps_set (i := 4) sc_item.nd rfl (Or.inl rfl) (pe_callTy call_tuple_of (by rfl) T.bi.tuple (by decide +kernel) (pa_cons (pe_lc (own := [("_law_turn", 5)]) (g := gName 5) (tt := tYes) (te := (tCall (spIt K n) [] E0 (tCons (tVar 0) (tCons (tOp (rI0 fun i j => .int (i - j)) (tVar 1) (tC (.int 1))) (tCons (tVar 2) tNil))))) rfl sc_item.nd (pi_range1 rfl hrange (pa_cons (pe_cl (cl_takeB T M) hr3 le1 (pa_cons (pv 0) (pa_cons pe_int pa_nil))) pa_nil)) (blkOk_by (own := [("_law_turn", 5)]) (N := NI) (sc := defScope (top 31)) (by decide +kernel)) (fun _ _ _ _ _ => (pg_name (i := 5) sc_item.nd rfl (Or.inl rfl))) (fun _ _ _ _ _ => pts_nil) (fun _ _ _ _ _ => (pe_cl ih hr3 (Nat.le_refl _) (pa_cons (pv 0) (pa_cons (pe_op op_sub (pv 1) pe_int) (pa_cons (pv 2) pa_nil)))))) pa_nil)))
      (pss_cons (ps_if (pt_cmpR op_lt (pv 3) pe_int (nomark _)) (pss_one (ps_ret (pe_tup (pa_cons (pe_ix ix_list (pe_lst (pa_cons pe_str (pa_cons pe_str (pa_cons pe_str pa_nil)))) (pe_op op_sub (pv 3) pe_int) (fun _ _ => rfl)) (pa_cons (pv 4) pa_nil))))) pss_nil)
      (pss_one (ps_ret (pe_tup (pa_cons pe_str (pa_cons (pe_cl (cl_one T M) hr3 le2 (pa_cons (pv 0) (pa_cons (pe_op op_cat (pv 2) (pe_lst (pa_cons pe_str pa_nil))) pa_nil))) (pa_cons (pv 4) pa_nil)))))))))), ?_⟩
      · -- way == 3, or there are no names
        obtain ⟨r, l, h3, h2, hl, q⟩ := hh
        refine ⟨_, h3, rfl, _, rfl, ?_⟩
        rw [dec_int]
        by_cases c : r = 3
        · rw [decide_eq_true c] at q ⊢
          exact iteT (q H (Same.refl H))
        · rw [decide_eq_false c] at q ⊢
          refine iteF ⟨_, h2, Nat.zero_le _, fun t nt => ⟨l, t, nameV, rfl, rfl, .inl ⟨SqL.of ((upd_ne (ne_of_none hl nt)).trans hl), SqL.of upd_same⟩, _, rfl, q _ (K0.same_upd nt)⟩⟩
      · refine ⟨_, rfl, p, 9, rfl, src, by decide, by decide, fun r H1 r0 r1 b1 => ?_⟩
        refine ⟨_, _, rfl, rfl, ?_⟩
        by_cases c4 : r < 4
        · rw [decide_eq_true (.inr c4)]
          refine iteT ?_
          refine ⟨_, l, rfl, rfl, (hl.bt b1).1, fun H2 s2 => ?_⟩
          have b2 := b1.grow s2
          have s12 : 1 ≤ sizeLine := sizeL (by decide) (m := 1)
          have s22 : 2 ≤ sizeLine := sizeL (by decide) (m := 2)
          by_cases c3 : r = 3
          · rw [decide_eq_true c3]
            refine iteT ⟨_, rfl, p, 100, rfl, b2.src, by decide, by decide, fun m H3 m0 m1 b3 => ⟨s22, fun q nq => ?_⟩⟩
            obtain ⟨i, rfl⟩ : ∃ i : Nat, m = (i : Int) := ⟨m.toNat, by omega⟩
            obtain ⟨g1, g2⟩ := tup_new (K := K) (us := [.str "number", .int (i : Int)]) (ds := [.str "number", .int (i : Int)]) (b2.trans b3) nq (.cons (.str _ (by decide +kernel)) (.cons (.int _) .nil))
            exact k _ _ (.leaf [.str "number", .int (i : Int)] (numC i)) g1 (.leaf (.num i (by omega))) g2
          · rw [decide_eq_false c3]
            refine iteF ⟨_, rfl, rfl, _, rfl, ?_⟩
            rw [dec_int]
            by_cases c2 : r = 2
            · rw [decide_eq_true c2]
              refine iteT ⟨s12, fun q nq => ?_⟩
              obtain ⟨g1, g2⟩ := tup_new (K := K) (us := [.str "lost"]) (ds := [.str "lost"]) b2 nq (.cons (.str _ (by decide +kernel)) .nil)
              exact k _ _ (.leaf [.str "lost"] [63]) g1 (.leaf .lost) g2
            · rw [decide_eq_false c2]
              have hl2 := hl.bt b2
              refine iteF ⟨_, rfl, _, rfl, p, l, nameV, nameD', rfl, b2.src, SqL.of (by rw [hid_ne hl2.2]; exact hl2.1), names_dqs, by decide, by decide, fun H3 u d hd b3 hu => ⟨s22, fun q nq => ?_⟩⟩
              obtain ⟨w, hw, rfl⟩ := name_in hd
              obtain ⟨g1, g2⟩ := tup_new (K := K) (us := [.str "use", u]) (ds := [.str "use", .str (sO w)]) (b2.trans b3) nq (.cons (.str _ (by decide +kernel)) (.cons hu .nil))
              exact k _ _ (.leaf [.str "use", .str (sO w)] w) g1 (.leaf (.use w hw)) g2
        · rw [decide_eq_false (fun z => z.elim (by omega) c4)]
          -- the items
          refine iteF ⟨_, rfl, p, 4, rfl, b1.src, by decide, by decide, fun m H2 m0 m1 b2 => ⟨m, rfl, by omega, by omega, fun L nL => ?_⟩⟩
          have b12 := b1.trans b2
          have nLp := Bt.ne b2.src nL
          refine lc_range (lo := 0) (n := m.toNat) (fun i H' => i ≤ m.toNat ∧ Bt p H2 H' ∧ H2 L = none ∧ ∃ acc its, H' L = some (.lst acc) ∧ its.length = i ∧ (∀ x ∈ its, Dr n x) ∧ DQs K (hid L (hid p H')) acc (datL its)) ⟨Nat.zero_le _, (Bt.refl b2.src).new nL, nL, [], [], upd_same, rfl, fun x hx => (by cases hx), by rw [datL]; exact .nil⟩ ?_ ?_
          · rintro i H' hi ⟨hle, b3, nL', acc, its, hacc, hil, hdr, hdq⟩
            refine ⟨rfl, ?_⟩
            unfold tYes
            dsimp only
            rw [if_pos rfl]
            have b13 := b12.trans b3
            refine ⟨_, rfl, _, rfl, _, _, rfl, rfl, _, rfl, p, l, ?_, b13.src, hl.bt b13, fun H3 u x b4 hx hu => ?_⟩
            · show [V.ref p, V.int (((n + 1 : Nat) : Int) - 1), V.ref l] = [V.ref p, V.int (n : Int), V.ref l]
              rw [show (((n + 1 : Nat) : Int) - 1) = (n : Int) from by omega]
            have hacc3 : H3 L = some (.lst acc) := b4.at nLp hacc
            have sH : Same (hid L (hid p H')) (hid L (hid p H3)) := hid_mono b4.same
            have hLp : (hid p H3) L = some (.lst acc) := by rw [hid_ne nLp]; exact hacc3
            have hu2 : DQ K (hid L (hid p H3)) u x.dat := Flat.hide hLp _ _ hx.flat hu
            have lacc : acc.length = i := by rw [hdq.len, datL_map, List.length_map, hil]
            refine ⟨acc, hacc3, by rw [sizeLine_eq]; omega, hi, ?_, nL, acc ++ [u], its ++ [x], upd_same, by rw [List.length_append, hil]; rfl, fun y hy => ?_, ?_⟩
            · have b5 := b3.trans b4
              refine ⟨fun b w e => ?_, ?_⟩
              · obtain ⟨e1, e2⟩ := hid_at e
                rw [hid_ne e1, upd_ne (ne_of_none e2 nL)]
                exact b5.at e1 e2
              · obtain ⟨x1, x2, e, r⟩ := b5.src
                exact ⟨x1, x2, by rw [upd_ne (Ne.symm nLp)]; exact e, r⟩
            · rcases List.mem_append.mp hy with q | q
              · exact hdr y q
              · rw [List.mem_singleton.mp q]; exact hx
            · rw [hid_comm, hid_put, hid_comm, datL_map, List.map_append, ← datL_map]
              exact (hdq.to sH).app (.cons hu2 .nil)
          · rintro H' ⟨_, b3, _, acc, its, hacc, hil, hdr, hdq⟩
            have b13 := b12.trans b3
            refine ⟨L, acc, rfl, .inl ⟨SqL.of hacc, fun q nq => ?_⟩⟩
            have hil3 : its.length ≤ 3 := by omega
            have hdq' : DQs K (hid p H') acc (datL its) := hdq.to (hid_same L _)
            obtain ⟨b4, dq4⟩ := tup_new b13 nq hdq'
            generalize upd H' q (.tup acc) = H4 at b4 dq4 ⊢
            refine ⟨_, rfl, _, _, rfl, rfl, _, rfl, ?_⟩
            have s22 : 2 ≤ sizeLine := sizeL (by decide) (m := 2)
            have s33 : 3 ≤ sizeLine := sizeL (by decide) (m := 3)
            by_cases c7 : r < 7
            · rw [decide_eq_true c7]
              refine iteT ⟨s33, fun t nt => ⟨_, rfl, _, _, rfl, rfl, t, [.str "block", .str "sum", .str "product"], r - 4, ?_⟩⟩
              have b5 := b4.new (o := .lst [.str "block", .str "sum", .str "product"]) nt
              have e5 := @upd_same H4 t (.lst [.str "block", .str "sum", .str "product"])
              have dq5 := dq4.to (hid_mono (K0.same_upd (o := .lst [.str "block", .str "sum", .str "product"]) nt))
              generalize upd H4 t (.lst [.str "block", .str "sum", .str "product"]) = H5 at b5 e5 dq5 ⊢
              have fin : ∀ (kd : List PyData) (kn : Str) (o : List Nat) (bb : Bool), kd = [.str kn] → kn.length ≤ 1000 → NdK kd o bb → ∀ q2, H5 q2 = none → Q (.ref q2) (upd H5 q2 (.tup [.str kn, .ref q])) := by
                intro kd kn o bb e1 e2 hk q2 nq2
                obtain ⟨g1, g2⟩ := tup_new (K := K) (us := [.str kn, .ref q]) (ds := [.str kn, .tuple (datL its)]) b5 nq2 (.cons (.str _ e2) (.cons dq5 .nil))
                refine k _ _ (.node kd o bb its) g1 (.node hk hil3 hdr) ?_
                rw [It.dat, e1]
                exact g2
              obtain rfl | rfl | rfl : r = 4 ∨ r = 5 ∨ r = 6 := by omega
              · exact ⟨.str "block", rfl, rfl, SqL.of e5, atI_nat (j := 0) rfl, _, rfl, s22, fin _ _ _ _ rfl (by decide +kernel) .block⟩
              · exact ⟨.str "sum", rfl, rfl, SqL.of e5, atI_nat (j := 1) rfl, _, rfl, s22, fin _ _ _ _ rfl (by decide +kernel) .sum⟩
              · exact ⟨.str "product", rfl, rfl, SqL.of e5, atI_nat (j := 2) rfl, _, rfl, s22, fin _ _ _ _ rfl (by decide +kernel) .product⟩
            · rw [decide_eq_false c7]
              have hl4 := hl.bt b4
              refine iteF ⟨_, rfl, _, rfl, sizeL (by decide) (m := 1), fun t nt => ?_⟩
              have tp := Bt.ne b4.src nt
              have hlt : (upd H4 t (.lst [.str "b"])) l = some (.lst nameV) := by rw [upd_ne (ne_of_none hl4.1 nt)]; exact hl4.1
              refine ⟨l, t, nameV, [.str "b"], rfl, rfl, hlt, upd_same, by rw [sizeLine_eq]; decide, fun s' ns => ?_⟩
              have b5 := (b4.new (o := .lst [.str "b"]) nt).new (o := .lst (nameV ++ [.str "b"])) ns
              have dq5 := (dq4.to (hid_mono (K0.same_upd (o := .lst [.str "b"]) nt))).to (hid_mono (K0.same_upd (o := .lst (nameV ++ [.str "b"])) ns))
              have sp := Bt.ne (b4.new (o := .lst [.str "b"]) nt).src ns
              have e5 := @upd_same (upd H4 t (.lst [.str "b"])) s' (.lst (nameV ++ [.str "b"]))
              generalize upd (upd H4 t (.lst [.str "b"])) s' (.lst (nameV ++ [.str "b"])) = H5 at b5 dq5 e5 ⊢
              refine ⟨p, s', _, (nameC ++ [[98]]).map (fun w => PyData.str (sO w)), rfl, b5.src, SqL.of (by rw [hid_ne sp]; exact e5), names_b, by decide, by decide, fun H6 u d hd b6 hu => ⟨_, rfl, s33, fun q2 nq2 => ?_⟩⟩
              obtain ⟨w, hw, rfl⟩ := name_inb hd
              obtain ⟨g1, g2⟩ := tup_new (K := K) (us := [.str "let", u, .ref q]) (ds := [.str "let", .str (sO w), .tuple (datL its)]) (b5.trans b6) nq2 (.cons (.str _ (by decide +kernel)) (.cons hu (.cons (dq5.to b6.same) .nil)))
              refine k _ _ (.node [.str "let", .str (sO w)] (40 :: (w ++ [32, 61])) false its) g1 (.node (.let_ w hw) hil3 hdr) ?_
              rw [It.dat]
              exact g2
end
end K1
set_option maxHeartbeats 4000000
/-! _law_program; words as texts -/
namespace K1
open PySem L2
def spProg (K : PySem.W.Frag) : Sp := fun vs H Q _ => ∃ (p l : Addr), vs = [.ref p, .ref l] ∧ Src H p ∧ NamesAt H p l ∧ ∀ H' u its, Bt p H H' → its.length ≤ 4 → (∀ x ∈ its, Dr 2 x) → DQ K (hid p H') u (.tuple (datL its)) → Q u H'
section
variable {P : Program} {w : World} {K : PySem.W.Frag} {mg : Str → Option Value} {base : Heap}
theorem sc_program : FnScope ["_law_pool_here", "_law_names", "_law_turn"] ["_law_pool_here", "_law_names"] (defScope (top 32)) := ⟨rfl, rfl, rfl, by decide +kernel, rfl, by decide +kernel, by decide +kernel⟩
theorem cl_program (T : All K mg) (M : Nms mg) (hrange : mg "range" = none) : Cl P w K mg base 7 "_law_program" ["_law_pool_here", "_law_names"] (spProg K) := by
  obtain ⟨g, fd, D⟩ := T.dn 32 _ _ rfl
  have ih : Cl P w K mg base 5 "_law_item" ["_law_pool_here", "_law_deep", "_law_names"] (spIt K 2) := cl_item T M hrange 2
  refine D.cl (D.fn.ok sc_program (fun vs H Q E h => ?_) (fun cdv A outer s H vs Q E hr h => ?_))
  · obtain ⟨p, l, rfl, _⟩ := h
    rfl
  · obtain ⟨p, l, rfl, src, hl, k⟩ := h
    refine ⟨_, (pss_one (ps_ret (pe_callTy call_tuple_of (by rfl) T.bi.tuple (by decide +kernel) (pa_cons (pe_lc (own := [("_law_turn", 2)]) (g := gName 2) (tt := tYes) (te := (tCall (spIt K 2) [] E0 (tCons (tVar 0) (tCons (tC (.int 2)) (tCons (tVar 1) tNil))))) rfl sc_program.nd (pi_range1 rfl hrange (pa_cons (pe_cl (cl_takeB T M) hr (by decide) (pa_cons (pv 0) (pa_cons pe_int pa_nil))) pa_nil)) (blkOk_by (own := [("_law_turn", 2)]) (N := ["_law_pool_here", "_law_names", "_law_turn"]) (sc := defScope (top 32)) (by decide +kernel)) (fun _ _ _ _ _ => (pg_name (i := 2) sc_program.nd rfl (Or.inl rfl))) (fun _ _ _ _ _ => pts_nil) (fun _ _ _ _ _ => (pe_cl ih hr (by decide) (pa_cons (pv 0) (pa_cons pe_int (pa_cons (pv 1) pa_nil)))))) pa_nil)))), ?_⟩
    refine ⟨_, rfl, p, 5, rfl, src, by decide, by decide, fun m H2 m0 m1 b12 => ⟨m, rfl, by omega, by omega, fun L nL => ?_⟩⟩
    have nLp := Bt.ne b12.src nL
    refine lc_range (lo := 0) (n := m.toNat) (fun i H' => i ≤ m.toNat ∧ Bt p H2 H' ∧ ∃ acc its, H' L = some (.lst acc) ∧ its.length = i ∧ (∀ x ∈ its, Dr 2 x) ∧ DQs K (hid L (hid p H')) acc (datL its)) ⟨Nat.zero_le _, (Bt.refl b12.src).new nL, [], [], upd_same, rfl, fun x hx => (by cases hx), by rw [datL]; exact .nil⟩ ?_ ?_
    · rintro i H' hi ⟨hle, b3, acc, its, hacc, hil, hdr, hdq⟩
      refine ⟨rfl, ?_⟩
      unfold tYes
      dsimp only
      rw [if_pos rfl]
      have b13 := b12.trans b3
      refine ⟨_, rfl, _, rfl, p, l, rfl, b13.src, hl.bt b13, fun H3 u x b4 hx hu => ?_⟩
      have hacc3 : H3 L = some (.lst acc) := b4.at nLp hacc
      have sH : Same (hid L (hid p H')) (hid L (hid p H3)) := hid_mono b4.same
      have hLp : (hid p H3) L = some (.lst acc) := by rw [hid_ne nLp]; exact hacc3
      have hu2 : DQ K (hid L (hid p H3)) u x.dat := Flat.hide hLp _ _ hx.flat hu
      have lacc : acc.length = i := by rw [hdq.len, datL_map, List.length_map, hil]
      refine ⟨acc, hacc3, by rw [sizeLine_eq]; omega, hi, ?_, acc ++ [u], its ++ [x], upd_same, by rw [List.length_append, hil]; rfl, fun y hy => ?_, ?_⟩
      · have b5 := b3.trans b4
        refine ⟨fun b w e => ?_, ?_⟩
        · obtain ⟨e1, e2⟩ := hid_at e
          rw [hid_ne e1, upd_ne (ne_of_none e2 nL)]
          exact b5.at e1 e2
        · obtain ⟨x1, x2, e, r⟩ := b5.src
          exact ⟨x1, x2, by rw [upd_ne (Ne.symm nLp)]; exact e, r⟩
      · rcases List.mem_append.mp hy with q | q
        · exact hdr y q
        · rw [List.mem_singleton.mp q]; exact hx
      · rw [hid_comm, hid_put, hid_comm, datL_map, List.map_append, ← datL_map]
        exact (hdq.to sH).app (.cons hu2 .nil)
    · rintro H' ⟨_, b3, acc, its, hacc, hil, hdr, hdq⟩
      refine ⟨L, acc, rfl, .inl ⟨SqL.of hacc, fun q nq => ?_⟩⟩
      obtain ⟨b4, dq4⟩ := tup_new (b12.trans b3) nq (hdq.to (hid_same L _))
      exact k _ _ its b4 (by omega) hdr dq4
end
theorem sO_app (a b : List Nat) : sO a ++ sO b = sO (a ++ b) := by
  show (⟨a.toArray ++ b.toArray⟩ : Str) = ⟨(a ++ b).toArray⟩
  simp
theorem join_fold : ∀ (l : List It) (acc : Array Nat), (l.map fun x => sO x.word).foldl (fun acc p => acc ++ (sO [32]).cps ++ p.cps) acc = acc ++ (gapped l).toArray
  | [], acc => by rw [gapped]; simp
  | x :: r, acc => by
    rw [List.map_cons, List.foldl_cons, join_fold r, gapped]
    simp [sO]
/-- words behind a first one -/
theorem join_cons (o : List Nat) (l : List It) : Txt.join (sO [32]) (sO o :: l.map fun x => sO x.word) = sO (o ++ gapped l) := by
  show (⟨((sO o :: l.map fun x => sO x.word).drop 1).foldl (fun acc p => acc ++ (sO [32]).cps ++ p.cps) ((sO o :: l.map fun x => sO x.word).headD Str.empty).cps⟩ : Str) = _
  rw [List.drop_succ_cons, List.drop_zero, join_fold]
  simp [sO]
theorem join_words (l : List It) : Txt.join (sO [32]) (l.map fun x => sO x.word) = sO (textM l) := by
  unfold textM
  cases l with
  | nil => rw [gapped]; rfl
  | cons x r =>
    rw [List.map_cons, join_cons, gapped]
    rfl
theorem blank : (" " : Str) = sO [32] := by decide +kernel
theorem sum_words {B : Nat} : ∀ {l : List It}, (∀ x ∈ l, x.word.length ≤ B) → ((l.map fun x => sO x.word).map (·.length)).sum ≤ l.length * B
  | [], _ => Nat.zero_le _
  | x :: r, h => by
    have h1 := h x List.mem_cons_self
    have h2 := sum_words (B := B) (l := r) fun y hy => h y (List.mem_cons_of_mem _ hy)
    rw [List.map_cons, List.map_cons, List.sum_cons, List.length_cons, Nat.succ_mul, sO_len]
    omega
end K1
set_option maxHeartbeats 4000000
/-! _law_word, _law_text -/
namespace K1
open PySem L2
theorem call_strS {X : Cx} : CallR X (.type "str") (fun xs H Q => ∃ a, xs = [.str a] ∧ Q (.str a) H) := by
  intro pins s σ H xs us Q I r h
  obtain ⟨a, rfl, q⟩ := h
  obtain ⟨u, rfl, t, rfl⟩ := vals1 r
  exact PySem.P.str_of_str ⟨.str a, H, I, ⟨t, rfl⟩, q⟩
/-- str of a number, of a text, of a tuple -/
def rStrAny (K : PySem.W.Frag) : List V → Hp → VK → Prop := fun xs H Q => (∃ i, xs = [.int i] ∧ i.natAbs.log2 < 1920 ∧ Q (.str (toString i)) H) ∨ (∃ a, xs = [.str a] ∧ Q (.str a) H) ∨ rStrT K xs H Q
theorem call_strAny {X : Cx} (hg : X.A.guards = some []) (hu : X.A.units + 64 < cLine) : CallR X (.type "str") (rStrAny X.K) := by
  intro pins s σ H xs us Q I r h
  rcases h with h | h | h
  · exact call_str_int pins s σ H xs us Q I r h
  · exact call_strS pins s σ H xs us Q I r h
  · exact call_strT hg hu pins s σ H xs us Q I r h
/-- is it an item of that kind -/
def tKind (K : PySem.W.Frag) (y : Str) : TT := fun σ H Q => ∃ (v : V) (k : Str) (r : List PyData), σ[0]? = some (some v) ∧ DQ K H v (.tuple (.str k :: r)) ∧ Q (decide (k = y)) H
theorem kind_ask {K : PySem.W.Frag} {y : Str} {σ : St} {H : Hp} {Q : Bool → Hp → Prop} (hh : tKind K y σ H Q) : tTest (tOp rEq (tOp (rIxT K) (tVar 0) (tC (.int 0))) (tC (.str y))) σ H Q := by
  obtain ⟨v, k, r, h0, hd, q⟩ := hh
  obtain ⟨a, xs, u, rfl, hT, hi, hu⟩ := hd.item (i := 0) rfl
  cases hu
  refine ⟨_, h0, a, xs, _, _, rfl, rfl, hT, hi, rfl, _, rfl, ?_⟩
  rw [dec_str]
  exact q
/-- a comprehension over a tuple, each item to be asked of something that makes new things -/
theorem lc_funT2 {K : PySem.W.Frag} {a : Addr} {xs : List V} {te : TE} {j : Nat} {σ : St} {H1 : Hp} {D : Addr} {Qd : Hp → Prop} (f : Nat → V) (nD : H1 D = none) (ha : SqT K H1 a xs) (hz : xs.length ≤ 1000) (hw : ∀ x, wipe ((wipe σ [j]).set j (some x)) [j] = wipe σ [j])
    (he : ∀ i x H' Q, xs[i]? = some x → Same H1 H' → (∀ H'', Same H' H'' → Q (f i) H'') → te ((wipe σ [j]).set j (some x)) H' Q) (hd : ∀ H', Same H1 H' → H' D = some (.lst ((List.range xs.length).map f)) → Qd H') :
    ∃ W : Nat → Nat → Hp → Prop, (∃ m, W 0 m (upd H1 D (.lst []))) ∧ ∀ i m H, W i m H →
      ((Itt K a).stop i H ∧ Qd H) ∨ ((Itt K a).go i H ∧ ∃ Nx : Hp → Prop, (∀ H', Nx H' → ∃ m', m' < m ∧ W (i + 1) m' H') ∧ ∀ x H', (Itt K a).yld i H x H' → (gName j) x (wipe σ [j]) H' fun σ2 H2 => wipe σ2 [j] = wipe σ [j] ∧ tYes σ2 H2 fun b H3 =>
        if b = true then te σ2 H3 fun y H4 => ∃ acc, H4 D = some (.lst acc) ∧ acc.length < sizeLine ∧ Nx (upd H4 D (.lst (acc ++ [y]))) else Nx H3) := by
  refine lc_tup (K := K) (a := a) (xs := xs) (fun i H' => i ≤ xs.length ∧ Same H1 H' ∧ H' D = some (.lst ((List.range i).map f))) ⟨Nat.zero_le _, K0.same_upd nD, upd_same⟩ (fun i H' _ ⟨_, s, _⟩ => K0.seqT_same s ha) ?_ (fun H' ⟨_, s, h⟩ => hd H' s h)
  intro i x H' hi ⟨hle, s, h⟩
  have hlt := (List.getElem?_eq_some_iff.mp hi).1
  refine ⟨hw x, ?_⟩
  unfold tYes
  dsimp only
  rw [if_pos rfl]
  refine he i x H' _ hi s fun H'' s2 => ⟨_, s2 _ _ h, ?_, hlt, K0.same_over (s.trans s2) nD, ?_⟩
  · rw [List.length_map, List.length_range, sizeLine_eq]
    omega
  · rw [upd_same, List.range_succ, List.map_append]
    rfl
theorem range_words : ∀ (l : List It) , (List.range l.length).map (fun i => V.str (sO ((l.getD i (.leaf [] [])).word))) = (l.map fun x => sO x.word).map V.str := by
  intro l
  refine List.ext_getElem? fun i => ?_
  rw [List.getElem?_map, List.getElem?_map, List.getElem?_map]
  by_cases h : i < l.length
  · rw [List.getElem?_range h, List.getElem?_eq_getElem h]
    show some (V.str (sO ((l.getD i (.leaf [] [])).word))) = _
    rw [List.getD_eq_getElem?_getD, List.getElem?_eq_getElem h]
    rfl
  · rw [List.getElem?_eq_none (by rw [List.length_range]; omega), List.getElem?_eq_none (by omega)]
    rfl
theorem DQ.last {K : PySem.W.Frag} {H : Hp} {v : V} {ds : List PyData} {d : PyData} (h : DQ K H v (.tuple (ds ++ [d]))) (hl : ds.length ≤ 1000) : ∃ a xs u, v = .ref a ∧ SqT K H a xs ∧ atI xs (-1) = some u ∧ DQ K H u d := by
  cases h with
  | @tup a xs _ h1 h2 =>
    obtain ⟨u, e, q⟩ := h2.get (i := ds.length) (d := d) (by rw [List.getElem?_append_right (Nat.le_refl _), Nat.sub_self]; rfl)
    have hl2 := h2.len
    rw [List.length_append] at hl2
    refine ⟨a, xs, u, rfl, h1, atI_end ?_ (by simp at hl2; omega), q⟩
    rw [List.getLast?_eq_getElem?, hl2]
    exact e
theorem wB_le {n : Nat} (h : n ≤ 3) : wB n ≤ 251 := by
  match n, h with
  | 0, _ => decide
  | 1, _ => decide
  | 2, _ => decide
  | 3, _ => decide
theorem dB_le {n : Nat} (h : n ≤ 3) : 3 * (dB n + 1) ≤ 2 ^ 17 := by
  match n, h with
  | 0, _ => decide
  | 1, _ => decide
  | 2, _ => decide
  | 3, _ => decide
theorem NdK.kind {h : List PyData} {o : List Nat} {b : Bool} (k : NdK h o b) : ∃ kn r, h = .str kn :: r ∧ decide (kn = ("number" : Str)) = false ∧ decide (kn = ("lost" : Str)) = false ∧ decide (kn = ("use" : Str)) = false ∧ h.length ≤ 2 := by
  cases k with
  | block => exact ⟨_, _, rfl, by decide +kernel, by decide +kernel, by decide +kernel, by decide⟩
  | sum => exact ⟨_, _, rfl, by decide +kernel, by decide +kernel, by decide +kernel, by decide⟩
  | product => exact ⟨_, _, rfl, by decide +kernel, by decide +kernel, by decide +kernel, by decide⟩
  | let_ w hw => exact ⟨_, _, rfl, by decide +kernel, by decide +kernel, by decide +kernel, Nat.le_refl _⟩
theorem lit_open : ("(" : Str) = sO [40] := by decide +kernel
theorem lit_close : (")" : Str) = sO [41] := by decide +kernel
theorem lit_sum : ("(+" : Str) = sO [40, 43] := by decide +kernel
theorem lit_product : ("(*" : Str) = sO [40, 42] := by decide +kernel
theorem lit_eq : (" =" : Str) = sO [32, 61] := by decide +kernel
def spWord (K : PySem.W.Frag) (n : Nat) : Sp := fun vs H Q _ => ∃ v x, vs = [v] ∧ Dr n x ∧ DQ K H v x.dat ∧ ∀ H', Same H H' → Q (.str (sO x.word)) H'
/-- what shows in a repr of items -/
theorem shown_small {d : PyData} {W : Nat} {k : Nat} (h : Nice k W d) (hW : W ≤ 2 ^ 17) : d.shown.length ≤ 3000000 := by
  have z := PyData.shown_le 13 (by decide) d h.lv
  have e : (2 : Nat) ^ 17 = 131072 := by decide
  have := h.wt
  omega
abbrev NW : List Str := ["_law_item_here", "_law_words", "_law_opening", "_law_one_here"]
section
variable {P : Program} {w : World} {K : PySem.W.Frag} {mg : Str → Option Value} {base : Heap}
theorem sc_word : FnScope NW ["_law_item_here"] (defScope (top 33)) := ⟨rfl, rfl, rfl, by decide +kernel, rfl, by decide +kernel, by decide +kernel⟩
theorem cl_word (T : All K mg) : ∀ n : Nat, n ≤ 3 → ClG P w K mg base (n + 1) "_law_word" ["_law_item_here"] (spWord K n) := by
  obtain ⟨g, fd, D⟩ := T.dn 33 _ _ rfl
  intro n
  induction n with
  | zero =>
    intro _
    refine ⟨g, fd, okG D.fn sc_word (fun vs H Q E h => ?_) (fun cdv A outer s H vs Q E hgd hr h => ?_), D.mg, D.fn.kp, D.bn⟩
    · obtain ⟨v, x, rfl, _⟩ := h
      rfl
    · obtain ⟨v, x, rfl, hx, hd, k⟩ := h
      refine ⟨_, (pss_cons (ps_if (pt_imp (t' := tKind K "number") (pt_cmpR op_eq (pe_ix ix_tup (pv 0) pe_int (fun _ _ => rfl)) pe_str (nomark _)) (fun σ H Q hh => kind_ask hh)) (pss_one (ps_ret (pe_callTy (call_strAny hgd hr.units) (by rfl) T.bi.str (by decide +kernel) (pa_cons (pe_ix ix_tup (pv 0) pe_int (fun _ _ => rfl)) pa_nil)))) pss_nil)
      (pss_cons (ps_if (pt_imp (t' := tKind K "lost") (pt_cmpR op_eq (pe_ix ix_tup (pv 0) pe_int (fun _ _ => rfl)) pe_str (nomark _)) (fun σ H Q hh => kind_ask hh)) (pss_one (ps_ret pe_str)) pss_nil)
      (pss_cons (ps_if (pt_imp (t' := tKind K "use") (pt_cmpR op_eq (pe_ix ix_tup (pv 0) pe_int (fun _ _ => rfl)) pe_str (nomark _)) (fun σ H Q hh => kind_ask hh)) (pss_one (ps_ret (pe_ix ix_tup (pv 0) pe_int (fun _ _ => rfl)))) pss_nil)
      (pss_cons ps_never
      (pss_cons ps_never
      (pss_cons ps_never
      (pss_one ps_never))))))), ?_⟩
      cases hx with
      | leaf hk =>
        rw [It.dat] at hd
        rw [It.word] at k
        cases hk with
        | num m hm =>
          refine ⟨v, _, _, rfl, hd, ?_⟩
          rw [decide_eq_true rfl]
          obtain ⟨a1, xs1, u1, rfl, hT1, hi1, hu1⟩ := hd.item (i := 1) rfl
          cases hu1
          refine iteT ⟨_, rfl, a1, xs1, _, _, rfl, rfl, hT1, hi1, .inl ⟨_, rfl, ?_, ?_⟩⟩
          · exact Nat.lt_of_le_of_lt (Nat.log2_le_self _) (by omega)
          · have e := num_text ⟨m, hm⟩
            have e' : Str.ofString (toString (m : Int)) = sO (numC m) := e
            show Q (.str (Str.ofString (toString (m : Int)))) H
            rw [e']
            exact k H (Same.refl H)
        | lost =>
          refine ⟨v, _, _, rfl, hd, ?_⟩
          rw [show decide (("lost" : Str) = "number") = false from by decide +kernel]
          refine iteF ⟨v, _, _, rfl, hd, ?_⟩
          rw [decide_eq_true rfl]
          refine iteT ?_
          have e : ("?" : Str) = sO [63] := by decide +kernel
          show Q (.str "?") H
          rw [e]
          exact k H (Same.refl H)
        | use w hw =>
          refine ⟨v, _, _, rfl, hd, ?_⟩
          rw [show decide (("use" : Str) = "number") = false from by decide +kernel]
          refine iteF ⟨v, _, _, rfl, hd, ?_⟩
          rw [show decide (("use" : Str) = "lost") = false from by decide +kernel]
          refine iteF ⟨v, _, _, rfl, hd, ?_⟩
          rw [decide_eq_true rfl]
          obtain ⟨a1, xs1, u1, rfl, hT1, hi1, hu1⟩ := hd.item (i := 1) rfl
          cases hu1
          exact iteT ⟨_, rfl, a1, xs1, _, _, rfl, rfl, hT1, hi1, k H (Same.refl H)⟩
  | succ n ih =>
    intro hn3
    have IH := ih (by omega)
    refine ⟨g, fd, okG D.fn sc_word (fun vs H Q E h => ?_) (fun cdv A outer s H vs Q E hgd hr h => ?_), D.mg, D.fn.kp, D.bn⟩
    · obtain ⟨v, x, rfl, _⟩ := h
      rfl
    · obtain ⟨v, x, rfl, hx, hd, k⟩ := h
      have hrn : Room (n + 1) _ := hr
      refine ⟨_, (pss_cons (ps_if (pt_imp (t' := tKind K "number") (pt_cmpR op_eq (pe_ix ix_tup (pv 0) pe_int (fun _ _ => rfl)) pe_str (nomark _)) (fun σ H Q hh => kind_ask hh)) (pss_one (ps_ret (pe_callTy (call_strAny hgd hr.units) (by rfl) T.bi.str (by decide +kernel) (pa_cons (pe_ix ix_tup (pv 0) pe_int (fun _ _ => rfl)) pa_nil)))) pss_nil)
      (pss_cons (ps_if (pt_imp (t' := tKind K "lost") (pt_cmpR op_eq (pe_ix ix_tup (pv 0) pe_int (fun _ _ => rfl)) pe_str (nomark _)) (fun σ H Q hh => kind_ask hh)) (pss_one (ps_ret pe_str)) pss_nil)
      (pss_cons (ps_if (pt_imp (t' := tKind K "use") (pt_cmpR op_eq (pe_ix ix_tup (pv 0) pe_int (fun _ _ => rfl)) pe_str (nomark _)) (fun σ H Q hh => kind_ask hh)) (pss_one (ps_ret (pe_ix ix_tup (pv 0) pe_int (fun _ _ => rfl)))) pss_nil)
      (pss_cons (ps_setLc (i := 1) (own := [("_law_one_here", 3)]) (g := gName 3) (tt := tYes) (te := (tCall (spWord K n) [] E0 (tCons (tVar 3) tNil))) rfl sc_word.nd rfl rfl (sw_true rfl rfl rfl (by decide +kernel)) (pi_tup (pe_ix ix_tup (pv 0) (pe_un un_neg pe_int) (fun _ _ => rfl))) (blkOk_by (own := [("_law_one_here", 3)]) (N := NW) (sc := defScope (top 33)) (by decide +kernel)) (fun _ _ _ _ _ => (pg_name (i := 3) sc_word.nd rfl (Or.inl rfl))) (fun _ _ _ _ _ => pts_nil) (fun _ _ _ _ _ => (pe_clG IH hgd hrn (Nat.le_refl _) (pa_cons (pv 3) pa_nil))))
      (pss_cons (ps_if (pt_imp (t' := tKind K "block") (pt_cmpR op_eq (pe_ix ix_tup (pv 0) pe_int (fun _ _ => rfl)) pe_str (nomark _)) (fun σ H Q hh => kind_ask hh)) (pss_one (ps_ret (pe_op op_add_str (pe_op op_add_str pe_str (pe_join pe_str (pv 1))) pe_str))) pss_nil)
      (pss_cons (ps_set (i := 2) sc_word.nd rfl (Or.inl rfl) (pe_dget2 (hu_of hr) (pe_disp (pps_cons pe_str pe_str (pps_cons pe_str pe_str pps_nil)) (by rfl) (by rfl) (fun z => by cases z) (by decide)) (pe_ix ix_tup (pv 0) pe_int (fun _ _ => rfl)) (pe_op op_add_str (pe_op op_add_str pe_str (pe_callTy (call_strAny hgd hr.units) (by rfl) T.bi.str (by decide +kernel) (pa_cons (pe_ix ix_tup (pv 0) pe_int (fun _ _ => rfl)) pa_nil))) pe_str) ⟨by rfl, by rfl, by rfl, by rfl⟩))
      (pss_one (ps_ret (pe_op op_add_str (pe_join pe_str (pe_op op_cat (pe_lst (pa_cons (pv 2) pa_nil)) (pv 1))) pe_str))))))))), ?_⟩
      cases hx with
      | leaf hk =>
        rw [It.dat] at hd
        rw [It.word] at k
        cases hk with
        | num m hm =>
          refine ⟨v, _, _, rfl, hd, ?_⟩
          rw [decide_eq_true rfl]
          obtain ⟨a1, xs1, u1, rfl, hT1, hi1, hu1⟩ := hd.item (i := 1) rfl
          cases hu1
          refine iteT ⟨_, rfl, a1, xs1, _, _, rfl, rfl, hT1, hi1, .inl ⟨_, rfl, ?_, ?_⟩⟩
          · exact Nat.lt_of_le_of_lt (Nat.log2_le_self _) (by omega)
          · have e := num_text ⟨m, hm⟩
            have e' : Str.ofString (toString (m : Int)) = sO (numC m) := e
            show Q (.str (Str.ofString (toString (m : Int)))) H
            rw [e']
            exact k H (Same.refl H)
        | lost =>
          refine ⟨v, _, _, rfl, hd, ?_⟩
          rw [show decide (("lost" : Str) = "number") = false from by decide +kernel]
          refine iteF ⟨v, _, _, rfl, hd, ?_⟩
          rw [decide_eq_true rfl]
          refine iteT ?_
          have e : ("?" : Str) = sO [63] := by decide +kernel
          show Q (.str "?") H
          rw [e]
          exact k H (Same.refl H)
        | use w hw =>
          refine ⟨v, _, _, rfl, hd, ?_⟩
          rw [show decide (("use" : Str) = "number") = false from by decide +kernel]
          refine iteF ⟨v, _, _, rfl, hd, ?_⟩
          rw [show decide (("use" : Str) = "lost") = false from by decide +kernel]
          refine iteF ⟨v, _, _, rfl, hd, ?_⟩
          rw [decide_eq_true rfl]
          obtain ⟨a1, xs1, u1, rfl, hT1, hi1, hu1⟩ := hd.item (i := 1) rfl
          cases hu1
          exact iteT ⟨_, rfl, a1, xs1, _, _, rfl, rfl, hT1, hi1, k H (Same.refl H)⟩
      | @node _ h o b l hk hl hc =>
        rw [It.dat] at hd
        rw [word_node] at k
        obtain ⟨kn, kr, eh, f1, f2, f3, hl2⟩ := hk.kind
        have hdl := hd
        rw [eh] at hd
        refine ⟨v, _, _, rfl, hd, ?_⟩
        rw [f1]
        refine iteF ⟨v, _, _, rfl, hd, ?_⟩
        rw [f2]
        refine iteF ⟨v, _, _, rfl, hd, ?_⟩
        rw [f3]
        have hBn : wB n ≤ 251 := wB_le (by omega)
        have hBl : ∀ x ∈ l, x.word.length ≤ 251 := fun x hx => Nat.le_trans (hc x hx).len hBn
        have hg := gapped_len hBl
        have hg' : l.length * (251 + 1) ≤ 3 * 252 := Nat.mul_le_mul_right _ hl
        obtain ⟨a, xs, u, rfl, hT, hi, hu⟩ := hdl.last (by omega)
        obtain ⟨ti, xs2, rfl, hT2, hD2⟩ : ∃ ti xs2, u = .ref ti ∧ SqT K H ti xs2 ∧ DQs K H xs2 (datL l) := by
          cases hu with
          | tup h1 h2 => exact ⟨_, _, rfl, h1, h2⟩
        have lx2 : xs2.length = l.length := by rw [hD2.len, datL_map, List.length_map]
        refine iteF ⟨_, rfl, _, rfl, a, xs, _, _, rfl, rfl, hT, hi, ti, rfl, ⟨_, hT2⟩, fun L nL => ?_⟩
        refine lc_funT2 (K := K) (a := ti) (xs := xs2) (j := 3) (fun i => V.str (sO ((l.getD i (.leaf [] [])).word))) nL hT2 (by omega) (fun _ => rfl) ?_ ?_
        · intro i y H' Q' hy s' q'
          have hlt := (List.getElem?_eq_some_iff.mp hy).1
          have el : l[i]? = some l[i] := List.getElem?_eq_getElem (by omega)
          obtain ⟨y', ey, dy⟩ := hD2.get (i := i) (d := l[i].dat) (by rw [datL_map, List.getElem?_map, el]; rfl)
          rw [hy] at ey
          cases ey
          refine ⟨_, rfl, y, l[i], rfl, hc _ (List.getElem_mem _), dy.to s', fun H'' s'' => ?_⟩
          have := q' H'' s''
          rw [List.getD_eq_getElem?_getD, el] at this
          exact this
        · intro H1 s1 hL
          rw [lx2, range_words] at hL
          have hd1 := hd.to s1
          have hdl1 := hdl.to s1
          refine ⟨_, _, _, rfl, hd1, ?_⟩
          have hsum := sum_words hBl
          have hlw : (l.map fun x => sO x.word).length = l.length := List.length_map _
          have sum3 : l.length * 251 ≤ 3 * 251 := Nat.mul_le_mul_right _ hl
          cases hk with
          | block =>
            cases eh
            rw [decide_eq_true rfl]
            refine iteT ⟨⟨_, rfl⟩, _, rfl, _, L, l.map (fun x => sO x.word), rfl, rfl, .inl (SqL.of hL), ?_, _, _, rfl, rfl, ?_, _, _, rfl, rfl, ?_, ?_⟩
            · rw [hlw, blank, sO_len]
              show _ + l.length * 1 ≤ _
              omega
            · rw [blank, join_words, lit_open, sO_len, sO_len, sizeLine_eq]
              unfold textM
              rw [List.length_drop]
              show 1 + _ ≤ _
              omega
            · rw [blank, join_words, lit_open, sO_app, lit_close, sO_len, sO_len, sizeLine_eq]
              unfold textM
              rw [List.length_append, List.length_drop]
              show 1 + _ + 1 ≤ _
              omega
            · rw [blank, join_words, lit_open, sO_app, lit_close, sO_app]
              exact k H1 s1
          | sum =>
            cases eh
            rw [show decide (("sum" : Str) = "block") = false from by decide +kernel]
            refine iteF (fun pd nd => ⟨upd_same, [((.inr "sum" : Key), V.str "(+"), (.inr "product", .str "(*")], rfl, by decide, pd, rfl, .inl ⟨_, .inl upd_same⟩, ?_⟩)
            have s3 : Same H1 (upd (upd H1 pd (.dK [])) pd (.dK (mergeK [] [((.inr "sum" : Key), V.str "(+"), (.inr "product", .str "(*")]))) := fun b u e => by
              rw [upd_ne (ne_of_none e nd), upd_ne (ne_of_none e nd)]
              exact e
            have gd : (upd (upd H1 pd (.dK [])) pd (.dK (mergeK [] [((.inr "sum" : Key), V.str "(+"), (.inr "product", .str "(*")]))) pd = some (.dK (mergeK [] [((.inr "sum" : Key), V.str "(+"), (.inr "product", .str "(*")])) := upd_same
            generalize upd (upd H1 pd (.dK [])) pd (.dK (mergeK [] [((.inr "sum" : Key), V.str "(+"), (.inr "product", .str "(*")])) = H3 at s3 gd ⊢
            obtain ⟨a3, xs3, u3, ea3, hT3, hi3, hu3⟩ := (hdl1.to s3).item (i := 0) rfl
            cases ea3
            cases hu3
            obtain ⟨a4, xs4, u4, ea4, hT4, hi4, hu4⟩ := (hdl1.to s3).item (i := 1) rfl
            cases ea4
            have hnice := items_nice hl fun x hx => (hc x hx).nice
            have hsh : Shows K H3 u4 (.tuple (datL l)) := shows_of hu4 hnice (by omega) (Nat.le_trans (dB_le (by omega)) (by decide)) fun z => absurd z (by
              have hp : Pure (.tuple (datL l)) := by
                rw [datL_map]
                refine Pure.tuple fun d hd => ?_
                obtain ⟨y, hy, rfl⟩ := List.mem_map.mp hd
                exact (hc y hy).pure
              rw [hp.1]
              exact Bool.false_ne_true)
            have hshl := shown_small hnice (dB_le (by omega))
            refine ⟨_, rfl, a, xs3, _, _, rfl, rfl, hT3, hi3, _, rfl, a, xs4, _, _, rfl, rfl, hT4, hi4, .inr (.inr ⟨u4, _, rfl, hsh, _, _, rfl, rfl, ?_, _, _, rfl, rfl, ?_, ?_⟩)⟩
            · rw [lit_open, sO_len, sizeLine_eq]
              show 1 + _ ≤ _
              omega
            · have e : ("(" ++ PyData.shown (.tuple (datL l)) : Str).length = 1 + (PyData.shown (.tuple (datL l))).length := by
                show (("(" : Str).cps ++ (PyData.shown (.tuple (datL l))).cps).size = _
                rw [Array.size_append]
                rfl
              rw [e, sizeLine_eq]
              show _ + 2 ≤ _
              omega
            have ev : valV (mergeK [] [((.inr "sum" : Key), V.str "(+"), (.inr "product", .str "(*")]) (.inr ("sum" : Str)) = some (.str "(+") := by decide +kernel
            refine ⟨_, .inl ⟨_, .inr ("sum" : Str), .inl gd, rfl, rfl⟩, ?_⟩
            rw [ev]
            rw [Option.getD_some, lit_sum]
            refine ⟨⟨_, rfl⟩, _, rfl, sizeL (m := 1) (Nat.le_refl _), fun q nq => ⟨_, rfl, q, L, _, _, rfl, rfl, upd_same, (upd_ne (ne_of_none (s3 _ _ hL) nq)).trans (s3 _ _ hL), ?_, fun s' ns => ⟨_, s', sO [40, 43] :: l.map (fun x => sO x.word), rfl, rfl, .inl (SqL.of upd_same), ?_, _, _, rfl, rfl, ?_, ?_⟩⟩⟩
            · rw [List.length_map, hlw, sizeLine_eq]
              show 1 + _ ≤ _
              omega
            · rw [List.map_cons, List.sum_cons, List.length_cons, hlw, blank, sO_len, sO_len]
              show 2 + _ + (l.length + 1) * 1 ≤ _
              omega
            · rw [blank, join_cons, lit_close, sO_len, sO_len, sizeLine_eq, List.length_append]
              show 2 + _ + 1 ≤ _
              omega
            · rw [blank, join_cons, lit_close, sO_app, List.append_assoc]
              exact k _ (((s1.trans s3).trans (K0.same_upd nq)).trans (K0.same_upd ns))
          | product =>
            cases eh
            rw [show decide (("product" : Str) = "block") = false from by decide +kernel]
            refine iteF (fun pd nd => ⟨upd_same, [((.inr "sum" : Key), V.str "(+"), (.inr "product", .str "(*")], rfl, by decide, pd, rfl, .inl ⟨_, .inl upd_same⟩, ?_⟩)
            have s3 : Same H1 (upd (upd H1 pd (.dK [])) pd (.dK (mergeK [] [((.inr "sum" : Key), V.str "(+"), (.inr "product", .str "(*")]))) := fun b u e => by
              rw [upd_ne (ne_of_none e nd), upd_ne (ne_of_none e nd)]
              exact e
            have gd : (upd (upd H1 pd (.dK [])) pd (.dK (mergeK [] [((.inr "sum" : Key), V.str "(+"), (.inr "product", .str "(*")]))) pd = some (.dK (mergeK [] [((.inr "sum" : Key), V.str "(+"), (.inr "product", .str "(*")])) := upd_same
            generalize upd (upd H1 pd (.dK [])) pd (.dK (mergeK [] [((.inr "sum" : Key), V.str "(+"), (.inr "product", .str "(*")])) = H3 at s3 gd ⊢
            obtain ⟨a3, xs3, u3, ea3, hT3, hi3, hu3⟩ := (hdl1.to s3).item (i := 0) rfl
            cases ea3
            cases hu3
            obtain ⟨a4, xs4, u4, ea4, hT4, hi4, hu4⟩ := (hdl1.to s3).item (i := 1) rfl
            cases ea4
            have hnice := items_nice hl fun x hx => (hc x hx).nice
            have hsh : Shows K H3 u4 (.tuple (datL l)) := shows_of hu4 hnice (by omega) (Nat.le_trans (dB_le (by omega)) (by decide)) fun z => absurd z (by
              have hp : Pure (.tuple (datL l)) := by
                rw [datL_map]
                refine Pure.tuple fun d hd => ?_
                obtain ⟨y, hy, rfl⟩ := List.mem_map.mp hd
                exact (hc y hy).pure
              rw [hp.1]
              exact Bool.false_ne_true)
            have hshl := shown_small hnice (dB_le (by omega))
            refine ⟨_, rfl, a, xs3, _, _, rfl, rfl, hT3, hi3, _, rfl, a, xs4, _, _, rfl, rfl, hT4, hi4, .inr (.inr ⟨u4, _, rfl, hsh, _, _, rfl, rfl, ?_, _, _, rfl, rfl, ?_, ?_⟩)⟩
            · rw [lit_open, sO_len, sizeLine_eq]
              show 1 + _ ≤ _
              omega
            · have e : ("(" ++ PyData.shown (.tuple (datL l)) : Str).length = 1 + (PyData.shown (.tuple (datL l))).length := by
                show (("(" : Str).cps ++ (PyData.shown (.tuple (datL l))).cps).size = _
                rw [Array.size_append]
                rfl
              rw [e, sizeLine_eq]
              show _ + 2 ≤ _
              omega
            have ev : valV (mergeK [] [((.inr "sum" : Key), V.str "(+"), (.inr "product", .str "(*")]) (.inr ("product" : Str)) = some (.str "(*") := by decide +kernel
            refine ⟨_, .inl ⟨_, .inr ("product" : Str), .inl gd, rfl, rfl⟩, ?_⟩
            rw [ev]
            rw [Option.getD_some, lit_product]
            refine ⟨⟨_, rfl⟩, _, rfl, sizeL (m := 1) (Nat.le_refl _), fun q nq => ⟨_, rfl, q, L, _, _, rfl, rfl, upd_same, (upd_ne (ne_of_none (s3 _ _ hL) nq)).trans (s3 _ _ hL), ?_, fun s' ns => ⟨_, s', sO [40, 42] :: l.map (fun x => sO x.word), rfl, rfl, .inl (SqL.of upd_same), ?_, _, _, rfl, rfl, ?_, ?_⟩⟩⟩
            · rw [List.length_map, hlw, sizeLine_eq]
              show 1 + _ ≤ _
              omega
            · rw [List.map_cons, List.sum_cons, List.length_cons, hlw, blank, sO_len, sO_len]
              show 2 + _ + (l.length + 1) * 1 ≤ _
              omega
            · rw [blank, join_cons, lit_close, sO_len, sO_len, sizeLine_eq, List.length_append]
              show 2 + _ + 1 ≤ _
              omega
            · rw [blank, join_cons, lit_close, sO_app, List.append_assoc]
              exact k _ (((s1.trans s3).trans (K0.same_upd nq)).trans (K0.same_upd ns))
          | let_ w hw =>
            cases eh
            rw [show decide (("let" : Str) = "block") = false from by decide +kernel]
            refine iteF (fun pd nd => ⟨upd_same, [((.inr "sum" : Key), V.str "(+"), (.inr "product", .str "(*")], rfl, by decide, pd, rfl, .inl ⟨_, .inl upd_same⟩, ?_⟩)
            have s3 : Same H1 (upd (upd H1 pd (.dK [])) pd (.dK (mergeK [] [((.inr "sum" : Key), V.str "(+"), (.inr "product", .str "(*")]))) := fun b u e => by
              rw [upd_ne (ne_of_none e nd), upd_ne (ne_of_none e nd)]
              exact e
            have gd : (upd (upd H1 pd (.dK [])) pd (.dK (mergeK [] [((.inr "sum" : Key), V.str "(+"), (.inr "product", .str "(*")]))) pd = some (.dK (mergeK [] [((.inr "sum" : Key), V.str "(+"), (.inr "product", .str "(*")])) := upd_same
            generalize upd (upd H1 pd (.dK [])) pd (.dK (mergeK [] [((.inr "sum" : Key), V.str "(+"), (.inr "product", .str "(*")])) = H3 at s3 gd ⊢
            obtain ⟨a3, xs3, u3, ea3, hT3, hi3, hu3⟩ := (hdl1.to s3).item (i := 0) rfl
            cases ea3
            cases hu3
            obtain ⟨a4, xs4, u4, ea4, hT4, hi4, hu4⟩ := (hdl1.to s3).item (i := 1) rfl
            cases ea4
            cases hu4
            obtain ⟨w1, w2, w3⟩ := name_len hw
            refine ⟨_, rfl, a, xs3, _, _, rfl, rfl, hT3, hi3, _, rfl, a, xs4, _, _, rfl, rfl, hT4, hi4, .inr (.inl ⟨_, rfl, _, _, rfl, rfl, ?_, _, _, rfl, rfl, ?_, ?_⟩)⟩
            · rw [lit_open, sO_len, sO_len, sizeLine_eq]
              show 1 + _ ≤ _
              omega
            · rw [lit_open, sO_app, sO_len, lit_eq, sO_len, sizeLine_eq]
              simp only [List.length_append, List.length_cons, List.length_nil]
              omega
            have ev : valV (mergeK [] [((.inr "sum" : Key), V.str "(+"), (.inr "product", .str "(*")]) (.inr ("let" : Str)) = none := by decide +kernel
            refine ⟨_, .inl ⟨_, .inr ("let" : Str), .inl gd, rfl, rfl⟩, ?_⟩
            rw [ev]
            rw [Option.getD_none, lit_open, sO_app, lit_eq, sO_app]
            have ol : ([40] ++ w ++ [32, 61]).length = w.length + 3 := by simp
            refine ⟨⟨_, rfl⟩, _, rfl, sizeL (m := 1) (Nat.le_refl _), fun q nq => ⟨_, rfl, q, L, _, _, rfl, rfl, upd_same, (upd_ne (ne_of_none (s3 _ _ hL) nq)).trans (s3 _ _ hL), ?_, fun s' ns => ⟨_, s', sO ([40] ++ w ++ [32, 61]) :: l.map (fun x => sO x.word), rfl, rfl, .inl (SqL.of upd_same), ?_, _, _, rfl, rfl, ?_, ?_⟩⟩⟩
            · rw [List.length_map, hlw, sizeLine_eq]
              show 1 + _ ≤ _
              omega
            · rw [List.map_cons, List.sum_cons, List.length_cons, hlw, blank, sO_len, sO_len]
              rw [ol]
              show w.length + 3 + _ + (l.length + 1) * 1 ≤ _
              omega
            · rw [blank, join_cons, lit_close, sO_len, sO_len, sizeLine_eq, List.length_append]
              rw [ol]
              show w.length + 3 + _ + 1 ≤ _
              omega
            · rw [blank, join_cons, lit_close, sO_app, List.append_assoc]
              exact k _ (((s1.trans s3).trans (K0.same_upd nq)).trans (K0.same_upd ns))
end
end K1
set_option maxHeartbeats 4000000
/-! _law_text, _law_spans -/
namespace K1
open PySem L2
def spText (K : PySem.W.Frag) : Sp := fun vs H Q _ => ∃ v its, vs = [v] ∧ its.length ≤ 4 ∧ (∀ x ∈ its, Dr 3 x) ∧ DQ K H v (.tuple (datL its)) ∧ ∀ H', Same H H' → Q (.str (sO (textM its))) H'
theorem gapped_app : ∀ (l m : List It), gapped (l ++ m) = gapped l ++ gapped m
  | [], m => by rw [gapped]; rfl
  | x :: r, m => by
    rw [List.cons_append, gapped, gapped, gapped_app r m]
    simp
theorem rowsL_snoc (x : It) : ∀ (l : List It) (p : List Int) (k a : Nat), rowsL p k a (l ++ [x]) = rowsL p k a l ++ x.rows (p ++ [((k + l.length : Nat) : Int)]) (a + (gapped l).length)
  | [], p, k, a => by
    rw [List.nil_append, rowsL, rowsL, rowsL, gapped]
    simp
  | y :: r, p, k, a => by
    rw [List.cons_append, rowsL, rowsL, rowsL_snoc x r, List.append_assoc, gapped]
    have e1 : k + 1 + r.length = k + (y :: r).length := by rw [List.length_cons]; omega
    have e2 : a + y.word.length + 1 + (gapped r).length = a + (32 :: (y.word ++ gapped r)).length := by
      rw [List.length_cons, List.length_append]; omega
    rw [e1, e2]
section
variable {P : Program} {w : World} {K : PySem.W.Frag} {mg : Str → Option Value} {base : Heap}
theorem sc_text : FnScope ["_law_program_here", "_law_item_here"] ["_law_program_here"] (defScope (top 34)) := ⟨rfl, rfl, rfl, by decide +kernel, rfl, by decide +kernel, by decide +kernel⟩
theorem cl_text (T : All K mg) : ClG P w K mg base 5 "_law_text" ["_law_program_here"] (spText K) := by
  obtain ⟨g, fd, D⟩ := T.dn 34 _ _ rfl
  have IH : ClG P w K mg base 4 "_law_word" ["_law_item_here"] (spWord K 3) := cl_word T 3 (Nat.le_refl _)
  refine ⟨g, fd, okG D.fn sc_text (fun vs H Q E h => ?_) (fun cdv A outer s H vs Q E hgd hr h => ?_), D.mg, D.fn.kp, D.bn⟩
  · obtain ⟨v, its, rfl, _⟩ := h
    rfl
  · obtain ⟨v, its, rfl, hl, hc, hd, k⟩ := h
    refine ⟨_, (pss_one (ps_ret (pe_join pe_str (pe_lc (own := [("_law_item_here", 1)]) (g := gName 1) (tt := tYes) (te := (tCall (spWord K 3) [] E0 (tCons (tVar 1) tNil))) rfl sc_text.nd (pi_tup (pv 0)) (blkOk_by (own := [("_law_item_here", 1)]) (N := ["_law_program_here", "_law_item_here"]) (sc := defScope (top 34)) (by decide +kernel)) (fun _ _ _ _ _ => (pg_name (i := 1) sc_text.nd rfl (Or.inl rfl))) (fun _ _ _ _ _ => pts_nil) (fun _ _ _ _ _ => (pe_clG IH hgd hr (by decide) (pa_cons (pv 1) pa_nil))))))), ?_⟩
    obtain ⟨ti, xs2, rfl, hT2, hD2⟩ : ∃ ti xs2, v = .ref ti ∧ SqT K H ti xs2 ∧ DQs K H xs2 (datL its) := by
      cases hd with
      | tup h1 h2 => exact ⟨_, _, rfl, h1, h2⟩
    have lx2 : xs2.length = its.length := by rw [hD2.len, datL_map, List.length_map]
    refine ⟨⟨_, rfl⟩, _, rfl, ti, rfl, ⟨_, hT2⟩, fun L nL => ?_⟩
    refine lc_funT2 (K := K) (a := ti) (xs := xs2) (j := 1) (fun i => V.str (sO ((its.getD i (.leaf [] [])).word))) nL hT2 (by omega) (fun _ => rfl) ?_ ?_
    · intro i y H' Q' hy s' q'
      have hlt := (List.getElem?_eq_some_iff.mp hy).1
      have el : its[i]? = some its[i] := List.getElem?_eq_getElem (by omega)
      obtain ⟨y', ey, dy⟩ := hD2.get (i := i) (d := its[i].dat) (by rw [datL_map, List.getElem?_map, el]; rfl)
      rw [hy] at ey
      cases ey
      refine ⟨_, rfl, y, its[i], rfl, hc _ (List.getElem_mem _), dy.to s', fun H'' s'' => ?_⟩
      have := q' H'' s''
      rw [List.getD_eq_getElem?_getD, el] at this
      exact this
    · intro H1 s1 hL
      rw [lx2, range_words] at hL
      have hBl : ∀ x ∈ its, x.word.length ≤ 251 := fun x hx => Nat.le_trans (hc x hx).len (by decide)
      have hsum := sum_words hBl
      have sum3 : its.length * 251 ≤ 4 * 251 := Nat.mul_le_mul_right _ hl
      refine ⟨_, L, its.map (fun x => sO x.word), rfl, rfl, .inl (SqL.of hL), ?_, ?_⟩
      · rw [List.length_map, blank, sO_len]
        show _ + its.length * 1 ≤ _
        omega
      · rw [blank, join_words]
        exact k H1 s1
end
end K1
set_option maxHeartbeats 4000000
/-! a dict whose keys are tuples of ints that stand anywhere: tracked ones, and those that the program's text holds -/
namespace DX
open PySem PySem.Spec PyProof.Rows L2
def kI (k : List Int) : List Key := k.map Sum.inl
theorem kI_V (k : List Int) : (kI k).map kV = k.map V.int := by
  unfold kI
  rw [List.map_map]
  rfl
theorem kI_inj {a b : List Int} (h : kI a = kI b) : a = b := by
  have e := congrArg (List.map kV) h
  rw [kI_V, kI_V] at e
  exact List.map_inj_right (fun x y z => V.int.inj z) |>.mp e
/-- an entry: its key, where the key's tuple stands, its value -/
abbrev En := List Int × Addr × V
abbrev EnR (x : En) (y : List Key × Addr × Value) : Prop := kI x.1 = y.1 ∧ x.2.1 = y.2.1 ∧ RelV x.2.2 y.2.2
/-- the dict at a has these entries, in their order -/
def dxO (P : Program) (w : World) (a : Addr) (xs : List En) : HO := .ext fun h => xs.length ≤ sizeLine ∧ (a == sysModules) = false ∧ ∃ ys, Paired EnR xs ys ∧
  ∃ o es ep, h.get? a = some o ∧ o.ExactDict ∧ o.data = .dict es ep ∧ es.toList = ys.map (entryOfKey (tupleKind (mixKind P w))) ∧ (ys.map (·.1)).Nodup
/-- where the keys' tuples stand -/
def DxK (K : PySem.W.Frag) (H : Hp) (xs : List En) : Prop := ∀ x ∈ xs, SqT K H x.2.1 (x.1.map V.int)
theorem dxO_ok {P : Program} {w : World} {H : Hp} {h : Heap} {a : Addr} {xs : List En} {ys : List (List Key × Addr × Value)} {o : Obj} {es : Array DictEntry} {ep : Nat} (l : xs.length ≤ sizeLine) (hs : (a == sysModules) = false) (r : Paired EnR xs ys) (ho : h.get? a = some o) (hx : o.ExactDict) (hd : o.data = .dict es ep)
    (he : es.toList = ys.map (entryOfKey (tupleKind (mixKind P w)))) (nd : (ys.map (·.1)).Nodup) : ObjOk P w H h a (dxO P w a xs) :=
  ⟨⟨l, hs, ys, r, o, es, ep, ho, hx, hd, he, nd⟩, ⟨o, ho⟩, fun h1 h2 ⟨l, hs, ys, r, o, es, ep, ho, g⟩ k => ⟨l, hs, ys, r, o, es, ep, k _ ho, g⟩⟩
def valX (xs : List En) (k : List Int) : Option V := (xs.find? fun x => decide (x.1 = k)).map (·.2.2)
theorem rel_val {xs : List En} {ys : List (List Key × Addr × Value)} (r : Paired EnR xs ys) (k : List Int) : RelO (valX xs k) ((atKey ys (kI k)).map (·.2)) := by
  induction r with
  | nil => exact True.intro
  | @cons p q ps qs h t ih =>
    obtain ⟨h1, _, h2⟩ := h
    by_cases e : p.1 = k
    · have e' : q.1 = kI k := by rw [← h1, e]
      have b : atKey (q :: qs) (kI k) = some q.2 := by simp [atKey, List.find?_cons, e']
      have c : valX (p :: ps) k = some p.2.2 := by simp [valX, List.find?_cons, e]
      rw [c, b]
      exact h2
    · have e' : ¬ q.1 = kI k := fun z => e (kI_inj (h1.trans z))
      have b : atKey (q :: qs) (kI k) = atKey qs (kI k) := by simp [atKey, List.find?_cons, e']
      have c : valX (p :: ps) k = valX ps k := by simp [valX, List.find?_cons, e]
      rw [c, b]
      exact ih
section
variable {X : Cx} {pins : List (Addr × Obj)} {σ : L2.St} {H : Hp} {s : Shared}
theorem key_any {b : Addr} {k : List Key} (I : Inv X pins σ H s) (e : SqT X.K H b (k.map kV)) : (tupleKind (mixKind X.prog X.w)).is s.heap k b := by
  obtain ⟨its, r, ⟨o, h1, h2, n, h3⟩, _⟩ := I.tuple e
  exact ⟨o, its.toArray, n, h1, h2, h3, by simpa using items_are r⟩
theorem keys_is {xs : List En} {ys : List (List Key × Addr × Value)} (I : Inv X pins σ H s) (hk : DxK X.K H xs) (r : Paired EnR xs ys) : ∀ y ∈ ys, (tupleKind (mixKind X.prog X.w)).is s.heap y.1 y.2.1 := by
  induction r with
  | nil => exact fun y hy => absurd hy List.not_mem_nil
  | @cons p q ps qs h t ih =>
    intro y hy
    rcases List.mem_cons.mp hy with z | z
    · obtain ⟨e1, e2, _⟩ := h
      rw [z, ← e1, ← e2]
      exact key_any I (by rw [kI_V]; exact hk p List.mem_cons_self)
    · exact ih (fun x hx => hk x (List.mem_cons_of_mem _ hx)) y z
/-- read or held -/
abbrev RdX (X : Cx) (H : Hp) (a : Addr) (xs : List En) : Prop := Rd H a (dxO X.prog X.w a xs)
theorem dx_rd {a : Addr} {xs : List En} (I : Inv X pins σ H s) (e : RdX X H a xs) (hk : DxK X.K H xs) : xs.length ≤ sizeLine ∧ (a == sysModules) = false ∧ ∃ ys, Paired EnR xs ys ∧ s.heap.DictOfH (tupleKind (mixKind X.prog X.w)) a ys := by
  obtain ⟨⟨l, hs, ys, r, o, es, ep, h1, h2, h3, h4, h5⟩, _, _⟩ := (show ObjOk X.prog X.w H s.heap a (dxO X.prog X.w a xs) from rd_of I.hok e)
  exact ⟨l, hs, ys, r, o, es, ep, h1, h2, h3, h4, keys_is I hk r, h5⟩
/-- k in the dict -/
def rInX (X : Cx) (neg : Bool) : R2 := fun x y H Q => ∃ (a b : Addr) (xs : List En) (k : List Int), x = .ref b ∧ y = .ref a ∧ RdX X H a xs ∧ DxK X.K H xs ∧ SqT X.K H b (k.map V.int) ∧ Q (.bl (neg != (valX xs k).isSome)) H
theorem op_inX (hu : X.A.units + 1 < cLine) : OpR X (compareOp .In) (rInX X false) := by
  intro pins s σ H x y v u Q I rx ry h
  obtain ⟨a, b, xs, k, rfl, rfl, hd, hx, hk, q⟩ := h
  cases rx
  cases ry
  obtain ⟨_, hs, ys, rel, dd⟩ := dx_rd I hd hx
  refine wpAny_in_heap (tupleKind_room_in1 hu) (key_any (k := kI k) I (by rw [kI_V]; exact hk)) hs dd ?_
  have z := (rel_val rel k).isSome_eq
  rw [Option.isSome_map] at z
  refine ⟨_, H, I.tok _, ?_, q⟩
  show Value.bool _ = Value.bool _
  rw [← z]
  simp
theorem op_notInX (hu : X.A.units + 1 < cLine) : OpR X (compareOp .NotIn) (rInX X true) := by
  intro pins s σ H x y v u Q I rx ry h
  obtain ⟨a, b, xs, k, rfl, rfl, hd, hx, hk, q⟩ := h
  cases rx
  cases ry
  obtain ⟨_, hs, ys, rel, dd⟩ := dx_rd I hd hx
  refine wpAny_notIn_heap (tupleKind_room_in1 hu) (key_any (k := kI k) I (by rw [kI_V]; exact hk)) hs dd ?_
  have z := (rel_val rel k).isSome_eq
  rw [Option.isSome_map] at z
  refine ⟨_, H, I.tok _, ?_, q⟩
  show Value.bool _ = Value.bool _
  rw [← z]
  cases (valX xs k).isSome <;> rfl
/-- d[k] -/
def tXGet (X : Cx) (td ty : TE) : TE := fun σ H Q => td σ H fun x H1 => ty σ H1 fun y H2 => ∃ (a b : Addr) (xs : List En) (v : V) (k : List Int), x = .ref a ∧ y = .ref b ∧ RdX X H2 a xs ∧ DxK X.K H2 xs ∧ SqT X.K H2 b (k.map V.int) ∧ valX xs k = some v ∧ Q v H2
theorem pe_xget {o i : Expr} {td ty : TE} {pos : Pos} (hu : X.A.units + 1 < cLine) (ho : PE X o td) (hi : PE X i ty) (hs : NoSl i) : PE X (.Subscript o i pos) (tXGet X td ty) := by
  refine ⟨fun pins s σ H Q I h => ?_⟩
  refine subD_of PySem.F.slot_dict_getitem.lookup hs (thn (ho.run pins s σ H _ I h) fun u s1 q1 => ?_)
  obtain ⟨x, H1, I1, rx, q1⟩ := q1
  refine thn (hi.run pins s1 σ H1 _ I1 q1) fun iv s2 q2 => ?_
  obtain ⟨y, H2, I2, ry, a, b, xs, v, k, rfl, rfl, hd, hx, hk, hv, q⟩ := q2
  cases rx
  cases ry
  obtain ⟨_, hm, ys, rel, dd⟩ := dx_rd I2 hd hx
  refine ⟨?_, ?_⟩
  · obtain ⟨ob, es, ep, e1, e2, _⟩ := id dd
    exact ⟨ob, e1, e2.1⟩
  · obtain ⟨w', hw, rw'⟩ := RelO.some_of (v := v) (o := (atKey ys (kI k)).map (·.2)) (by rw [← hv]; exact rel_val rel k)
    obtain ⟨p, hp, hp2⟩ := Option.map_eq_some_iff.mp hw
    refine wpAny_getItem_heap (tupleKind_room_in1 hu) (key_any (k := kI k) I2 (by rw [kI_V]; exact hk)) dd hp ?_
    rw [hp2]
    exact ⟨v, H2, I2.tok _, rw', q⟩
/-- the entries behind d[k] = v, k's tuple at b -/
def putX (xs : List En) (k : List Int) (b : Addr) (v : V) : List En := if (valX xs k).isSome = true then xs.map (fun x => if x.1 = k then (x.1, x.2.1, v) else x) else xs ++ [(k, b, v)]
theorem len_putX {xs : List En} {k : List Int} {b : Addr} {v : V} : (putX xs k b v).length ≤ xs.length + 1 := by
  unfold putX
  split
  · rw [List.length_map]
    omega
  · rw [List.length_append]
    exact Nat.le_refl _
theorem rel_put {xs : List En} {ys : List (List Key × Addr × Value)} (r : Paired EnR xs ys) (k : List Int) {b : Addr} {v : V} {u : Value} (rv : RelV v u) : Paired EnR (putX xs k b v) (storedH ys (kI k) b u) := by
  have e : (valX xs k).isSome = (atKey ys (kI k)).isSome := by
    have z := (rel_val r k).isSome_eq
    rw [Option.isSome_map] at z
    exact z
  unfold putX storedH
  rw [e]
  by_cases q : (atKey ys (kI k)).isSome = true
  · rw [if_pos q, if_pos q]
    clear e q
    induction r with
    | nil => exact .nil
    | @cons p q ps qs h t ih =>
      rw [List.map_cons, List.map_cons]
      refine .cons ?_ ih
      obtain ⟨h1, h2, h3⟩ := h
      unfold putAt
      by_cases e : p.1 = k
      · rw [if_pos e, if_pos (by rw [← h1, e])]
        exact ⟨h1, h2, rv⟩
      · rw [if_neg e, if_neg (fun z => e (kI_inj (h1.trans z)))]
        exact ⟨h1, h2, h3⟩
  · rw [if_neg q, if_neg q]
    exact Paired.snoc r ⟨rfl, rfl, rv⟩
/-- d[k] = v -/
def sXPut (X : Cx) (td ty tv : TE) : TS := fun D σ H => tv σ H fun v H1 => td σ H1 fun x H2 => ty σ H2 fun y H3 => ∃ (a b : Addr) (xs : List En) (k : List Int), x = .ref a ∧ y = .ref b ∧ H3 a = some (dxO X.prog X.w a xs) ∧ DxK X.K H3 xs ∧ SqT X.K H3 b (k.map V.int) ∧ xs.length < sizeLine ∧
  D.nx σ (upd H3 a (dxO X.prog X.w a (putX xs k b v)))
theorem ps_xput {o i value : Expr} {td ty tv : TE} {pos pos' : Pos} (hu : X.A.units + 1 < cLine) (ho : PE X o td) (hi : PE X i ty) (hv : PE X value tv) (hs : swapsWith value (some (.Subscript o i pos')) pos.line X.env = pure false) :
    PS X (.Assign [.Subscript o i pos'] value pos) (sXPut X td ty tv) := by
  refine ⟨fun pins s σ H D I h => ?_⟩
  refine wpAny_Assign_Subscript (thn (hv.run pins s σ H _ I h) fun r s1 ⟨v, H1, I1, rv, q1⟩ => thn (ho.run pins s1 σ H1 _ I1 q1) fun u s2 ⟨x, H2, I2, rx, q2⟩ => thn (hi.run pins s2 σ H2 _ I2 q2) fun iv s3 ⟨y, H3, I3, ry, a, b, xs, k, ex, ey, hd, hx, hk, lx, q3⟩ => ?_) hs
  subst ex
  subst ey
  obtain rfl : u = Value.ref a := rx
  obtain rfl : iv = Value.ref b := ry
  obtain ⟨z, hsm, ys, rel, dd⟩ := dx_rd I3 (.inl hd) hx
  have hz : ys.length ≤ sizeLine := by rw [← Paired.length rel]; exact z
  have hl : (putX xs k b v).length ≤ sizeLine := by have := @len_putX xs k b v; omega
  refine wpAny_setItem_heap (hsz := hz) (tupleKind_room_in1 hu) (key_any (k := kI k) I3 (by rw [kI_V]; exact hk)) dd fun h' dd' hsb => ?_
  obtain ⟨q, es, ep, hq, h2, h3, h4, _, h5⟩ := dd'
  exact ⟨σ, _, d_write (ob := dxO X.prog X.w a (putX xs k b v)) I3 (by rw [hd]; exact True.intro) hsb ⟨q, hq⟩ (dxO_ok hl hsm (rel_put rel k rv) hq h2 h3 h4 h5), q3⟩
end
end DX
set_option maxHeartbeats 4000000
/-! {k: v}, one pair, its key a tuple of ints that stands anywhere; an empty one -/
namespace DX
open PySem PySem.Spec PyProof.Rows L2
section
variable {X : Cx}
theorem dx_empty {P : Program} {w : World} {H : Hp} (h : Heap) (hb : sysModules < h.objs.size) : ObjOk P w H (h.push { cls := .type "dict", data := .dict #[] }) h.objs.size (dxO P w h.objs.size []) :=
  dxO_ok (ys := []) (Nat.zero_le _) (beq_eq_false_iff_ne.mpr (Ne.symm (Nat.ne_of_lt hb))) .nil (Heap.get?_push_size _ rfl) ⟨rfl, rfl, rfl⟩ rfl rfl List.nodup_nil
def tXDisp (X : Cx) (tk tv : TE) : TE := fun σ H Q => ∀ p, H p = none → tPairs [(tk, tv)] σ (upd H p (dxO X.prog X.w p [])) fun ps H2 => ∃ (x y : V) (b : Addr) (k : List Int), ps = [(x, y)] ∧ x = .ref b ∧ H2 p = some (dxO X.prog X.w p []) ∧ SqT X.K H2 b (k.map V.int) ∧ Q (.ref p) (upd H2 p (dxO X.prog X.w p [(k, b, y)]))
theorem pe_xdisp {k v : Expr} {tk tv : TE} {pos : Pos} (hu : X.A.units + 1 < cLine) (hk : PE X k tk) (hv : PE X v tv) : PE X (.Dict [some k] [v] pos) (tXDisp X tk tv) := by
  refine ⟨fun pins s σ H Q I q => ?_⟩
  have hn := I.hok.fresh (Nat.le_refl s.heap.objs.size)
  have I1 := I.laid (a := s.heap.objs.size) (o := dxO X.prog X.w s.heap.objs.size []) (h' := s.heap.push { cls := .type "dict", data := .dict #[] }) (t' := s.toks) (fun _ _ q => Heap.get?_push_of_some _ q) (Nat.le_refl _) (dx_empty s.heap I.big)
  refine wpAny_Dict_any rfl rfl (by simp) (by show 1 ≤ 15; decide) (thn ((pps_cons hk hv pps_nil).run pins _ σ _ _ I1 (q _ hn)) fun ws s2 ⟨ps, H2, I2, rel, x, y, b, k, eps, ex, e, hb, q2⟩ => ?_)
  subst eps
  subst ex
  cases rel with
  | @cons _ w' _ _ r t =>
    cases t
    obtain ⟨r1, r2⟩ := r
    obtain ⟨u, r'⟩ := w'
    obtain rfl : u = Value.ref b := r1
    obtain ⟨z, hsm, ys, rel, dd⟩ := dx_rd I2 (.inl e) (fun x hx => absurd hx List.not_mem_nil)
    cases rel
    unfold storeAll
    rw [List.forIn_cons]
    refine wpAny_bind (wpAny_bind (wpAny_dictSet_heap (hsz := Nat.zero_le _) (show X.A.units < cLine by omega) (key_any (k := kI k) I2 (by rw [kI_V]; exact hb)) dd fun h' dd' hs => wpAny_pure ?_))
    dsimp only
    rw [List.forIn_nil]
    refine wpAny_pure ?_
    obtain ⟨q', es, ep, hq, h2, h3, h4, _, h5⟩ := dd'
    exact ⟨.ref s.heap.objs.size, _, d_write (ob := dxO X.prog X.w s.heap.objs.size [(k, b, y)]) I2 (by rw [e]; exact True.intro) hs ⟨q', hq⟩ (dxO_ok (by show 1 ≤ sizeLine; rw [sizeLine_eq]; decide) hsm (.cons ⟨rfl, rfl, r2⟩ .nil) hq h2 h3 h4 h5), rfl, q2⟩
end
end DX
set_option maxHeartbeats 4000000
/-! d.get(k, x) of such a dict -/
namespace DX
open PySem PySem.Spec PyProof.Rows L2
section
variable {X : Cx}
/-- d stands there as such a dict when the call begins, and when it is asked -/
def tXGet2 (X : Cx) (td ty tx : TE) : TE := fun σ H Q => td σ H fun x H1 => ∃ (a : Addr) (ws : List En), x = .ref a ∧ RdX X H1 a ws ∧ DxK X.K H1 ws ∧ ty σ H1 fun y H2 => tx σ H2 fun z H3 => ∃ (b : Addr) (xs : List En) (k : List Int), y = .ref b ∧ RdX X H3 a xs ∧ DxK X.K H3 xs ∧ SqT X.K H3 b (k.map V.int) ∧ Q ((valX xs k).getD z) H3
theorem pe_xget2 {o e f : Expr} {td ty tx : TE} {apos cpos : Pos} (hu : X.A.units + 1 < cLine) (ho : PE X o td) (he : PE X e ty) (hf : PE X f tx) (m : M2 X o "get" apos e f cpos) : PE X (.Call (.Attribute o "get" apos) [e, f] [] cpos) (tXGet2 X td ty tx) := by
  refine ⟨fun pins s σ H Q I h => ?_⟩
  refine wpAny_Call_method m.base m.few m.line PySem.F.plainAttrs_dict PySem.F.slot_dict_get PySem.F.type_dict_get (thn (ho.run pins s σ H _ I h) fun u s1 ⟨x, H1, I1, rx, a, ws, ex, d, dk, q1⟩ => ?_)
  subst ex
  obtain rfl : u = Value.ref a := rx
  obtain ⟨_, _, ys0, _, dd0⟩ := dx_rd I1 d dk
  obtain ⟨ob, es, ep, e1, e2, _⟩ := id dd0
  refine ⟨dd0.typeIs, fun c ec => by cases ec; exact ⟨ob, e1, e2.2.1⟩, ?_⟩
  rw [m.trees]
  refine Calls.callWith_builtin rfl (Calls.evalArgs_plain (Calls.spliced_cons (thn (he.run pins s1 σ H1 _ I1 q1) fun iv s2 ⟨y, H2, I2, ry, q2⟩ =>
    Calls.spliced_cons (thn (hf.run pins s2 σ H2 _ I2 q2) fun fv s3 ⟨z, H3, I3, rz, b, xs, k, ey, hd, hx, hk, q3⟩ => Calls.spliced_nil ?_))))
  subst ey
  obtain rfl : iv = Value.ref b := ry
  obtain ⟨_, hs, ys, rel, dd⟩ := dx_rd I3 hd hx
  exact call_meetsIn PySem.F.slot_dict_get dd.typeIs PySem.F.entry_dict_get (PySem.F.args_dict_get_3 _ _ _) (meetsH_dict_get_default (tupleKind (mixKind X.prog X.w)) a b hs fv) ⟨tupleKind_room_in1 hu, kI k, ys, key_any (k := kI k) I3 (by rw [kI_V]; exact hk), dd, _, H3, I3.tok _, (rel_val rel k).getD rz, q3⟩
end
end DX
set_option maxHeartbeats 4000000
/-! d.setdefault(k, x) of such a dict -/
namespace DX
open PySem PySem.Spec PyProof.Rows L2
section
variable {X : Cx}
theorem put_none {xs : List En} {k : List Int} {b : Addr} {v : V} (h : valX xs k = none) : putX xs k b v = xs ++ [(k, b, v)] := by
  unfold putX
  rw [h]
  rfl
def tXSetd (X : Cx) (td ty tx : TE) : TE := fun σ H Q => td σ H fun x H1 => ∃ (a : Addr) (ws : List En), x = .ref a ∧ RdX X H1 a ws ∧ DxK X.K H1 ws ∧ ty σ H1 fun y H2 => tx σ H2 fun z H3 => ∃ (b : Addr) (xs : List En) (k : List Int), y = .ref b ∧ H3 a = some (dxO X.prog X.w a xs) ∧ DxK X.K H3 xs ∧ SqT X.K H3 b (k.map V.int) ∧ xs.length < sizeLine ∧
  (∀ v, valX xs k = some v → Q v H3) ∧ (valX xs k = none → Q z (upd H3 a (dxO X.prog X.w a (xs ++ [(k, b, z)]))))
theorem pe_xsetd {o e f : Expr} {td ty tx : TE} {apos cpos : Pos} (hu : X.A.units + 1 < cLine) (ho : PE X o td) (he : PE X e ty) (hf : PE X f tx) (m : M2 X o "setdefault" apos e f cpos) : PE X (.Call (.Attribute o "setdefault" apos) [e, f] [] cpos) (tXSetd X td ty tx) := by
  refine ⟨fun pins s σ H Q I h => ?_⟩
  refine wpAny_Call_method m.base m.few m.line PySem.F.plainAttrs_dict PySem.F.slot_dict_setdefault PySem.F.type_dict_setdefault (thn (ho.run pins s σ H _ I h) fun u s1 ⟨x, H1, I1, rx, a, ws, ex, d, dk, q1⟩ => ?_)
  subst ex
  obtain rfl : u = Value.ref a := rx
  obtain ⟨_, _, ys0, _, dd0⟩ := dx_rd I1 d dk
  obtain ⟨ob, es, ep, e1, e2, _⟩ := id dd0
  refine ⟨dd0.typeIs, fun c ec => by cases ec; exact ⟨ob, e1, e2.2.1⟩, ?_⟩
  rw [m.trees]
  refine Calls.callWith_builtin rfl (Calls.evalArgs_plain (Calls.spliced_cons (thn (he.run pins s1 σ H1 _ I1 q1) fun iv s2 ⟨y, H2, I2, ry, q2⟩ =>
    Calls.spliced_cons (thn (hf.run pins s2 σ H2 _ I2 q2) fun fv s3 ⟨z, H3, I3, rz, b, xs, k, ey, hd, hx, hk, lx, q3, q4⟩ => Calls.spliced_nil ?_))))
  subst ey
  obtain rfl : iv = Value.ref b := ry
  obtain ⟨zl, hs, ys, rel, dd⟩ := dx_rd I3 (.inl hd) hx
  have hz : ys.length ≤ sizeLine := by rw [← Paired.length rel]; exact zl
  have rv := rel_val rel k
  refine call_setdefault_heap (knd := tupleKind (mixKind X.prog X.w)) (k := kI k) (tupleKind_room_in1 hu) (key_any (k := kI k) I3 (by rw [kI_V]; exact hk)) hs dd (fun p hp => ?_) (fun hn h' dd' hsb => ?_) hz
  · rw [hp] at rv
    cases e : valX xs k with
    | none =>
      rw [e] at rv
      exact (show False from rv).elim
    | some v =>
      rw [e] at rv
      exact ⟨v, H3, I3.tok _, rv, q3 v e⟩
  · rw [hn] at rv
    cases e : valX xs k with
    | some v =>
      rw [e] at rv
      exact (show False from rv).elim
    | none =>
      have rp := rel_put rel k (b := b) rz
      rw [put_none e] at rp
      obtain ⟨q, es, ep, hq, h2, h3, h4, _, h5⟩ := dd'
      have hl : (xs ++ [(k, b, z)]).length ≤ sizeLine := by
        rw [List.length_append, List.length_singleton]
        omega
      exact ⟨z, _, d_write (ob := dxO X.prog X.w a (xs ++ [(k, b, z)])) I3 (by rw [hd]; exact True.intro) hsb ⟨q, hq⟩ (dxO_ok hl hs rp hq h2 h3 h4 h5), rz, q4 e⟩
end
end DX
set_option maxHeartbeats 4000000
/-! nested, as data: what is gathered at each path when the rows are walked from the last one to the first -/
namespace K1
open PySem
mutual
def It.ph (p : List Int) : It → List (List Int × List PyData)
  | .leaf h _ => [(p, h)]
  | .node h _ _ l => (p, h) :: phL p 0 l
def phL (p : List Int) (k : Nat) : List It → List (List Int × List PyData)
  | [] => []
  | x :: r => x.ph (p ++ [(k : Int)]) ++ phL p (k + 1) r
end
/-- leaves hold nothing, nodes do -/
inductive HI : It → Prop
  | leaf {h : List PyData} {w : List Nat} (e : holdH h = false) : HI (.leaf h w)
  | node {h : List PyData} {o : List Nat} {b : Bool} {l : List It} (e : holdH h = true) (hl : ∀ x ∈ l, HI x) : HI (.node h o b l)
abbrev FnP := List Int → List PyData
def itemF (f : FnP) (r : List Int × List PyData) : PyData := if holdH r.2 = true then .tuple (r.2 ++ [.tuple (f r.1).reverse]) else .tuple r.2
def stepF (f : FnP) (r : List Int × List PyData) : FnP := fun q => if q = r.1.dropLast then f q ++ [itemF f r] else f q
def runF (rs : List (List Int × List PyData)) (f : FnP) : FnP := rs.foldr (fun r f => stepF f r) f
theorem runF_app (a b : List (List Int × List PyData)) (f : FnP) : runF (a ++ b) f = runF a (runF b f) := List.foldr_append
def Under (p : List Int) (k : Nat) (q : List Int) : Prop := ∃ (i : Nat) (r : List Int), q = p ++ ((i : Int) :: r) ∧ k ≤ i
theorem under_len {p q : List Int} {k : Nat} (h : Under p k q) : p.length < q.length := by
  obtain ⟨i, r, rfl, _⟩ := h
  rw [List.length_append, List.length_cons]
  omega
def NestI (x : It) : Prop := ∀ (p : List Int) (f : FnP), p ≠ [] → (∀ r, f (p ++ r) = []) → runF (x.ph p) f p.dropLast = f p.dropLast ++ [x.dat] ∧ ∀ q, q ≠ p.dropLast → (∀ r, q ≠ p ++ r) → runF (x.ph p) f q = f q
theorem nest_list : ∀ {l : List It}, (∀ x ∈ l, NestI x) → ∀ (p : List Int) (k : Nat) (f : FnP), (∀ q, Under p k q → f q = []) →
    runF (phL p k l) f p = f p ++ (datL l).reverse ∧ ∀ q, q ≠ p → ¬ Under p k q → runF (phL p k l) f q = f q
  | [], _, p, k, f, _ => by
    rw [phL, datL]
    exact ⟨by simp [runF], fun q _ _ => rfl⟩
  | x :: l, h, p, k, f, fr => by
    rw [phL, datL, runF_app]
    obtain ⟨a1, a2⟩ := nest_list (fun y hy => h y (List.mem_cons_of_mem _ hy)) p (k + 1) f (fun q ⟨i, r, e, hi⟩ => fr q ⟨i, r, e, by omega⟩)
    have dl : (p ++ [(k : Int)]).dropLast = p := List.dropLast_concat
    have notup : ∀ r, ¬ Under p (k + 1) ((p ++ [(k : Int)]) ++ r) := fun r ⟨i, r', e, hi⟩ => by
      rw [List.append_assoc] at e
      have e2 := List.append_cancel_left e
      rw [List.singleton_append] at e2
      have e3 := (List.cons.inj e2).1
      omega
    have ne : ∀ r, (p ++ [(k : Int)]) ++ r ≠ p := fun r e => by
      have := congrArg List.length e
      rw [List.length_append, List.length_append, List.length_singleton] at this
      omega
    obtain ⟨b1, b2⟩ := h x List.mem_cons_self (p ++ [(k : Int)]) (runF (phL p (k + 1) l) f) (by simp) (fun r => by
      rw [a2 _ (ne r) (notup r)]
      exact fr _ ⟨k, r, by rw [List.append_assoc]; rfl, Nat.le_refl _⟩)
    rw [dl] at b1 b2
    refine ⟨by rw [b1, a1, List.reverse_cons, List.append_assoc], fun q n1 n2 => ?_⟩
    rw [b2 q n1 (fun r e => n2 ⟨k, r, by rw [e, List.append_assoc]; rfl, Nat.le_refl _⟩)]
    exact a2 q n1 fun ⟨i, r, e, hi⟩ => n2 ⟨i, r, e, by omega⟩
theorem nest_item {x : It} (ok : HI x) : NestI x := by
  induction ok with
  | @leaf h w e =>
    intro p f hp fr
    rw [It.ph, It.dat]
    have ei : itemF f (p, h) = .tuple h := by
      unfold itemF
      rw [e]
      rfl
    refine ⟨?_, fun q n1 _ => ?_⟩
    · show (if _ then _ else _) = _
      rw [if_pos rfl]
      show _ ++ [itemF f (p, h)] = _
      rw [ei]
      rfl
    · show (if _ then _ else _) = _
      rw [if_neg n1]
      rfl
  | @node h o b l e hl ih =>
    intro p f hp fr
    rw [It.ph, It.dat]
    obtain ⟨a1, a2⟩ := nest_list ih p 0 f (fun q ⟨i, r, e, _⟩ => by rw [e]; exact fr _)
    have f0 : f p = [] := by
      have := fr []
      rw [List.append_nil] at this
      exact this
    rw [f0, List.nil_append] at a1
    have ei : itemF (runF (phL p 0 l) f) (p, h) = .tuple (h ++ [.tuple (datL l)]) := by
      unfold itemF
      rw [e]
      show PyData.tuple (h ++ [.tuple (runF (phL p 0 l) f p).reverse]) = _
      rw [a1, List.reverse_reverse]
    have hlen : p.dropLast.length < p.length := by
      rw [List.length_dropLast]
      have : 0 < p.length := List.length_pos_iff.mpr hp
      omega
    refine ⟨?_, fun q n1 n2 => ?_⟩
    · show (if _ then _ else _) = _
      rw [if_pos rfl]
      show _ ++ [itemF (runF (phL p 0 l) f) (p, h)] = _
      rw [ei]
      have := a2 p.dropLast (fun z => by rw [z] at hlen; omega) (fun u => by have := under_len u; omega)
      show runF (phL p 0 l) f p.dropLast ++ _ = _
      rw [this]
    · show (if _ then _ else _) = _
      rw [if_neg n1]
      show runF (phL p 0 l) f q = f q
      refine a2 q (fun z => n2 [] (by rw [z, List.append_nil])) fun ⟨i, r, e, _⟩ => n2 _ e
def fNil : FnP := fun _ => []
/-- what stands at the root at the end -/
theorem nest_all {l : List It} (ok : ∀ x ∈ l, HI x) : (runF (phL [] 0 l) fNil []).reverse = datL l := by
  have := (nest_list (fun x hx => nest_item (ok x hx)) [] 0 fNil (fun q _ => rfl)).1
  rw [this]
  show ([] ++ (datL l).reverse).reverse = _
  rw [List.nil_append, List.reverse_reverse]
mutual
theorem ph_paths : ∀ (x : It) (p : List Int) (a : Nat), (x.ph p).map (·.1) = (x.rows p a).map (·.1)
  | .leaf _ _, p, a => by rw [It.ph, It.rows]; rfl
  | .node _ _ _ l, p, a => by
    rw [It.ph, It.rows, List.map_cons, List.map_cons, phL_paths l]
theorem phL_paths : ∀ (l : List It) (p : List Int) (k a : Nat), (phL p k l).map (·.1) = (rowsL p k a l).map (·.1)
  | [], p, k, a => by rw [phL, rowsL]; rfl
  | x :: l, p, k, a => by
    rw [phL, rowsL, List.map_append, List.map_append, ph_paths x _ a, phL_paths l]
end
mutual
theorem ph_heads : ∀ (x : It) (p : List Int), (x.ph p).map (·.2) = x.hds
  | .leaf _ _, p => by rw [It.ph, It.hds]; rfl
  | .node _ _ _ l, p => by rw [It.ph, It.hds, List.map_cons, phL_heads l]
theorem phL_heads : ∀ (l : List It) (p : List Int) (k : Nat), (phL p k l).map (·.2) = hdsL l
  | [], p, k => by rw [phL, hdsL]; rfl
  | x :: l, p, k => by rw [phL, hdsL, List.map_append, ph_heads x, phL_heads l]
end
end K1
set_option maxHeartbeats 4000000
/-! the dict of nested, in the heap -/
namespace K1
open PySem L2
/-- an entry: its key, the key's address, the address of its list -/
abbrev Ek := List Int × Addr × Addr
def enX (es : List Ek) : List DX.En := es.map fun e => (e.1, e.2.1, V.ref e.2.2)
def valK (es : List Ek) (k : List Int) : Option Addr := (es.find? fun e => decide (e.1 = k)).map (·.2.2)
theorem val_enX : ∀ (es : List Ek) (k : List Int), DX.valX (enX es) k = (valK es k).map V.ref
  | [], k => rfl
  | e :: es, k => by
    have ih := val_enX es k
    unfold DX.valX valK enX at *
    rw [List.map_cons, List.find?_cons, List.find?_cons]
    cases h : decide (e.1 = k) with
    | true => rfl
    | false => exact ih
theorem valK_mem {es : List Ek} {k : List Int} {c : Addr} (h : valK es k = some c) : ∃ e ∈ es, e.1 = k ∧ e.2.2 = c := by
  unfold valK at h
  obtain ⟨e, he, rfl⟩ := Option.map_eq_some_iff.mp h
  have hd := List.find?_some he
  rw [decide_eq_true_eq] at hd
  exact ⟨e, List.mem_of_find?_eq_some he, hd, rfl⟩
theorem valK_none {es : List Ek} {k : List Int} (h : valK es k = none) : ∀ e ∈ es, e.1 ≠ k := fun e he z => by
  unfold valK at h
  rw [Option.map_eq_none_iff, List.find?_eq_none] at h
  exact h e he (decide_eq_true z)
theorem valK_snoc {es : List Ek} {e : Ek} (h : valK es e.1 = none) : valK (es ++ [e]) e.1 = some e.2.2 := by
  unfold valK at *
  rw [Option.map_eq_none_iff] at h
  rw [List.find?_append, h, Option.none_or, List.find?_cons, decide_eq_true rfl]
  rfl
theorem valK_other {es : List Ek} {e : Ek} {k : List Int} (h : valK (es ++ [e]) k = none) : valK es k = none ∧ e.1 ≠ k := by
  have a := valK_none h
  refine ⟨?_, a e (by simp)⟩
  unfold valK
  rw [Option.map_eq_none_iff, List.find?_eq_none]
  exact fun x hx => by
    rw [decide_eq_true_eq]
    exact a x (by simp [hx])
def celL (a : Addr) (es : List Ek) : List Addr := a :: es.map (·.2.2)
/-- the dict stands at a, its lists hold what f tells -/
structure NAt (P : Program) (w : World) (K : PySem.W.Frag) (H0 H : Hp) (a : Addr) (es : List Ek) (f : FnP) (n : Nat) : Prop where
  at_ : H a = some (DX.dxO P w a (enX es))
  new : H0 a = none
  cel : ∀ e ∈ es, H0 e.2.2 = none ∧ e.2.2 ≠ a ∧ ∃ us, H e.2.2 = some (.lst us) ∧ us.length ≤ n ∧ DQs K (hidS (celL a es) H) us (f e.1)
  key : ∀ e ∈ es, SqT K (hidS (celL a es) H) e.2.1 (e.1.map V.int)
  nd : (es.map (·.2.2)).Nodup
  ndk : (es.map (·.1)).Nodup
  abs : ∀ k, valK es k = none → f k = []
  same : Same H0 H
variable {P : Program} {w : World} {K : PySem.W.Frag} {H0 H H' : Hp} {a : Addr} {es : List Ek} {f : FnP} {n : Nat}
theorem NAt.dxk (A : NAt P w K H0 H a es f n) : DX.DxK K H (enX es) := fun x hx => by
  obtain ⟨e, he, rfl⟩ := List.mem_map.mp hx
  exact K0.seqT_same (hidS_in _ _) (A.key e he)
theorem NAt.grow (A : NAt P w K H0 H a es f n) (s : Same H H') : NAt P w K H0 H' a es f n :=
  ⟨s _ _ A.at_, A.new, fun e he => by
    obtain ⟨h1, h2, us, h3, h4, h5⟩ := A.cel e he
    exact ⟨h1, h2, us, s _ _ h3, h4, h5.to (hidS_more s)⟩, fun e he => K0.seqT_same (hidS_more s) (A.key e he), A.nd, A.ndk, A.abs, A.same.trans s⟩
/-- what was there before stands beside it -/
theorem NAt.old (A : NAt P w K H0 H a es f n) : Same H0 (hidS (celL a es) H) := fun b u e => by
  refine hidS_of (fun z => ?_) (A.same _ _ e)
  rcases List.mem_cons.mp z with rfl | z
  · rw [A.new] at e
    cases e
  · obtain ⟨x, hx, rfl⟩ := List.mem_map.mp z
    rw [(A.cel x hx).1] at e
    cases e
theorem NAt.fresh (A : NAt P w K H0 H a es f n) {t : Addr} (nt : H t = none) : t ∉ celL a es := fun z => by
  rcases List.mem_cons.mp z with rfl | z
  · rw [A.at_] at nt
    cases nt
  · obtain ⟨x, hx, rfl⟩ := List.mem_map.mp z
    obtain ⟨_, _, us, h3, _⟩ := A.cel x hx
    rw [h3] at nt
    cases nt
theorem NAt.get (A : NAt P w K H0 H a es f n) {k : List Int} {c : Addr} (h : valK es k = some c) : ∃ us, H c = some (.lst us) ∧ us.length ≤ n ∧ DQs K (hidS (celL a es) H) us (f k) := by
  obtain ⟨e, he, rfl, rfl⟩ := valK_mem h
  obtain ⟨_, _, us, h3, h4, h5⟩ := A.cel e he
  exact ⟨us, h3, h4, h5⟩
theorem nodup_inj {α β : Type} {g : α → β} : ∀ {l : List α}, (l.map g).Nodup → ∀ {x y : α}, x ∈ l → y ∈ l → g x = g y → x = y
  | [], _, _, _, hx, _, _ => by cases hx
  | z :: l, h, x, y, hx, hy, e => by
    rw [List.map_cons, List.nodup_cons] at h
    rcases List.mem_cons.mp hx with rfl | hx2
    · rcases List.mem_cons.mp hy with rfl | hy2
      · rfl
      · exact absurd (e ▸ List.mem_map_of_mem hy2) h.1
    · rcases List.mem_cons.mp hy with rfl | hy2
      · exact absurd (e ▸ List.mem_map_of_mem hx2) h.1
      · exact nodup_inj h.2 hx2 hy2 e
/-- an item more in one of its lists -/
theorem NAt.more (A : NAt P w K H0 H a es f n) {k : List Int} {c : Addr} {us : List V} {v : V} {d : PyData} (h : valK es k = some c) (hc : H c = some (.lst us)) (hv : DQ K (hidS (celL a es) H) v d) :
    NAt P w K H0 (upd H c (.lst (us ++ [v]))) a es (fun q => if q = k then f q ++ [d] else f q) (n + 1) := by
  obtain ⟨e0, he0, rfl, rfl⟩ := valK_mem h
  have hin : e0.2.2 ∈ celL a es := List.mem_cons_of_mem _ (List.mem_map_of_mem he0)
  obtain ⟨g1, g2, us', g3, g4, g5⟩ := A.cel e0 he0
  rw [hc] at g3
  cases g3
  refine ⟨(upd_ne (Ne.symm g2)).trans A.at_, A.new, fun e he => ?_, fun e he => by rw [hidS_upd hin]; exact A.key e he, A.nd, A.ndk, fun q hq => ?_, fun b u hb => ?_⟩
  · obtain ⟨h1, h2, vs, h3, h4, h5⟩ := A.cel e he
    refine ⟨h1, h2, ?_⟩
    by_cases q : e = e0
    · subst q
      refine ⟨us ++ [v], upd_same, by rw [List.length_append, List.length_singleton]; omega, ?_⟩
      rw [hidS_upd hin, if_pos rfl]
      exact g5.app (.cons hv .nil)
    · refine ⟨vs, (upd_ne (fun z => q (nodup_inj A.nd he he0 z))).trans h3, by omega, ?_⟩
      rw [hidS_upd hin, if_neg (fun z => q (nodup_inj A.ndk he he0 z))]
      exact h5
  · show (if _ then _ else _) = _
    rw [if_neg (fun z => by rw [z, h] at hq; cases hq)]
    exact A.abs q hq
  · rw [upd_ne (fun z => by rw [z, g1] at hb; cases hb)]
    exact A.same _ _ hb
/-- a new entry with a list of nothing -/
theorem NAt.entry (A : NAt P w K H0 H a es f n) {k : List Int} {kb t : Addr} (h : valK es k = none) (hk : SqT K (hidS (celL a es) H) kb (k.map V.int)) (nt : H t = none) :
    NAt P w K H0 (upd (upd H t (.lst [])) a (DX.dxO P w a (enX es ++ [(k, kb, .ref t)]))) a (es ++ [(k, kb, t)]) f n := by
  have ta : t ≠ a := fun z => by rw [z, A.at_] at nt; cases nt
  have n0 : H0 t = none := by
    cases e : H0 t with
    | none => rfl
    | some u =>
      rw [A.same _ _ e] at nt
      cases nt
  have cells : celL a (es ++ [(k, kb, t)]) = celL a es ++ [t] := by
    unfold celL
    rw [List.map_append]
    rfl
  have s : Same (hidS (celL a es) H) (hidS (celL a (es ++ [(k, kb, t)])) (upd (upd H t (.lst [])) a (DX.dxO P w a (enX es ++ [(k, kb, .ref t)])))) := fun b u e => by
    obtain ⟨h1, h2⟩ := hidS_at e
    have bt : b ≠ t := fun z => by rw [z, nt] at h2; cases h2
    have ba : b ≠ a := fun z => h1 (by rw [z]; exact List.mem_cons_self)
    refine hidS_of (fun z => ?_) (by rw [upd_ne ba, upd_ne bt]; exact h2)
    rw [cells] at z
    rcases List.mem_append.mp z with z | z
    · exact h1 z
    · exact bt (List.mem_singleton.mp z)
  refine ⟨by rw [upd_same]; unfold enX; rw [List.map_append]; rfl, A.new, fun e he => ?_, fun e he => ?_, ?_, ?_, fun q hq => A.abs q (valK_other hq).1, fun b u hb => ?_⟩
  · rcases List.mem_append.mp he with he | he
    · obtain ⟨h1, h2, us, h3, h4, h5⟩ := A.cel e he
      have et : e.2.2 ≠ t := fun z => by rw [z, nt] at h3; cases h3
      exact ⟨h1, h2, us, by rw [upd_ne h2, upd_ne et]; exact h3, h4, h5.to s⟩
    · rw [List.mem_singleton.mp he]
      refine ⟨n0, ta, [], by rw [upd_ne ta, upd_same], Nat.zero_le _, ?_⟩
      show DQs K _ [] (f k)
      rw [A.abs k h]
      exact .nil
  · rcases List.mem_append.mp he with he | he
    · exact K0.seqT_same s (A.key e he)
    · rw [List.mem_singleton.mp he]
      exact K0.seqT_same s hk
  · rw [List.map_append, List.nodup_append]
    refine ⟨A.nd, by simp, fun x hx y hy => ?_⟩
    rw [List.map_singleton, List.mem_singleton] at hy
    rw [hy]
    rintro rfl
    exact A.fresh nt (List.mem_cons_of_mem _ hx)
  · rw [List.map_append, List.nodup_append]
    refine ⟨A.ndk, by simp, fun x hx y hy => ?_⟩
    rw [List.map_singleton, List.mem_singleton] at hy
    obtain ⟨e, he, rfl⟩ := List.mem_map.mp hx
    rw [hy]
    exact valK_none h e he
  · rw [upd_ne (fun z => by rw [z, A.new] at hb; cases hb), upd_ne (ne_of_none (A.same _ _ hb) nt)]
    exact A.same _ _ hb
end K1
set_option maxHeartbeats 4000000
/-! _in_order, nested -/
namespace K1
open PySem L2
theorem NAt.rebase {P : Program} {w : World} {K : PySem.W.Frag} {H0 H : Hp} {a : Addr} {es : List Ek} {f : FnP} {n : Nat} (A : NAt P w K H0 H a es f n) : NAt P w K (hidS (celL a es) H) H a es f n := by
  have no : ∀ b ∈ celL a es, hidS (celL a es) H b = none := fun b hb => by
    unfold hidS
    rw [if_pos hb]
  refine ⟨A.at_, no a List.mem_cons_self, fun e he => ?_, A.key, A.nd, A.ndk, A.abs, hidS_in _ _⟩
  obtain ⟨_, h2, r⟩ := A.cel e he
  exact ⟨no _ (List.mem_cons_of_mem _ (List.mem_map_of_mem he)), h2, r⟩
theorem DQs.rev {K : PySem.W.Frag} {H : Hp} : ∀ {vs : List V} {ds : List PyData}, DQs K H vs ds → DQs K H vs.reverse ds.reverse
  | _, _, .nil => .nil
  | _, _, .cons h t => by
    rw [List.reverse_cons, List.reverse_cons]
    exact t.rev.app (.cons h .nil)
theorem dqs_ints {K : PySem.W.Frag} {H : Hp} : ∀ {vs : List V} {p : List Int}, DQs K H vs (p.map PyData.int) → vs = p.map V.int
  | [], [], _ => rfl
  | _ :: _, [], h => by cases h
  | [], _ :: _, h => by cases h
  | v :: vs, i :: p, h => by
    cases h with
    | cons h1 h2 =>
      cases h1
      rw [List.map_cons, ← dqs_ints h2]
theorem cut_last {p : List Int} (h : p ≠ []) : cutV (p.map V.int) none (some (-1)) = p.dropLast.map V.int ∧ ¬ (HT.sIx (p.map V.int).length 0 none = 0 ∧ HT.sIx (p.map V.int).length (p.map V.int).length (some (-1)) = (p.map V.int).length) := by
  have hl : 0 < p.length := List.length_pos_iff.mpr h
  have e : HT.sIx (p.map V.int).length (p.map V.int).length (some (-1)) = p.length - 1 := by
    rw [List.length_map]
    show (if (-1 : Int) < 0 then ((-1 : Int) + (p.length : Int)).toNat else min (-1 : Int).toNat p.length) = _
    rw [if_pos (by decide)]
    omega
  refine ⟨?_, fun z => ?_⟩
  · unfold cutV
    rw [e]
    show List.take (p.length - 1 - 0) (List.drop 0 (p.map V.int)) = _
    rw [List.drop_zero, Nat.sub_zero, ← List.map_take, List.dropLast_eq_take]
  · rw [e, List.length_map] at z
    omega
def spOrd : Sp := fun vs H Q _ => ∃ c us, vs = [.ref c] ∧ H c = some (.lst us) ∧ ∀ H' t, Same H H' → H t = none → H' t = some (.tup us.reverse) → Q (.ref t) H'
/-- what nested gathers -/
def nestD (ps : List (List Int)) (hs : List (List PyData)) : PyData := .tuple (runF (ps.zip hs) fNil []).reverse
def spNested (K : PySem.W.Frag) : Sp := fun vs H Q _ => ∃ (p1 p2 : Addr) (vp vh : List V) (ps : List (List Int)) (hs : List (List PyData)), vs = [.ref p1, .ref p2] ∧ SqL K H p1 vp ∧ SqL K H p2 vh ∧ DQs K H vp (ps.map pathD) ∧ DQs K H vh (hs.map .tuple) ∧ ps.length = hs.length ∧ hs.length ≤ 1500 ∧
  (∀ p ∈ ps, p ≠ [] ∧ p.length ≤ 1000) ∧ (∀ h ∈ hs, ∃ x t, h = .str x :: t ∧ holdH h = holdsD (.str x) ∧ t.length ≤ 10) ∧ ∀ H' u, Same H H' → DQ K H' u (nestD ps hs) → Q u H'
/-- {(): []} -/
def tRoot (P : Program) (w : World) (K : PySem.W.Frag) : TE := fun _ H Q => ∀ J a tb c0, NAt P w K H J a [([], tb, c0)] fNil 0 → Q (.ref a) J
/-- what one row is read as -/
def tItem (P : Program) (w : World) (K : PySem.W.Frag) : TE := fun σ H Q => ∃ (H0 : Hp) (a pa ta : Addr) (es : List Ek) (f : FnP) (n : Nat) (p : List Int) (x : Str) (t : List PyData), σ[2]? = some (some (.ref a)) ∧ σ[3]? = some (some (.ref pa)) ∧ σ[4]? = some (some (.ref ta)) ∧ NAt P w K H0 H a es f n ∧ n ≤ 1500 ∧
  SqT K H pa (p.map V.int) ∧ DQ K (hidS (celL a es) H) (.ref ta) (.tuple (.str x :: t)) ∧ t.length ≤ 10 ∧ holdH (.str x :: t) = holdsD (.str x) ∧ ∀ H' u, Same H H' → DQ K (hidS (celL a es) H') u (itemF f (p, .str x :: t)) → Q u H'
section
variable {P : Program} {w : World} {K : PySem.W.Frag} {mg : Str → Option Value} {base : Heap}
theorem sc_ord : FnScope ["parts"] ["parts"] (defScope (top 19)) := ⟨rfl, rfl, rfl, by decide +kernel, rfl, by decide +kernel, by decide +kernel⟩
theorem cl_ord (T : All K mg) : Cl P w K mg base 1 "_in_order" ["parts"] spOrd := by
  obtain ⟨g, fd, D⟩ := T.dn 19 _ _ rfl
  refine D.cl (D.fn.ok sc_ord (fun vs H Q E h => ?_) (fun cdv A outer s H vs Q E hr h => ?_))
  · obtain ⟨c, us, rfl, _⟩ := h
    rfl
  · obtain ⟨c, us, rfl, hc, k⟩ := h
    refine ⟨_, (pss_one (ps_ret (pe_callTy call_tuple_of (by rfl) T.bi.tuple (by decide +kernel) (pa_cons (pe_revL (pv 0)) pa_nil)))), ?_⟩
    refine ⟨_, rfl, c, us, rfl, SqL.of hc, fun p np => ⟨p, us.reverse, rfl, .inl ⟨SqL.of upd_same, fun q nq => ?_⟩⟩⟩
    have s1 := K0.same_upd (o := .lst us.reverse) np
    refine k _ q (s1.trans (K0.same_upd nq)) ?_ upd_same
    cases e : H q with
    | none => rfl
    | some o =>
      rw [s1 _ _ e] at nq
      cases nq
theorem sc_nested : FnScope ["paths", "heads", "parts", "path", "head", "item"] ["paths", "heads"] (defScope (top 18)) := ⟨rfl, rfl, rfl, by decide +kernel, rfl, by decide +kernel, by decide +kernel⟩
theorem cl_nested (T : All K mg) (hzip : mg "zip" = none) : Cl P w K mg base 2 "nested" ["paths", "heads"] (spNested K) := by
  obtain ⟨g, fd, D⟩ := T.dn 18 _ _ rfl
  refine D.cl (D.fn.ok sc_nested (fun vs H Q E h => ?_) (fun cdv A outer s H vs Q E hr h => ?_))
  · obtain ⟨p1, p2, vp, vh, ps, hs, rfl, _⟩ := h
    rfl
  · obtain ⟨p1, p2, vp, vh, ps, hs, rfl, h1, h2, d1, d2, el, ll, hp, hh, k⟩ := h
    refine ⟨_, (pss_cons (ps_set (i := 2) sc_nested.nd rfl (Or.inl rfl) (K0.pe_imp (t' := tRoot P w K) (DX.pe_xdisp (hu_of hr) (pe_tup pa_nil) (pe_lst pa_nil)) (fun σ H Q hh => ?_)))
      (pss_cons (ps_for PassesOwn.never rfl (RZ.pi_zipA rfl hzip (pa_cons (pe_revL (pv 0)) (pa_cons (pe_revL (pv 1)) pa_nil))) (pg_tup (t := (gCons (gName 3) (gCons (gName 4) gNil))) rfl (pgs_cons (pg_name (i := 3) sc_nested.nd rfl (Or.inl rfl)) (pgs_cons (pg_name (i := 4) sc_nested.nd rfl (Or.inl rfl)) pgs_nil))) (pss_cons (ps_set (i := 5) sc_nested.nd rfl (Or.inl rfl) (K0.pe_imp (t' := tItem P w K) (pe_ifExp (pt_val (pe_cl (cl_holds T) hr (by decide) (pa_cons (pe_ix ix_tup (pv 4) pe_int (fun _ _ => rfl)) pa_nil))) (pe_tup (StX.pa_star (pv 4) (pa_cons (pe_cl (cl_ord T) hr (by decide) (pa_cons (DX.pe_xget2 (hu_of hr) (pv 2) (pv 3) (pe_lst pa_nil) ⟨by rfl, by rfl, by rfl, by rfl⟩) pa_nil)) pa_nil))) (pv 4)) (fun σ H Q hh => ?_)))
      (pss_one (ps_expr (pe_bm PySem.F.plainAttrs_list PySem.F.slot_list_append PySem.F.type_list_append mt_append (DX.pe_xsetd (hu_of hr) (pv 2) (pe_slice sl_tup (pv 3) po_none (po_some (pe_un un_neg pe_int))) (pe_lst pa_nil) ⟨by rfl, by rfl, by rfl, by rfl⟩) (pa_cons (pv 5) pa_nil))))))
      (pss_one (ps_ret (pe_cl (cl_ord T) hr (by decide) (pa_cons (DX.pe_xget (hu_of hr) (pv 2) (pe_tup pa_nil) (fun _ _ => rfl)) pa_nil)))))), ?_⟩
    · refine fun a na => ⟨Nat.zero_le _, fun tb ntb => ⟨Nat.zero_le _, fun c0 nc0 => ?_⟩⟩
      have ab : a ≠ tb := fun z => by rw [← z, upd_same] at ntb; cases ntb
      have A0 : NAt P w K H (upd H a (DX.dxO P w a [])) a [] fNil 0 := ⟨upd_same, na, fun e he => (by cases he), fun e he => (by cases he), List.nodup_nil, List.nodup_nil, fun _ _ => rfl, K0.same_upd na⟩
      have s1 := K0.same_upd (o := .tup []) ntb
      have A1 : NAt P w K H _ a [] fNil 0 := A0.grow s1
      have A2 := A1.entry (k := []) (kb := tb) (t := c0) rfl (.inl (.inl (hidS_of (by simp [celL, Ne.symm ab]) upd_same))) nc0
      exact ⟨_, _, tb, [], rfl, rfl, (K0.same_upd nc0) _ _ (s1 _ _ A0.at_), .inl (.inl ((K0.same_upd nc0) _ _ upd_same)), hh _ a tb c0 A2⟩
    · obtain ⟨H0, a, pa, ta, es, f, n, p, x, t, g2, g3, g4, A, hn, hpa, hd, ht, hx, kk⟩ := hh
      have hdk := hd
      obtain ⟨txs, hT0, hD0⟩ : ∃ txs, SqT K (hidS (celL a es) H) ta txs ∧ DQs K (hidS (celL a es) H) txs (.str x :: t) := by
        cases hd with
        | tup g5 g6 => exact ⟨_, g5, g6⟩
      have hT := K0.seqT_same (hidS_in _ _) hT0
      obtain ⟨u1, hu1, du1⟩ := hD0.get (i := 0) rfl
      cases du1
      have hi1 := atI_nat hu1
      have ltx := hD0.len
      rw [List.length_cons] at ltx
      refine ⟨_, g4, ta, txs, _, _, rfl, rfl, hT, hi1, x, rfl, _, rfl, ?_⟩
      unfold itemF at kk
      rw [hx] at kk
      dsimp only at kk
      cases e : holdsD (.str x) with
      | true =>
        rw [e] at kk
        refine iteT ⟨_, g4, ta, txs, rfl, .inl hT, ?_⟩
        refine ⟨_, g2, a, enX es, rfl, .inl A.at_, A.dxk, _, g3, Nat.zero_le _, fun t0 nt0 => ?_⟩
        have s1 := K0.same_upd (o := .lst []) nt0
        have A1 := A.grow s1
        obtain ⟨c, us, ec, hc, dus, lus⟩ : ∃ c us, (DX.valX (enX es) p).getD (.ref t0) = .ref c ∧ (upd H t0 (.lst [])) c = some (.lst us) ∧ DQs K (hidS (celL a es) (upd H t0 (.lst []))) us (f p) ∧ us.length ≤ 1500 := by
          rw [val_enX]
          cases e : valK es p with
          | none =>
            refine ⟨t0, [], rfl, upd_same, ?_, Nat.zero_le _⟩
            rw [A.abs p e]
            exact .nil
          | some c =>
            obtain ⟨us, g5, g6, g7⟩ := A1.get e
            exact ⟨c, us, rfl, g5, g7, by omega⟩
        generalize upd H t0 (.lst []) = H1 at *
        refine ⟨pa, enX es, p, rfl, .inl A1.at_, A1.dxk, K0.seqT_same s1 hpa, ?_⟩
        rw [ec]
        refine ⟨c, us, rfl, hc, fun H2 tt s2 ntt htt => ?_⟩
        refine ⟨by rw [sizeLine_eq, List.length_append, List.length_singleton]; omega, fun q nq => ?_⟩
        have s3 := K0.same_upd (o := .tup (txs ++ [.ref tt])) nq
        have A2 := A1.grow s2
        refine kk _ _ ((s1.trans s2).trans s3) (.tup (.inl (.inl (hidS_of (A2.fresh nq) upd_same))) ?_)
        refine ((hD0.to (hidS_more ((s1.trans s2).trans s3)))).app (.cons (.tup (.inl (.inl (hidS_of (A1.fresh ntt) (s3 _ _ htt)))) ?_) .nil)
        exact (dus.to (hidS_more (s2.trans s3))).rev
      | false =>
        rw [e] at kk
        exact iteF ⟨_, g4, kk H _ (Same.refl H) hdk⟩
    obtain ⟨rows, rfl, rfl⟩ : ∃ rows : List (List Int × List PyData), ps = rows.map (·.1) ∧ hs = rows.map (·.2) := ⟨ps.zip hs, (List.map_fst_zip (by omega)).symm, (List.map_snd_zip (by omega)).symm⟩
    have ez : (rows.map (·.1)).zip (rows.map (·.2)) = rows := by
      clear h1 h2 d1 d2 el ll hp hh k
      induction rows with
      | nil => rfl
      | cons r rs ih => rw [List.map_cons, List.map_cons, List.zip_cons_cons, ih]
    unfold nestD at k
    rw [ez] at k
    rw [List.length_map] at ll
    refine fun J0 a tb c0 A2 => ?_
    have sJ0 := A2.same
    refine ⟨_, rfl, p1, vp, rfl, sJ0.seq h1, fun q1 nq1 => ?_⟩
    have s2 := K0.same_upd (o := .lst vp.reverse) nq1
    refine ⟨_, rfl, p2, vh, rfl, s2.seq (sJ0.seq h2), fun q2 nq2 => ?_⟩
    have s3 := K0.same_upd (o := .lst vh.reverse) nq2
    have f1 := s3 _ _ (@upd_same J0 q1 (.lst vp.reverse))
    have A3 := A2.grow s2
    have A4 := A3.grow s3
    have n1 := A2.fresh nq1
    have n2 := A3.fresh nq2
    have B := A4.rebase
    have SO := A4.old
    have f2 := @upd_same (upd J0 q1 (.lst vp.reverse)) q2 (.lst vh.reverse)
    generalize upd (upd J0 q1 (.lst vp.reverse)) q2 (.lst vh.reverse) = J1 at f1 f2 A4 B SO ⊢
    have g1 := hidS_of n1 f1
    have g2 := hidS_of n2 f2
    have e1 := (d1.to SO).rev
    have e2 := (d2.to SO).rev
    generalize hidS (celL a [([], tb, c0)]) J1 = HB at *
    have lv : vp.length = rows.length := by rw [d1.len, List.length_map, List.length_map]
    have lh : vh.length = rows.length := by rw [d2.len, List.length_map, List.length_map]
    refine ⟨q1, q2, vp.reverse, vh.reverse, rfl, .inl ⟨SqL.of f1, SqL.of f2, ?_⟩⟩
    refine RZ.for_zipL (K := K) (by rw [List.length_reverse, List.length_reverse, lv, lh]) (fun i σ J => ∃ es z3 z4 z5, σ = [some (.ref p1), some (.ref p2), some (.ref a), z3, z4, z5] ∧ NAt P w K HB J a es ((rows.reverse.take i).foldl stepF fNil) i ∧ valK es [] ≠ none ∧ es.length ≤ i + 1) ⟨[([], tb, c0)], _, _, _, rfl, B, by simp [valK], Nat.le_refl _⟩ (fun i σ J ⟨es, z3, z4, z5, _, A, _, _⟩ => ⟨SqL.of (A.same _ _ g1), SqL.of (A.same _ _ g2)⟩) ?_ ?_
    · rintro i x y TT σ J hx hy ⟨es, z3, z4, z5, rfl, A, hroot, few⟩ nT
      have hlt : i < rows.reverse.length := by
        have := (List.getElem?_eq_some_iff.mp hx).1
        rw [List.length_reverse] at this ⊢
        omega
      have er : rows.reverse[i]? = some rows.reverse[i] := List.getElem?_eq_getElem hlt
      have hmem : rows.reverse[i] ∈ rows := List.mem_reverse.mp (List.getElem_mem hlt)
      rw [List.length_reverse] at hlt
      generalize rows.reverse[i] = r at er hmem
      have tk : rows.reverse.take (i + 1) = rows.reverse.take i ++ [r] := by rw [List.take_succ, er]; rfl
      obtain ⟨x', ex, dx⟩ := e1.get (i := i) (d := pathD r.1) (by rw [← List.map_reverse, ← List.map_reverse, List.getElem?_map, List.getElem?_map, er]; rfl)
      rw [hx] at ex
      cases ex
      obtain ⟨y', ey, dy⟩ := e2.get (i := i) (d := .tuple r.2) (by rw [← List.map_reverse, ← List.map_reverse, List.getElem?_map, List.getElem?_map, er]; rfl)
      rw [hy] at ey
      cases ey
      obtain ⟨pn, pl⟩ := hp r.1 (List.mem_map_of_mem hmem)
      obtain ⟨xx, tt, eh, hx2, lt2⟩ := hh r.2 (List.mem_map_of_mem hmem)
      obtain ⟨pa, rfl, hpa⟩ : ∃ pa, x = .ref pa ∧ SqT K HB pa (r.1.map V.int) := by
        cases dx with
        | tup h3 h4 =>
          have := dqs_ints h4
          rw [this] at h3
          exact ⟨_, rfl, h3⟩
      obtain ⟨ta, rfl⟩ : ∃ ta, y = .ref ta := by
        cases dy with
        | tup _ _ => exact ⟨_, rfl⟩
      have sT := K0.same_upd (o := .tup [V.ref pa, .ref ta]) nT
      have A1 := A.grow sT
      refine ⟨TT, _, rfl, .inl (.inl upd_same), rfl, _, _, rfl, _, _, rfl, rfl, ?_⟩
      generalize upd J TT (.tup [V.ref pa, .ref ta]) = J2 at A1 ⊢
      rw [eh] at dy hx2
      refine ⟨HB, a, pa, ta, es, _, i, r.1, xx, tt, rfl, rfl, rfl, A1, by omega, K0.seqT_same A1.same hpa, dy.to A1.old, lt2, hx2, fun J3 item s3 dit => ?_⟩
      rw [← eh] at dit
      have A2' := A1.grow s3
      refine ⟨_, rfl, a, enX es, rfl, .inl A2'.at_, A2'.dxk, _, rfl, 1, rfl, ?_⟩
      obtain ⟨c1, c2⟩ := cut_last pn
      refine ⟨-1, rfl, pa, r.1.map V.int, rfl, K0.seqT_same A2'.same hpa, c2, fun kb nkb => ⟨Nat.zero_le _, fun t1 nt1 => ?_⟩⟩
      have s4 := K0.same_upd (o := .tup (cutV (r.1.map V.int) none (some (-1)))) nkb
      have s5 := K0.same_upd (o := .lst []) nt1
      have A3 := A2'.grow s4
      have A4 := A3.grow s5
      have lx : (enX es).length = es.length := by unfold enX; rw [List.length_map]
      have hkb := @upd_same J3 kb (.tup (cutV (r.1.map V.int) none (some (-1))))
      rw [c1] at hkb
      have hkS : SqT K (hidS (celL a es) (upd J3 kb (.tup (cutV (r.1.map V.int) none (some (-1)))))) kb (r.1.dropLast.map V.int) := by
        refine .inl (.inl (hidS_of (A2'.fresh nkb) ?_))
        rw [c1]
        exact upd_same
      refine ⟨kb, enX es, r.1.dropLast, rfl, A4.at_, A4.dxk, .inl (.inl (s5 _ _ (by rw [c1]; exact upd_same))), by rw [lx, sizeLine_eq]; omega, fun v hv => ?_, fun hn => ?_⟩
      · rw [val_enX] at hv
        obtain ⟨c, hc, rfl⟩ := Option.map_eq_some_iff.mp hv
        obtain ⟨us, g5, g6, g7⟩ := A4.get hc
        refine ⟨.inl ⟨rfl, _, SqL.of g5⟩, _, rfl, c, us, _, rfl, rfl, g5, by rw [sizeLine_eq]; omega, ?_⟩
        have A5 := A4.more hc g5 (dit.to (hidS_more (s4.trans s5)))
        refine ⟨es, _, _, _, rfl, ?_, hroot, by omega⟩
        rw [tk, List.foldl_append]
        exact A5
      · have hv : valK es r.1.dropLast = none := by
          rw [val_enX] at hn
          exact Option.map_eq_none_iff.mp hn
        have A5 := A3.entry hv hkS nt1
        have hc := valK_snoc (e := (r.1.dropLast, kb, t1)) hv
        have t1a : t1 ≠ a := fun z => by
          have := A3.at_
          rw [← z, nt1] at this
          cases this
        have g5 : (upd (upd (upd J3 kb (.tup (cutV (r.1.map V.int) none (some (-1))))) t1 (.lst [])) a (DX.dxO P w a (enX es ++ [(r.1.dropLast, kb, .ref t1)]))) t1 = some (.lst []) := by
          rw [upd_ne t1a, upd_same]
        refine ⟨.inl ⟨rfl, _, SqL.of g5⟩, _, rfl, t1, [], _, rfl, rfl, g5, by rw [sizeLine_eq]; exact Nat.succ_pos _, ?_⟩
        have cells : celL a (es ++ [(r.1.dropLast, kb, t1)]) = celL a es ++ [t1] := by
          unfold celL
          rw [List.map_append]
          rfl
        have A6 := A5.more hc g5 (dit.to fun b u hb => by
          obtain ⟨h5, h6⟩ := hidS_at hb
          have h7 := s4 _ _ h6
          have ba : b ≠ a := fun z => h5 (by rw [z]; exact List.mem_cons_self)
          have bt : b ≠ t1 := ne_of_none h7 nt1
          refine hidS_of (fun z => ?_) (by rw [upd_ne ba, upd_ne bt]; exact h7)
          rw [cells] at z
          rcases List.mem_append.mp z with z | z
          · exact h5 z
          · exact bt (List.mem_singleton.mp z))
        refine ⟨es ++ [(r.1.dropLast, kb, t1)], _, _, _, rfl, ?_, fun z => hroot (valK_other z).1, by rw [List.length_append, List.length_singleton]; omega⟩
        rw [tk, List.foldl_append]
        exact A6
    · rintro σ J ⟨es, z3, z4, z5, rfl, A, hroot, few⟩
      rw [List.length_reverse, lv, ← List.length_reverse (as := rows), List.take_length, List.foldl_reverse] at A
      obtain ⟨c, hc⟩ : ∃ c, valK es [] = some c := by
        cases e : valK es [] with
        | none => exact absurd e hroot
        | some c => exact ⟨c, rfl⟩
      refine ⟨_, rfl, Nat.zero_le _, fun t nt => ?_⟩
      have s4 := K0.same_upd (o := .tup []) nt
      have A1 := A.grow s4
      obtain ⟨us, g5, g6, g7⟩ := A1.get hc
      refine ⟨a, t, enX es, .ref c, [], rfl, rfl, .inl A1.at_, A1.dxk, .inl (.inl upd_same), by rw [val_enX, hc]; rfl, c, us, rfl, g5, fun H5 tt s5 ntt htt => ?_⟩
      exact k H5 _ (((SO.trans A.same).trans s4).trans s5) (.tup (.inl (.inl htt)) ((g7.to ((hidS_in _ _).trans s5)).rev))
end
end K1
set_option maxHeartbeats 4000000
/-! the lets that an item sees, innermost first, by the numbers of their rows -/
namespace K1
open PySem
def letH : List PyData → Bool
  | .str x :: _ => x == "let"
  | _ => false
def isLetI : It → Bool
  | .leaf h _ => letH h
  | .node h _ _ _ => letH h
mutual
/-- how many rows an item has -/
def It.size : It → Nat
  | .leaf _ _ => 1
  | .node _ _ _ l => 1 + sizeLs l
def sizeLs : List It → Nat
  | [] => 0
  | x :: r => x.size + sizeLs r
end
def push (E : List Nat) (at_ : Nat) (b : Bool) : List Nat := if b = true then at_ :: E else E
mutual
def It.envs (E : List Nat) (at_ : Nat) : It → List (List Nat)
  | .leaf _ _ => [E]
  | .node _ _ _ l => E :: envsL E (at_ + 1) l
def envsL (E : List Nat) (at_ : Nat) : List It → List (List Nat)
  | [] => []
  | x :: r => x.envs E at_ ++ envsL (push E at_ (isLetI x)) (at_ + x.size) r
end
/-- the lets that stand open behind a list of items -/
def lastE (E : List Nat) (at_ : Nat) : List It → List Nat
  | [] => E
  | x :: r => lastE (push E at_ (isLetI x)) (at_ + x.size) r
mutual
theorem It.envs_len (E : List Nat) (a : Nat) : ∀ x : It, (x.envs E a).length = x.size
  | .leaf _ _ => by rw [It.envs, It.size]; rfl
  | .node _ _ _ l => by rw [It.envs, It.size, List.length_cons, envsL_len E (a + 1) l, Nat.add_comm]
theorem envsL_len (E : List Nat) (a : Nat) : ∀ l : List It, (envsL E a l).length = sizeLs l
  | [] => by rw [envsL, sizeLs]; rfl
  | x :: r => by rw [envsL, sizeLs, List.length_append, It.envs_len E a x, envsL_len _ _ r]
end
mutual
theorem It.ph_len : ∀ (x : It) (p : List Int), (x.ph p).length = x.size
  | .leaf _ _, p => by rw [It.ph, It.size]; rfl
  | .node _ _ _ l, p => by rw [It.ph, It.size, List.length_cons, phL_len' l, Nat.add_comm]
theorem phL_len' : ∀ (l : List It) (p : List Int) (k : Nat), (phL p k l).length = sizeLs l
  | [], p, k => by rw [phL, sizeLs]; rfl
  | x :: r, p, k => by rw [phL, sizeLs, List.length_append, It.ph_len x, phL_len' r]
end
/-! .. as the program finds them: what is kept at each path -/
abbrev FnN := List Int → Option Nat
structure NS where
  at_ : Nat
  f : FnN
  out : List (Option Nat)
def stepN (s : NS) (r : List Int × List PyData) : NS :=
  let v := s.f r.1.dropLast
  { at_ := s.at_ + 1, f := fun q => if letH r.2 = true ∧ q = r.1.dropLast then some s.at_ else if q = r.1 then v else s.f q, out := s.out ++ [v] }
def runN (rs : List (List Int × List PyData)) (s : NS) : NS := rs.foldl stepN s
theorem runN_app (a b : List (List Int × List PyData)) (s : NS) : runN (a ++ b) s = runN b (runN a s) := List.foldl_append
def NearI (x : It) : Prop := ∀ (p : List Int) (s : NS) (E : List Nat), p ≠ [] → s.f p.dropLast = E.head? → (runN (x.ph p) s).at_ = s.at_ + x.size ∧ (runN (x.ph p) s).out = s.out ++ (x.envs E s.at_).map (·.head?) ∧ (runN (x.ph p) s).f p.dropLast = (push E s.at_ (isLetI x)).head? ∧
  ∀ q, q ≠ p.dropLast → (∀ r, q ≠ p ++ r) → (runN (x.ph p) s).f q = s.f q
theorem near_list : ∀ {l : List It}, (∀ x ∈ l, NearI x) → ∀ (p : List Int) (k : Nat) (s : NS) (E : List Nat), s.f p = E.head? → (runN (phL p k l) s).at_ = s.at_ + sizeLs l ∧ (runN (phL p k l) s).out = s.out ++ (envsL E s.at_ l).map (·.head?) ∧ (runN (phL p k l) s).f p = (lastE E s.at_ l).head? ∧
    ∀ q, q ≠ p → ¬ Under p k q → (runN (phL p k l) s).f q = s.f q
  | [], _, p, k, s, E, h => by
    rw [phL, sizeLs, envsL, lastE]
    exact ⟨rfl, by simp [runN], h, fun q _ _ => rfl⟩
  | x :: l, hx, p, k, s, E, h => by
    rw [phL, sizeLs, envsL, lastE, runN_app]
    have dl : (p ++ [(k : Int)]).dropLast = p := List.dropLast_concat
    obtain ⟨a1, a2, a3, a4⟩ := hx x List.mem_cons_self (p ++ [(k : Int)]) s E (by simp) (by rw [dl]; exact h)
    rw [dl] at a3 a4
    obtain ⟨b1, b2, b3, b4⟩ := near_list (fun y hy => hx y (List.mem_cons_of_mem _ hy)) p (k + 1) (runN (x.ph (p ++ [(k : Int)])) s) (push E s.at_ (isLetI x)) a3
    refine ⟨by rw [b1, a1, Nat.add_assoc], by rw [b2, a2, a1, List.map_append, List.append_assoc], by rw [b3, a1], fun q n1 n2 => ?_⟩
    rw [b4 q n1 (fun ⟨i, r, e, hi⟩ => n2 ⟨i, r, e, by omega⟩)]
    exact a4 q n1 fun r e => n2 ⟨k, r, by rw [e, List.append_assoc]; rfl, Nat.le_refl _⟩
theorem drop_ne {p : List Int} (hp : p ≠ []) : p ≠ p.dropLast := fun e => by
  have h1 := congrArg List.length e
  rw [List.length_dropLast] at h1
  have : 0 < p.length := List.length_pos_iff.mpr hp
  omega
theorem leaf_let {h : List PyData} (e : holdH h = false) : letH h = false := by
  match h, e with
  | [], _ => rfl
  | .str x :: t, e =>
    have e' : (x == "block" || x == "let" || x == "sum" || x == "product") = false := e
    simp only [Bool.or_eq_false_iff] at e'
    exact e'.1.1.2
  | .none :: t, _ => rfl
  | .bool b :: t, _ => rfl
  | .int i :: t, _ => rfl
  | .list l :: t, _ => rfl
  | .tuple l :: t, _ => rfl
  | .dict d :: t, _ => rfl
theorem near_item {x : It} (ok : HI x) : NearI x := by
  induction ok with
  | @leaf h w e0 =>
    intro p s E hp hf
    have lh := leaf_let e0
    rw [It.ph, It.size, It.envs]
    refine ⟨rfl, ?_, ?_, fun q n1 n2 => ?_⟩
    · show s.out ++ [s.f p.dropLast] = _
      rw [hf]
      rfl
    · show (if letH h = true ∧ p.dropLast = p.dropLast then some s.at_ else if p.dropLast = p then s.f p.dropLast else s.f p.dropLast) = _
      unfold push isLetI
      rw [if_neg (fun z => by rw [lh] at z; exact Bool.noConfusion z.1), if_neg (fun e => drop_ne hp e.symm), if_neg (fun z => by have z' : letH h = true := z; rw [lh] at z'; exact Bool.noConfusion z')]
      exact hf
    · show (if letH h = true ∧ q = p.dropLast then some s.at_ else if q = p then s.f p.dropLast else s.f q) = _
      rw [if_neg (fun z => n1 z.2), if_neg (fun e => n2 [] (by rw [e, List.append_nil]))]
  | @node h o b l e0 hl ih =>
    intro p s E hp hf
    rw [It.ph, It.size, It.envs]
    have e1 : runN ((p, h) :: phL p 0 l) s = runN (phL p 0 l) (stepN s (p, h)) := rfl
    rw [e1]
    have hp1 : (stepN s (p, h)).f p = E.head? := by
      show (if letH h = true ∧ p = p.dropLast then some s.at_ else if p = p then s.f p.dropLast else s.f p) = _
      rw [if_neg (fun z => drop_ne hp z.2), if_pos rfl]
      exact hf
    obtain ⟨b1, b2, b3, b4⟩ := near_list ih p 0 (stepN s (p, h)) E hp1
    have hlen : p.dropLast.length < p.length := by
      rw [List.length_dropLast]
      have : 0 < p.length := List.length_pos_iff.mpr hp
      omega
    refine ⟨?_, ?_, ?_, fun q n1 n2 => ?_⟩
    · rw [b1]
      show s.at_ + 1 + sizeLs l = _
      omega
    · rw [b2]
      show (s.out ++ [s.f p.dropLast]) ++ _ = _
      rw [hf, List.append_assoc]
      rfl
    · rw [b4 p.dropLast (fun z => drop_ne hp z.symm) (fun u => by have := under_len u; omega)]
      show (if letH h = true ∧ p.dropLast = p.dropLast then some s.at_ else if p.dropLast = p then s.f p.dropLast else s.f p.dropLast) = _
      unfold push isLetI
      by_cases q : letH h = true
      · rw [if_pos ⟨q, rfl⟩, if_pos q]
        rfl
      · rw [if_neg (fun z => q z.1), if_neg (fun e => drop_ne hp e.symm), if_neg q]
        exact hf
    · rw [b4 q (fun z => n2 [] (by rw [z, List.append_nil])) (fun ⟨i, r, e, _⟩ => n2 _ e)]
      show (if letH h = true ∧ q = p.dropLast then some s.at_ else if q = p then s.f p.dropLast else s.f q) = _
      rw [if_neg (fun z => n1 z.2), if_neg (fun e => n2 [] (by rw [e, List.append_nil]))]
def ns0 : NS := ⟨0, fun _ => none, []⟩
/-- the nearest let of each row -/
theorem near_all {l : List It} (ok : ∀ x ∈ l, HI x) : (runN (phL [] 0 l) ns0).out = (envsL [] 0 l).map (·.head?) := by
  have := (near_list (fun x hx => near_item (ok x hx)) [] 0 ns0 [] rfl).2.1
  rw [this]
  exact List.nil_append _
/-! a let that is seen sees what stands behind it in the list -/
def Tail (es : List (List Nat)) (E : List Nat) : Prop := ∀ pre j t, E = pre ++ j :: t → es[j]? = some t
theorem tail_nil (es : List (List Nat)) : Tail es [] := fun pre j t e => by cases pre <;> cases e
theorem Tail.push {es : List (List Nat)} {E : List Nat} {a : Nat} (h : Tail es E) (ha : es[a]? = some E) (b : Bool) : Tail es (push E a b) := by
  unfold K1.push
  cases b with
  | false => exact h
  | true =>
    intro pre j t e
    have e' : a :: E = pre ++ j :: t := e
    cases pre with
    | nil =>
      cases e'
      exact ha
    | cons x pre =>
      have := (List.cons.inj e').2
      exact h pre j t this
def TailI (es : List (List Nat)) (x : It) : Prop := ∀ (E : List Nat) (a : Nat), Tail es E → (∀ i, i < x.size → es[a + i]? = (x.envs E a)[i]?) → ∀ e ∈ x.envs E a, Tail es e
theorem tail_list {es : List (List Nat)} : ∀ {l : List It}, (∀ x ∈ l, TailI es x) → ∀ (E : List Nat) (a : Nat), Tail es E → (∀ i, i < sizeLs l → es[a + i]? = (envsL E a l)[i]?) → ∀ e ∈ envsL E a l, Tail es e
  | [], _, E, a, _, _, e, he => by rw [envsL] at he; cases he
  | x :: l, hx, E, a, ht, hi, e, he => by
    rw [envsL] at he hi
    rw [sizeLs] at hi
    have hx0 : ∀ i, i < x.size → es[a + i]? = (x.envs E a)[i]? := fun i h => by
      rw [hi i (by omega), List.getElem?_append_left (by rw [It.envs_len]; exact h)]
    have pos : 0 < x.size := by
      cases x with
      | leaf h w => rw [It.size]; decide
      | node h o b l => rw [It.size]; omega
    have h0 : es[a]? = some E := by
      have := hx0 0 pos
      rw [Nat.add_zero] at this
      rw [this]
      cases x with
      | leaf h w => rw [It.envs]; rfl
      | node h o b l => rw [It.envs]; rfl
    rcases List.mem_append.mp he with he | he
    · exact hx x List.mem_cons_self E a ht hx0 e he
    · refine tail_list (fun y hy => hx y (List.mem_cons_of_mem _ hy)) _ _ (ht.push h0 _) (fun i h => ?_) e he
      have := hi (x.size + i) (by omega)
      rw [← Nat.add_assoc] at this
      rw [this, List.getElem?_append_right (by rw [It.envs_len]; omega), It.envs_len]
      congr 1
      omega
theorem tail_item {es : List (List Nat)} {x : It} (ok : HI x) : TailI es x := by
  induction ok with
  | @leaf h w e0 =>
    intro E a ht hi e he
    rw [It.envs] at he
    rw [List.mem_singleton.mp he]
    exact ht
  | @node h o b l e0 hl ih =>
    intro E a ht hi e he
    rw [It.envs] at he hi
    rw [It.size] at hi
    rcases List.mem_cons.mp he with rfl | he
    · exact ht
    · refine tail_list ih E (a + 1) ht (fun i h => ?_) e he
      have := hi (1 + i) (by omega)
      rw [← Nat.add_assoc] at this
      rw [this, Nat.add_comm 1 i, List.getElem?_cons_succ]
theorem tail_all {l : List It} (ok : ∀ x ∈ l, HI x) : ∀ e ∈ envsL [] 0 l, Tail (envsL [] 0 l) e :=
  tail_list (fun x hx => tail_item (ok x hx)) [] 0 (tail_nil _) fun i _ => by rw [Nat.zero_add]
end K1
set_option maxHeartbeats 4000000
/-! each row's holder stands ahead of it; a dict of indexes -/
namespace K1
open PySem L2
def ParOk : List (List Int) → List (List Int × List PyData) → Prop
  | _, [] => True
  | ks, r :: rs => r.1.dropLast ∈ ks ∧ ParOk (r.1 :: ks) rs
theorem ParOk.more : ∀ {rs : List (List Int × List PyData)} {ks ks' : List (List Int)}, ParOk ks rs → (∀ k ∈ ks, k ∈ ks') → ParOk ks' rs
  | [], _, _, _, _ => trivial
  | r :: rs, ks, ks', h, hs => ⟨hs _ h.1, ParOk.more h.2 fun k hk => by
    rcases List.mem_cons.mp hk with rfl | hk
    · exact List.mem_cons_self
    · exact List.mem_cons_of_mem _ (hs k hk)⟩
theorem ParOk.app : ∀ {a b : List (List Int × List PyData)} {ks : List (List Int)}, ParOk ks a → ParOk ks b → ParOk ks (a ++ b)
  | [], _, _, _, h => h
  | r :: a, b, ks, h, g => ⟨h.1, ParOk.app h.2 (g.more fun k hk => List.mem_cons_of_mem _ hk)⟩
def ParI (x : It) : Prop := ∀ (p : List Int) (ks : List (List Int)), p.dropLast ∈ ks → ParOk ks (x.ph p)
theorem par_list : ∀ {l : List It}, (∀ x ∈ l, ParI x) → ∀ (p : List Int) (k : Nat) (ks : List (List Int)), p ∈ ks → ParOk ks (phL p k l)
  | [], _, p, k, ks, h => by rw [phL]; trivial
  | x :: l, hx, p, k, ks, h => by
    rw [phL]
    exact (hx x List.mem_cons_self _ ks (by rw [List.dropLast_concat]; exact h)).app (par_list (fun y hy => hx y (List.mem_cons_of_mem _ hy)) p (k + 1) ks h)
theorem par_item {x : It} (ok : HI x) : ParI x := by
  induction ok with
  | leaf e =>
    intro p ks h
    rw [It.ph]
    exact ⟨h, trivial⟩
  | node e hl ih =>
    intro p ks h
    rw [It.ph]
    exact ⟨h, par_list ih p 0 _ List.mem_cons_self⟩
theorem par_all {l : List It} (ok : ∀ x ∈ l, HI x) : ParOk [[]] (phL [] 0 l) := par_list (fun x hx => par_item (ok x hx)) [] 0 _ List.mem_cons_self
theorem val_put {xs : List DX.En} {k q : List Int} {b : Addr} {v : V} : DX.valX (DX.putX xs k b v) q = if q = k then some v else DX.valX xs q := by
  unfold DX.putX
  cases e : DX.valX xs k with
  | none =>
    show DX.valX (xs ++ [(k, b, v)]) q = _
    unfold DX.valX at e ⊢
    rw [Option.map_eq_none_iff] at e
    rw [List.find?_append]
    by_cases h : q = k
    · rw [if_pos h, h, e, Option.none_or, List.find?_cons, decide_eq_true rfl]
      rfl
    · rw [if_neg h]
      cases e2 : xs.find? fun x => decide (x.1 = q) with
      | none =>
        rw [Option.none_or, List.find?_cons, decide_eq_false (fun z => h z.symm)]
        rfl
      | some x => rfl
  | some w =>
    show DX.valX (xs.map fun x => if x.1 = k then (x.1, x.2.1, v) else x) q = _
    unfold DX.valX at e ⊢
    clear b
    induction xs with
    | nil => cases e
    | cons x xs ih =>
      rw [List.map_cons, List.find?_cons, List.find?_cons]
      by_cases hx : x.1 = k
      · rw [if_pos hx]
        by_cases h : q = k
        · rw [if_pos h, decide_eq_true (by rw [h]; exact hx)]
          rfl
        · rw [if_neg h, decide_eq_false (fun z => h (z.symm.trans hx))]
          -- the rest has no such key, or has it
          clear ih e
          induction xs with
          | nil => rfl
          | cons y ys ih2 =>
            rw [List.map_cons, List.find?_cons, List.find?_cons]
            by_cases hy : y.1 = k
            · rw [if_pos hy, decide_eq_false (fun z => h (z.symm.trans hy))]
              exact ih2
            · rw [if_neg hy]
              cases e3 : decide (y.1 = q) with
              | true => rfl
              | false => exact ih2
      · rw [if_neg hx]
        cases e3 : decide (x.1 = q) with
        | true =>
          by_cases h : q = k
          · exact absurd ((of_decide_eq_true e3).trans h) hx
          · rw [if_neg h]
        | false =>
          rw [List.find?_cons, decide_eq_false hx] at e
          exact ih e
def optV : Option Nat → V
  | none => .non
  | some i => .int (i : Int)
/-- the dict stands at d and tells f at the keys that are there -/
structure DN (P : Program) (w : World) (K : PySem.W.Frag) (H : Hp) (d : Addr) (ks : List (List Int)) (f : FnN) (xs : List DX.En) : Prop where
  at_ : H d = some (DX.dxO P w d xs)
  key : DX.DxK K (hid d H) xs
  val : ∀ k ∈ ks, DX.valX xs k = some (optV (f k))
theorem DN.dxk {P : Program} {w : World} {K : PySem.W.Frag} {H : Hp} {d : Addr} {ks : List (List Int)} {f : FnN} {xs : List DX.En} (A : DN P w K H d ks f xs) : DX.DxK K H xs := fun x hx => K0.seqT_same (hid_same d H) (A.key x hx)
theorem DN.grow {P : Program} {w : World} {K : PySem.W.Frag} {H H' : Hp} {d : Addr} {ks : List (List Int)} {f : FnN} {xs : List DX.En} (A : DN P w K H d ks f xs) (s : Same H H') : DN P w K H' d ks f xs :=
  ⟨s _ _ A.at_, fun x hx => K0.seqT_same (hid_mono s) (A.key x hx), A.val⟩
theorem mem_put {xs : List DX.En} {k : List Int} {b : Addr} {v : V} {x : DX.En} (h : x ∈ DX.putX xs k b v) : (∃ y ∈ xs, x.1 = y.1 ∧ x.2.1 = y.2.1) ∨ (x.1 = k ∧ x.2.1 = b) := by
  unfold DX.putX at h
  split at h
  · obtain ⟨y, hy, rfl⟩ := List.mem_map.mp h
    refine .inl ⟨y, hy, ?_⟩
    split <;> exact ⟨rfl, rfl⟩
  · rcases List.mem_append.mp h with h | h
    · exact .inl ⟨x, h, rfl, rfl⟩
    · rw [List.mem_singleton.mp h]
      exact .inr ⟨rfl, rfl⟩
theorem DN.put {P : Program} {w : World} {K : PySem.W.Frag} {H : Hp} {d b : Addr} {ks : List (List Int)} {f : FnN} {xs : List DX.En} (A : DN P w K H d ks f xs) {k : List Int} {o : Option Nat} (hb : SqT K (hid d H) b (k.map V.int)) :
    DN P w K (upd H d (DX.dxO P w d (DX.putX xs k b (optV o)))) d (k :: ks) (fun q => if q = k then o else f q) (DX.putX xs k b (optV o)) := by
  refine ⟨upd_same, fun x hx => ?_, fun q hq => ?_⟩
  · rw [hid_put]
    rcases mem_put hx with ⟨y, hy, e1, e2⟩ | ⟨e1, e2⟩
    · rw [e1, e2]
      exact A.key y hy
    · rw [e1, e2]
      exact hb
  · rw [val_put]
    by_cases h : q = k
    · rw [if_pos h, if_pos h]
    · rw [if_neg h, if_neg h]
      rcases List.mem_cons.mp hq with rfl | hq
      · exact absurd rfl h
      · exact A.val q hq
end K1
set_option maxHeartbeats 4000000
/-! _nearest -/
namespace K1
open PySem L2
theorem runN_len : ∀ (rs : List (List Int × List PyData)) (s : NS), (runN rs s).out.length = s.out.length + rs.length
  | [], s => rfl
  | r :: rs, s => by
    show (runN rs (stepN s r)).out.length = _
    rw [runN_len rs]
    show (s.out ++ [s.f r.1.dropLast]).length + rs.length = _
    rw [List.length_append, List.length_singleton, List.length_cons]
    omega
theorem runN_at : ∀ (rs : List (List Int × List PyData)) (s : NS), (runN rs s).at_ = s.at_ + rs.length
  | [], s => rfl
  | r :: rs, s => by
    show (runN rs (stepN s r)).at_ = _
    rw [runN_at rs]
    show s.at_ + 1 + rs.length = _
    rw [List.length_cons]
    omega
/-- what a scan has to be for it -/
structure NearOk (S : Sc) (rows : List (List Int × List PyData)) : Prop where
  p : S.paths = rows.map (·.1)
  h : S.heads = rows.map (·.2)
  few : rows.length ≤ 1500
  pth : ∀ r ∈ rows, r.1 ≠ [] ∧ r.1.length ≤ 1000
  hd : ∀ r ∈ rows, ∃ x t, r.2 = .str x :: t ∧ letH r.2 = decide (x = ("let" : Str))
  par : ParOk [[]] rows
def spNear (K : PySem.W.Frag) (C : Addr) : Sp := fun vs H Q _ => ∃ (a : Ad) (z : Str) (S : Sc) (rows : List (List Int × List PyData)), vs = [.ref a.p] ∧ ScAt K C H a z S ∧ NearOk S rows ∧ ∀ H' q, Same H H' → H q = none → H' q = some (.lst ((runN rows ns0).out.map optV)) → Q (.ref q) H'
theorem hid_upd_ne {q d : Addr} {H : Hp} {o : HO} (h : d ≠ q) : hid q (upd H d o) = upd (hid q H) d o := by
  funext b
  by_cases e : b = q
  · subst e
    rw [upd_ne (Ne.symm h)]
    unfold hid
    rw [if_pos rfl, if_pos rfl]
  · rw [hid_ne e]
    by_cases e2 : b = d
    · subst e2
      rw [upd_same, upd_same]
    · rw [upd_ne e2, upd_ne e2, hid_ne e]
/-- {(): None} -/
def tRootN (P : Program) (w : World) (K : PySem.W.Frag) : TE := fun _ H Q => ∀ J d xs, Same H J → H d = none → DN P w K (nw H J) d [[]] (fun _ => none) xs → xs.length ≤ 1 → Q (.ref d) J
section
variable {P : Program} {w : World} {K : PySem.W.Frag} {mg : Str → Option Value} {base : Heap}
theorem sc_nearest : FnScope ["scan", "nearest", "last", "at", "path"] ["scan"] (defScope (top 26)) := ⟨rfl, rfl, rfl, by decide +kernel, rfl, by decide +kernel, by decide +kernel⟩
theorem cl_near {C : Addr} (T : All K mg) (W : ScC K mg C) (henum : mg "enumerate" = none) : Cl P w K mg base 1 "_nearest" ["scan"] (spNear K C) := by
  obtain ⟨g, fd, D⟩ := T.dn 26 _ _ rfl
  refine D.cl (D.fn.ok sc_nearest (fun vs H Q E h => ?_) (fun cdv A outer s H vs Q E hr h => ?_))
  · obtain ⟨a, z, S, rows, rfl, _⟩ := h
    rfl
  · obtain ⟨a, z, S, rows, rfl, At, ok, k⟩ := h
    refine ⟨_, (pss_cons (ps_set (i := 1) sc_nearest.nd rfl (Or.inl rfl) (pe_lst pa_nil))
      (pss_cons (ps_set (i := 2) sc_nearest.nd rfl (Or.inl rfl) (K0.pe_imp (t' := tRootN P w K) (DX.pe_xdisp (hu_of hr) (pe_tup pa_nil) pe_non) (fun σ H Q hh => ?_)))
      (pss_cons (ps_for PassesOwn.never rfl (pi_enum rfl henum (pa_cons (pe_fld (pv 0) rfl) pa_nil)) (pg_tup (t := (gCons (gName 3) (gCons (gName 4) gNil))) rfl (pgs_cons (pg_name (i := 3) sc_nearest.nd rfl (Or.inl rfl)) (pgs_cons (pg_name (i := 4) sc_nearest.nd rfl (Or.inl rfl)) pgs_nil))) (pss_cons (ps_expr (pe_bm PySem.F.plainAttrs_list PySem.F.slot_list_append PySem.F.type_list_append mt_append (pv 1) (pa_cons (DX.pe_xget (hu_of hr) (pv 2) (pe_slice sl_tup (pv 4) po_none (po_some (pe_un un_neg pe_int))) (fun _ _ => rfl)) pa_nil)))
      (pss_cons (DX.ps_xput (hu_of hr) (pv 2) (pv 4) (pe_ix ix_list (pv 1) (pv 3) (fun _ _ => rfl)) (by rfl))
      (pss_one (ps_if (pt_cmpR op_eq (pe_ix ix_tup (pe_ix ix_list (pe_fld (pv 0) rfl) (pv 3) (fun _ _ => rfl)) pe_int (fun _ _ => rfl)) pe_str (nomark _)) (pss_one (DX.ps_xput (hu_of hr) (pv 2) (pe_slice sl_tup (pv 4) po_none (po_some (pe_un un_neg pe_int))) (pv 3) (by rfl))) pss_nil)))))
      (pss_one (ps_ret (pv 1)))))), ?_⟩
    · refine fun d nd => ⟨Nat.zero_le _, fun tb ntb => ?_⟩
      have s0 := K0.same_upd (o := DX.dxO P w d []) nd
      have s1 := K0.same_upd (o := .tup []) ntb
      have db : tb ≠ d := fun z => by rw [z, upd_same] at ntb; cases ntb
      have ntb0 : H tb = none := by rw [upd_ne db] at ntb; exact ntb
      have a0 : nw H (upd (upd H d (DX.dxO P w d [])) tb (.tup [])) d = some (DX.dxO P w d []) := nw_of nd (by rw [upd_ne (Ne.symm db), upd_same])
      have A0 : DN P w K (nw H (upd (upd H d (DX.dxO P w d [])) tb (.tup []))) d [] (fun _ => none) [] := ⟨a0, fun x hx => (by cases hx), fun x hx => (by cases hx)⟩
      have A2 := A0.put (k := []) (b := tb) (o := none) (.inl (.inl (by rw [hid_ne db]; exact nw_of ntb0 upd_same)))
      refine ⟨_, _, tb, [], rfl, rfl, s1 _ _ upd_same, .inl (.inl upd_same), ?_⟩
      refine hh _ d _ (fun b u e => ?_) nd ⟨nw_of nd upd_same, fun x hx => ?_, fun k hk => ?_⟩ (Nat.le_refl _)
      · rw [upd_ne (ne_of_none e nd)]
        exact s1 _ _ (s0 _ _ e)
      · refine K0.seqT_same (fun b u e => ?_) (A2.key x hx)
        obtain ⟨n1, n2⟩ := hid_at e
        rw [upd_ne n1] at n2
        obtain ⟨n3, n4⟩ := nw_at n2
        rw [hid_ne n1]
        exact nw_of n3 (by rw [upd_ne n1]; exact n4)
      · have := A2.val k hk
        rw [List.mem_singleton.mp hk] at this ⊢
        exact this
    refine ⟨Nat.zero_le _, fun q nq => ?_⟩
    have sq := K0.same_upd (o := .lst []) nq
    have hq0 := @upd_same H q (.lst [])
    generalize hJ0 : upd H q (.lst []) = J0 at sq hq0 ⊢
    intro J d xs0 sJ nd A0 lx0
    have sHJ := sq.trans sJ
    have qd : q ≠ d := fun z => by rw [z, nd] at hq0; cases hq0
    have nHd : H d = none := by
      cases e : H d with
      | none => rfl
      | some o => rw [sq _ _ e] at nd; cases nd
    obtain ⟨dx, hob⟩ := At.ob
    obtain ⟨vp, h1, d1⟩ := At.l1
    obtain ⟨vh, h2, d2⟩ := At.l2
    have lv : vp.length = rows.length := by rw [d1.len, List.length_map, ok.p, List.length_map]
    have lh : vh.length = rows.length := by rw [d2.len, List.length_map, ok.h, List.length_map]
    have d1' : DQs K H vp (rows.map fun r => pathD r.1) := by
      have := d1.to (hidS_in _ _)
      rw [ok.p, List.map_map] at this
      exact this
    have d2' : DQs K H vh (rows.map fun r => .tuple r.2) := by
      have := d2.to (hidS_in _ _)
      rw [ok.h, List.map_map] at this
      exact this
    have fld0 : ∀ J', Same H J' → J' a.p = some (.ins C dx (scF a z S.pos)) := fun J' s => s _ _ hob
    refine ⟨_, rfl, a.p, C, dx, _, _, rfl, fld0 J sHJ, W.cl, W.n1, look1 _ _ _, a.a1, vp, rfl, SqL.of (sHJ _ _ h1), ?_⟩
    have hqd : J q = some (.lst []) := sJ _ _ hq0
    have A1 : DN P w K (hid q J) d [[]] (fun _ => none) xs0 := by
      refine A0.grow fun b u e => ?_
      obtain ⟨n1, n2⟩ := nw_at e
      have bq : b ≠ q := fun z => by rw [z, hq0] at n1; cases n1
      rw [hid_ne bq]
      exact n2
    refine for_it (walk_enum (K := K) (a := a.a1) (xs := vp)) (fun i σ J => i ≤ rows.length ∧ Same H J ∧ ∃ z3 z4 ks xs, σ = [some (.ref a.p), some (.ref q), some (.ref d), z3, z4] ∧ J q = some (.lst ((runN (rows.take i) ns0).out.map optV)) ∧ DN P w K (hid q J) d ks (runN (rows.take i) ns0).f xs ∧ ParOk ks (rows.drop i) ∧ xs.length ≤ 2 * i + 1) ⟨Nat.zero_le _, sHJ, _, _, _, _, rfl, hqd, A1, ok.par, lx0⟩ (fun i σ J _ ⟨_, s, _⟩ => SqL.of (s _ _ h1)) ?_ ?_
    · rintro i x σ J1 J2 hi ⟨hle, sJ1, z3, z4, ks, xs, rfl, hq1, A, par, lx⟩ ⟨TT, x0, y0, rfl, nT, rfl, e0, e1⟩
      rw [lv] at hi
      cases e0
      have er : rows[i]? = some rows[i] := List.getElem?_eq_getElem hi
      have hmem : rows[i] ∈ rows := List.getElem_mem hi
      generalize rows[i] = r at er hmem
      have tk : rows.take (i + 1) = rows.take i ++ [r] := by rw [List.take_succ, er]; rfl
      have dk : rows.drop i = r :: rows.drop (i + 1) := by
        rw [List.drop_eq_getElem_cons hi]
        congr 1
        exact Option.some.inj ((List.getElem?_eq_getElem hi).symm.trans er)
      rw [dk] at par
      obtain ⟨pin, par2⟩ := par
      obtain ⟨pn, pl⟩ := ok.pth r hmem
      obtain ⟨xx, tt, eh, hx2⟩ := ok.hd r hmem
      obtain ⟨x', ex, dx'⟩ := d1'.get (i := i) (d := pathD r.1) (by rw [List.getElem?_map, er]; rfl)
      have e1' : vp[i]? = some y0 := e1
      rw [e1'] at ex
      cases ex
      obtain ⟨y', ey, dy'⟩ := d2'.get (i := i) (d := .tuple r.2) (by rw [List.getElem?_map, er]; rfl)
      obtain ⟨pa, rfl, hpa⟩ : ∃ pa, y0 = .ref pa ∧ SqT K H pa (r.1.map V.int) := by
        cases dx' with
        | tup h3 h4 =>
          have := dqs_ints h4
          rw [this] at h3
          exact ⟨_, rfl, h3⟩
      obtain ⟨c1, c2⟩ := cut_last pn
      have sT := K0.same_upd (o := .tup [V.int (i : Int), .ref pa]) nT
      have hq2 := sT _ _ hq1
      have A2 := A.grow (hid_mono (p := q) sT)
      have sH2 := sJ1.trans sT
      refine ⟨TT, _, rfl, .inl (.inl upd_same), rfl, _, _, rfl, _, _, rfl, rfl, ?_⟩
      generalize upd J1 TT (.tup [V.int (i : Int), .ref pa]) = J2 at hq2 A2 sH2 ⊢
      have lout : (runN (rows.take i) ns0).out.length = i := by
        rw [runN_len]
        show 0 + (rows.take i).length = i
        rw [List.length_take]
        omega
      have lat : (runN (rows.take i) ns0).at_ = i := by
        rw [runN_at]
        show 0 + (rows.take i).length = i
        rw [List.length_take]
        omega
      have hrun : runN (rows.take (i + 1)) ns0 = stepN (runN (rows.take i) ns0) r := by
        rw [tk, runN_app]
        rfl
      generalize runN (rows.take i) ns0 = sN at *
      have hval := A2.val _ pin
      -- nearest.append(last[path[:-1]])
      refine ⟨_, rfl, .inl ⟨rfl, _, SqL.of hq2⟩, _, rfl, _, rfl, 1, rfl, -1, rfl, pa, r.1.map V.int, rfl, K0.seqT_same sH2 hpa, c2, fun kb nkb => ?_⟩
      have s3 := K0.same_upd (o := .tup (cutV (r.1.map V.int) none (some (-1)))) nkb
      have hq3 := s3 _ _ hq2
      have A3 := A2.grow (hid_mono (p := q) s3)
      have sH3 := sH2.trans s3
      have hkb := @upd_same J2 kb (.tup (cutV (r.1.map V.int) none (some (-1))))
      rw [c1] at hkb
      refine ⟨d, kb, xs, optV (sN.f r.1.dropLast), r.1.dropLast, rfl, rfl, .inl ((hid_same q _) _ _ A3.at_), fun x hx => K0.seqT_same (hid_same q _) (A3.dxk x hx), .inl (.inl (by rw [c1]; exact upd_same)), hval, ?_⟩
      rw [c1] at s3 hq3 A3 sH3 ⊢
      have few := ok.few
      generalize upd J2 kb (.tup (r.1.dropLast.map V.int)) = J3 at s3 hq3 A3 sH3 hkb ⊢
      refine ⟨q, _, _, rfl, rfl, hq3, by rw [List.length_map, lout, sizeLine_eq]; omega, ?_⟩
      -- last[path] = nearest[at]
      have upq : ∀ (J' : Hp) o, Same (hid q J') (upd J' q o) := fun J' o b u e => by
        obtain ⟨n1, n2⟩ := hid_at e
        rw [upd_ne n1]
        exact n2
      have A4 : DN P w K (hid q (upd J3 q (.lst (sN.out.map optV ++ [optV (sN.f r.1.dropLast)])))) d ks sN.f xs := by
        rw [hid_put]
        exact A3
      have hq4 := @upd_same J3 q (.lst (sN.out.map optV ++ [optV (sN.f r.1.dropLast)]))
      have sH4 : Same H (upd J3 q (.lst (sN.out.map optV ++ [optV (sN.f r.1.dropLast)]))) := fun b u e => by
        rw [upd_ne (ne_of_none e nq)]
        exact sH3 _ _ e
      generalize upd J3 q (.lst (sN.out.map optV ++ [optV (sN.f r.1.dropLast)])) = J4 at A4 hq4 sH4 ⊢
      refine ⟨_, rfl, _, rfl, q, _, _, optV (sN.f r.1.dropLast), rfl, rfl, SqL.of hq4, ?_, _, rfl, _, rfl, d, pa, xs, r.1, rfl, rfl, (hid_same q _) _ _ A4.at_, fun x hx => K0.seqT_same (hid_same q _) (A4.dxk x hx), K0.seqT_same sH4 hpa, by rw [sizeLine_eq]; omega, ?_⟩
      · refine atI_nat ?_
        rw [List.getElem?_append_right (by rw [List.length_map, lout]; exact Nat.le_refl _), List.length_map, lout, Nat.sub_self]
        rfl
      have dq : d ≠ q := Ne.symm qd
      have SHd : ∀ {J' : Hp}, Same H J' → Same H (hid d (hid q J')) := fun s b u e => by
        have b1 : b ≠ d := ne_of_none e nHd
        have b2 : b ≠ q := ne_of_none e nq
        rw [hid_ne b1, hid_ne b2]
        exact s _ _ e
      have A5 := A4.put (k := r.1) (b := pa) (o := sN.f r.1.dropLast) (K0.seqT_same (SHd sH4) hpa)
      rw [← hid_upd_ne dq] at A5
      have l5 := @DX.len_putX xs r.1 pa (optV (sN.f r.1.dropLast))
      have hq5 : (upd J4 d (DX.dxO P w d (DX.putX xs r.1 pa (optV (sN.f r.1.dropLast))))) q = some (.lst (sN.out.map optV ++ [optV (sN.f r.1.dropLast)])) := by
        rw [upd_ne qd]
        exact hq4
      have sH5 : Same H (upd J4 d (DX.dxO P w d (DX.putX xs r.1 pa (optV (sN.f r.1.dropLast))))) := fun b u e => by
        rw [upd_ne (ne_of_none e nHd)]
        exact sH4 _ _ e
      generalize DX.putX xs r.1 pa (optV (sN.f r.1.dropLast)) = xs5 at A5 l5 hq5 sH5 ⊢
      have eJ : ∀ F : Hp → Prop, F (upd J4 d (DX.dxO P w d xs5)) → F (upd J4 d (DX.dxO P w d xs5)) := fun _ h => h
      obtain ⟨ta, txs, rfl, hT0, hD0⟩ : ∃ ta txs, y' = .ref ta ∧ SqT K H ta txs ∧ DQs K H txs (.str xx :: tt) := by
        rw [eh] at dy'
        cases dy' with
        | tup g5 g6 => exact ⟨_, _, rfl, g5, g6⟩
      obtain ⟨u1, hu1, du1⟩ := hD0.get (i := 0) rfl
      cases du1
      have hstep : ∀ q', (stepN sN r).f q' = if letH r.2 = true ∧ q' = r.1.dropLast then some i else if q' = r.1 then sN.f r.1.dropLast else sN.f q' := fun q' => by
        show (if letH r.2 = true ∧ q' = r.1.dropLast then some sN.at_ else if q' = r.1 then sN.f r.1.dropLast else sN.f q') = _
        rw [lat]
      have hout : ((stepN sN r).out.map optV) = sN.out.map optV ++ [optV (sN.f r.1.dropLast)] := by
        show (sN.out ++ [sN.f r.1.dropLast]).map optV = _
        rw [List.map_append]
        rfl
      refine ⟨_, rfl, a.p, C, dx, _, _, rfl, fld0 _ sH5, W.cl, W.n2, look2 _ _ _, _, rfl, a.a2, vh, _, _, rfl, rfl, SqL.of (sH5 _ _ h2), atI_nat ey, ta, txs, _, _, rfl, rfl, K0.seqT_same sH5 hT0, atI_nat hu1, rfl, _, rfl, ?_⟩
      rw [dec_str, ← hx2]
      cases el : letH r.2 with
      | false =>
        refine iteF ⟨hi, sH5, _, _, _, xs5, rfl, by rw [hrun, hout]; exact hq5, ?_, par2, by omega⟩
        rw [hrun]
        have ef : (stepN sN r).f = fun q' => if q' = r.1 then sN.f r.1.dropLast else sN.f q' := by
          funext q'
          rw [hstep, el, if_neg (fun z => Bool.noConfusion z.1)]
        rw [ef]
        exact A5
      | true =>
        refine iteT ⟨_, rfl, _, rfl, _, rfl, 1, rfl, -1, rfl, pa, r.1.map V.int, rfl, K0.seqT_same sH5 hpa, c2, fun kb2 nkb2 => ?_⟩
        have s6 := K0.same_upd (o := .tup (cutV (r.1.map V.int) none (some (-1)))) nkb2
        have A6 := A5.grow (hid_mono (p := q) s6)
        have sH6 := sH5.trans s6
        have hq6 := s6 _ _ hq5
        have nk : (upd J4 d (DX.dxO P w d xs5)) kb2 = none := nkb2
        have kq : kb2 ≠ q := fun z => by rw [z, hq5] at nk; cases nk
        have kd : kb2 ≠ d := fun z => by rw [z, upd_same] at nk; cases nk
        rw [c1] at A6 sH6 hq6 ⊢
        have hkb2 := @upd_same (upd J4 d (DX.dxO P w d xs5)) kb2 (.tup (r.1.dropLast.map V.int))
        have A7 := A6.put (k := r.1.dropLast) (b := kb2) (o := some i) (.inl (.inl (by rw [hid_ne kd, hid_ne kq]; exact hkb2)))
        rw [← hid_upd_ne dq] at A7
        have l7 := @DX.len_putX xs5 r.1.dropLast kb2 (optV (some i))
        refine ⟨d, kb2, xs5, r.1.dropLast, rfl, rfl, (hid_same q _) _ _ A6.at_, fun x hx => K0.seqT_same (hid_same q _) (A6.dxk x hx), .inl (.inl hkb2), by rw [sizeLine_eq]; omega, ?_⟩
        refine ⟨hi, fun b u e => by rw [upd_ne (ne_of_none e nHd)]; exact sH6 _ _ e, _, _, r.1.dropLast :: r.1 :: ks, DX.putX xs5 r.1.dropLast kb2 (optV (some i)), rfl, by rw [hrun, hout, upd_ne qd]; exact hq6, ?_, par2.more (fun k hk => List.mem_cons_of_mem _ hk), by omega⟩
        rw [hrun]
        have ef : (stepN sN r).f = fun q' => if q' = r.1.dropLast then some i else if q' = r.1 then sN.f r.1.dropLast else sN.f q' := by
          funext q'
          rw [hstep, el]
          by_cases z : q' = r.1.dropLast
          · rw [if_pos ⟨rfl, z⟩, if_pos z]
          · rw [if_neg (fun y => z y.2), if_neg z]
        rw [ef]
        exact A7
    · rintro σ J9 ⟨hle, s9, z3, z4, ks, xs, rfl, hq9, A9, par9, lx9⟩
      rw [lv, List.take_length] at hq9
      exact ⟨_, rfl, k J9 q s9 nq hq9⟩
end
end K1
set_option maxHeartbeats 4000000
/-! _meant -/
namespace K1
open PySem L2
def letIs (rows : List (List Int × List PyData)) (nm : Str) (j : Nat) : Bool := match rows[j]? with
  | some (_, [.str x, .str y]) => x == "let" && y == nm
  | _ => false
/-- the let that a use means, of those it sees -/
def findN (rows : List (List Int × List PyData)) (E : List Nat) (nm : Str) : Option Nat := E.find? (letIs rows nm)
/-- what the i-th row means, if it is a use -/
def useAt (rows : List (List Int × List PyData)) (es : List (List Nat)) (i : Nat) : Option (Option Nat) := match rows[i]? with
  | some (_, [.str x, .str nm]) => if x == "use" then some (findN rows (es.getD i []) nm) else none
  | _ => none
structure MeanOk (S : Sc) (rows : List (List Int × List PyData)) (es : List (List Nat)) : Prop where
  near : NearOk S rows
  len : es.length = rows.length
  out : (runN rows ns0).out = es.map (·.head?)
  tail : ∀ e ∈ es, Tail es e
  lets : ∀ e ∈ es, ∀ j ∈ e, ∃ p nm, rows[j]? = some (p, [.str "let", .str nm]) ∧ nm.length ≤ 1000
  hd : ∀ r ∈ rows, (∃ nm : Str, r.2 = [.str "use", .str nm] ∧ nm.length ≤ 1000) ∨ (∃ x t, r.2 = .str x :: t ∧ x ≠ "use")
  fst : S.firsts.length = rows.length
def meantK (rows : List (List Int × List PyData)) (es : List (List Nat)) (n : Nat) : List (Key × V) := (List.range n).filterMap fun i => match useAt rows es i with
  | some (some j) => some (.inl (i : Int), .int (j : Int))
  | _ => none
/-- the first row whose name is not seen -/
def Unseen (rows : List (List Int × List PyData)) (es : List (List Nat)) (i : Nat) : Prop := useAt rows es i = some none ∧ ∀ j < i, useAt rows es j ≠ some none
theorem meantK_succ (rows : List (List Int × List PyData)) (es : List (List Nat)) (n : Nat) : meantK rows es (n + 1) = meantK rows es n ++ (match useAt rows es n with
  | some (some j) => [(.inl (n : Int), .int (j : Int))]
  | _ => []) := by
  unfold meantK
  rw [List.range_succ, List.filterMap_append]
  congr 1
  rw [List.filterMap_cons, List.filterMap_nil]
  cases h : useAt rows es n with
  | none => rfl
  | some o => cases o <;> rfl
theorem meantK_keys {rows : List (List Int × List PyData)} {es : List (List Nat)} {n : Nat} {kv : Key × V} (h : kv ∈ meantK rows es n) : ∃ i < n, kv.1 = .inl (i : Int) := by
  unfold meantK at h
  obtain ⟨i, hi, e⟩ := List.mem_filterMap.mp h
  refine ⟨i, List.mem_range.mp hi, ?_⟩
  split at e
  · cases e
    rfl
  · cases e
theorem meantK_len {rows : List (List Int × List PyData)} {es : List (List Nat)} {n : Nat} : (meantK rows es n).length ≤ n := by
  have := List.length_filterMap_le (fun i => match useAt rows es i with
    | some (some j) => some ((.inl (i : Int) : Key), V.int (j : Int))
    | _ => none) (List.range n)
  rw [List.length_range] at this
  exact this
theorem meantK_put {rows : List (List Int × List PyData)} {es : List (List Nat)} {n j : Nat} (h : useAt rows es n = some (some j)) : putK (meantK rows es n) (.inl (n : Int)) (.int (j : Int)) = meantK rows es (n + 1) := by
  rw [meantK_succ, h]
  unfold putK
  have : ((meantK rows es n).any fun kv => decide (kv.1 = (.inl (n : Int) : Key))) = false := by
    rw [List.any_eq_false]
    intro kv hkv
    obtain ⟨i, hi, e⟩ := meantK_keys hkv
    rw [e, decide_eq_true_eq]
    intro z
    have z2 : (i : Int) = (n : Int) := Sum.inl.inj z
    omega
  rw [this]
  rfl
def spMeant (K : PySem.W.Frag) (C B : Addr) : Sp := fun vs H Q E => ∃ (a : Ad) (z : Str) (S : Sc) (rows : List (List Int × List PyData)) (es : List (List Nat)), vs = [.ref a.p] ∧ ScAt K C H a z S ∧ MeanOk S rows es ∧
  (∀ i H' d, Unseen rows es i → Same H H' → H' d = some (.xd [("told", .int (S.firsts.getD i 0))]) → E (.ref B) (some d) H') ∧
  ((∀ i < rows.length, useAt rows es i ≠ some none) → ∀ H' q, Same H H' → H q = none → H' q = some (.dK (meantK rows es rows.length)) → Q (.ref q) H')
section
variable {P : Program} {w : World} {K : PySem.W.Frag} {mg : Str → Option Value} {base : Heap}
theorem sc_meant : FnScope ["scan", "nearest", "meant", "at", "head", "let"] ["scan"] (defScope (top 25)) := ⟨rfl, rfl, rfl, by decide +kernel, rfl, by decide +kernel, by decide +kernel⟩
theorem cl_meant {C B fI : Addr} (T : All K mg) (W : ScC K mg C) (RV : Er K mg "NotVisible" B fI) (henum : mg "enumerate" = none) : ClX P w K mg base 3 "_meant" ["scan"] (spMeant K C B) := by
  obtain ⟨g, fd, D⟩ := T.dn 25 _ _ rfl
  refine D.clX (D.fn.okX sc_meant (fun vs H Q E h => ?_) (fun cdv A outer s H vs Q E hr h => ?_))
  · obtain ⟨a, z, S, rows, es, rfl, _⟩ := h
    rfl
  · obtain ⟨a, z, S, rows, es, rfl, At, ok, kE, kQ⟩ := h
    refine ⟨_, (pss_cons (ps_set (i := 1) sc_meant.nd rfl (Or.inl rfl) (pe_cl (cl_near T W henum) hr (by decide) (pa_cons (pv 0) pa_nil)))
      (pss_cons (ps_set (i := 2) sc_meant.nd rfl (Or.inl rfl) pe_dnewK)
      (pss_cons (ps_for (passes_of rfl) rfl (pi_enum rfl henum (pa_cons (pe_fld (pv 0) rfl) pa_nil)) (pg_tup (t := (gCons (gName 3) (gCons (gName 4) gNil))) rfl (pgs_cons (pg_name (i := 3) sc_meant.nd rfl (Or.inl rfl)) (pgs_cons (pg_name (i := 4) sc_meant.nd rfl (Or.inl rfl)) pgs_nil))) (pss_one (ps_if (pt_cmpR op_eq (pe_ix ix_tup (pv 4) pe_int (fun _ _ => rfl)) pe_str (nomark _)) (pss_cons (ps_set (i := 5) sc_meant.nd rfl (Or.inl rfl) (pe_ix ix_list (pv 1) (pv 3) (fun _ _ => rfl)))
      (pss_cons (ps_while (passes_of rfl) (PW.pt (pw_and (pt_cmpR op_notN (pv 5) pe_non (nomark _)) (pw_and1 (pt_cmpR op_ne (pe_ix ix_tup (pe_ix ix_list (pe_fld (pv 0) rfl) (pv 5) (fun _ _ => rfl)) pe_int (fun _ _ => rfl)) (pe_ix ix_tup (pv 4) pe_int (fun _ _ => rfl)) (nomark _))))) (pss_one (ps_set (i := 5) sc_meant.nd rfl (Or.inl rfl) (pe_ix ix_list (pv 1) (pv 5) (fun _ _ => rfl)))))
      (pss_cons (ps_if (pt_cmpR op_isN (pv 5) pe_non (nomark _)) (pss_one (ps_raise rfl (takes_of rfl rfl rfl rfl) (pmk_err RV hr (by decide) (pa_cons (pe_ix ix_list (pe_fld (pv 0) rfl) (pv 3) (fun _ _ => rfl)) pa_nil)))) pss_nil)
      (pss_one (ps_dput (hu_of hr) (pv 2) (pv 3) (pv 5) (by rfl)))))) pss_nil)))
      (pss_one (ps_ret (pv 2)))))), ?_⟩
    have few := ok.near.few
    refine ⟨_, rfl, a, z, S, rows, rfl, At, ok.near, fun J0 q s0 nq hq => ?_⟩
    intro m nm
    have sm := K0.same_upd (o := .dK []) nm
    have hm := @upd_same J0 m (.dK [])
    have s01 := s0.trans sm
    have hq1 := sm _ _ hq
    generalize upd J0 m (.dK []) = J1 at sm hm s01 hq1 ⊢
    have nHm : H m = none := by
      cases e : H m with
      | none => rfl
      | some o => rw [s0 _ _ e] at nm; cases nm
    have mq : m ≠ q := fun z => by rw [z, hq] at nm; cases nm
    obtain ⟨dx, hob⟩ := At.ob
    obtain ⟨vh, h2, d2⟩ := At.l2
    have lh : vh.length = rows.length := by rw [d2.len, List.length_map, ok.near.h, List.length_map]
    have d2' : DQs K H vh (rows.map fun r => .tuple r.2) := by
      have := d2.to (hidS_in _ _)
      rw [ok.near.h, List.map_map] at this
      exact this
    have fld0 : ∀ J', Same H J' → J' a.p = some (.ins C dx (scF a z S.pos)) := fun J' s => s _ _ hob
    rw [ok.out, List.map_map] at hq1
    refine ⟨_, rfl, a.p, C, dx, _, _, rfl, fld0 J1 s01, W.cl, W.n2, look2 _ _ _, a.a2, vh, rfl, SqL.of (s01 _ _ h2), ?_⟩
    refine for_it (walk_enum (K := K) (a := a.a2) (xs := vh)) (fun i σ J => i ≤ rows.length ∧ Same H J ∧ J q = some (.lst (es.map (optV ∘ (·.head?)))) ∧ J m = some (.dK (meantK rows es i)) ∧ (∀ j < i, useAt rows es j ≠ some none) ∧ ∃ z3 z4 z5, σ = [some (.ref a.p), some (.ref q), some (.ref m), z3, z4, z5]) ⟨Nat.zero_le _, s01, hq1, hm, fun j hj => (by omega), _, _, _, rfl⟩ (fun i σ J _ ⟨_, s, _⟩ => SqL.of (s _ _ h2)) ?_ ?_
    · rintro i x σ J2 J3 hi ⟨hle, sJ2, hq2, hm2, hall, z3, z4, z5, rfl⟩ ⟨TT, x0, y0, rfl, nT, rfl, e0, e1⟩
      rw [lh] at hi
      cases e0
      have er : rows[i]? = some rows[i] := List.getElem?_eq_getElem hi
      have hmem : rows[i] ∈ rows := List.getElem_mem hi
      generalize rows[i] = r at er hmem
      obtain ⟨y', ey, dy'⟩ := d2'.get (i := i) (d := .tuple r.2) (by rw [List.getElem?_map, er]; rfl)
      have e1' : vh[i]? = some y0 := e1
      rw [ey] at e1'
      cases e1'
      obtain ⟨ta, txs, rfl, hT0, hD0⟩ : ∃ ta txs, y0 = .ref ta ∧ SqT K H ta txs ∧ DQs K H txs r.2 := by
        cases dy' with
        | tup g5 g6 => exact ⟨_, _, rfl, g5, g6⟩
      have sT := K0.same_upd (o := .tup [V.int (i : Int), .ref ta]) nT
      have sH3 := sJ2.trans sT
      have hq3 := sT _ _ hq2
      have hm3 := sT _ _ hm2
      refine ⟨TT, _, rfl, .inl (.inl upd_same), rfl, _, _, rfl, _, _, rfl, rfl, ?_⟩
      generalize upd J2 TT (.tup [V.int (i : Int), .ref ta]) = J3 at sH3 hq3 hm3 ⊢
      rcases ok.hd r hmem with ⟨nm', eh, lnm⟩ | ⟨xx, tt, eh, hx⟩
      · rw [eh] at hD0
        obtain ⟨u1, hu1, du1⟩ := hD0.get (i := 0) rfl
        cases du1
        obtain ⟨u2, hu2, du2⟩ := hD0.get (i := 1) rfl
        cases du2
        have hua : useAt rows es i = some (findN rows (es.getD i []) nm') := by
          unfold useAt
          rw [er]
          obtain ⟨p0, h0⟩ := r
          cases eh
          rfl
        refine ⟨_, rfl, ta, txs, _, _, rfl, rfl, K0.seqT_same sH3 hT0, atI_nat hu1, rfl, _, rfl, ?_⟩
        rw [decide_eq_true rfl]
        have ees : es[i]? = some (es.getD i []) := by
          rw [List.getD_eq_getElem?_getD, List.getElem?_eq_getElem (by rw [ok.len]; exact hi)]
          rfl
        refine iteT ⟨_, rfl, _, rfl, q, _, _, optV ((es.getD i []).head?), rfl, rfl, SqL.of hq3, atI_nat (by rw [List.getElem?_map, ees]; rfl), ?_⟩
        have hE := ok.tail _ (List.mem_of_getElem? ees)
        have hEl := ok.lets _ (List.mem_of_getElem? ees)
        generalize es.getD i [] = E0 at hua hE hEl ⊢
        refine ⟨fun mm σ' H' => H' = J3 ∧ ∃ E', mm = E'.length ∧ (∃ pre, E0 = pre ++ E' ∧ ∀ j ∈ pre, letIs rows nm' j = false) ∧ σ' = [some (.ref a.p), some (.ref q), some (.ref m), some (.int (i : Int)), some (.ref ta), some (optV E'.head?)], ⟨E0.length, rfl, E0, rfl, ⟨[], rfl, fun j hj => (by cases hj)⟩, rfl⟩, ?_⟩
        rintro mm σ' H' ⟨rfl, E', rfl, ⟨pre, hpre, hno⟩, rfl⟩
        cases E' with
        | nil =>
          have hnone : findN rows E0 nm' = none := by
            unfold findN
            rw [List.find?_eq_none]
            intro j hj
            rw [hpre, List.append_nil] at hj
            rw [hno j hj]
            exact Bool.false_ne_true
          rw [hnone] at hua
          have hfs : (S.firsts.map V.int)[i]? = some (.int (S.firsts.getD i 0)) := by
            rw [List.getElem?_map, List.getD_eq_getElem?_getD, List.getElem?_eq_getElem (by rw [ok.fst]; exact hi)]
            rfl
          exact ⟨_, rfl, rfl, _, rfl, iteF (iteF ⟨_, rfl, rfl, _, rfl, iteT ⟨_, rfl, a.p, C, dx, _, _, rfl, fld0 _ sH3, W.cl, W.n3, look3 _ _ _, _, rfl, a.a3, _, _, .int (S.firsts.getD i 0), rfl, rfl, SqL.of (sH3 _ _ At.l3), atI_nat hfs, _, rfl, fun H2 d2 S2 h2 => kE i H2 d2 ⟨hua, hall⟩ (sH3.trans S2) h2⟩⟩)⟩
        | cons j t =>
          obtain ⟨pj, nmj, ej, lj⟩ := hEl j (by rw [hpre]; simp)
          obtain ⟨yj, eyj, dyj⟩ := d2'.get (i := j) (d := .tuple [.str "let", .str nmj]) (by rw [List.getElem?_map, ej]; rfl)
          obtain ⟨tj, tjs, rfl, hTj, hDj⟩ : ∃ tj tjs, yj = .ref tj ∧ SqT K H tj tjs ∧ DQs K H tjs [.str "let", .str nmj] := by
            cases dyj with
            | tup g5 g6 => exact ⟨_, _, rfl, g5, g6⟩
          obtain ⟨w2, hw2, dw2⟩ := hDj.get (i := 1) rfl
          cases dw2
          have hlet : letIs rows nm' j = decide (nmj = nm') := by
            unfold letIs
            rw [ej]
            show (("let" : Str) == "let" && nmj == nm') = _
            rw [show (("let" : Str) == "let") = true from by decide +kernel, Bool.true_and, Bool.eq_iff_iff]
            simp
          refine ⟨_, rfl, rfl, _, rfl, iteT ⟨_, rfl, a.p, C, dx, _, _, rfl, fld0 _ sH3, W.cl, W.n2, look2 _ _ _, _, rfl, a.a2, vh, _, _, rfl, rfl, SqL.of (sH3 _ _ h2), atI_nat eyj, tj, tjs, _, _, rfl, rfl, K0.seqT_same sH3 hTj, atI_nat hw2, _, rfl, ta, txs, _, _, rfl, rfl, K0.seqT_same sH3 hT0, atI_nat hu2, rfl, _, rfl, ?_⟩⟩
          rw [dec_str]
          by_cases cn : nmj = nm'
          · rw [decide_eq_true cn]
            have hsome : findN rows E0 nm' = some j := by
              unfold findN
              rw [hpre, List.find?_append, List.find?_eq_none.mpr (fun x hx => by rw [hno x hx]; exact Bool.false_ne_true), Option.none_or, List.find?_cons, hlet, decide_eq_true cn]
            rw [hsome] at hua
            have hp2 := meantK_put hua
            refine iteF ⟨_, rfl, rfl, _, rfl, iteF ⟨_, rfl, _, rfl, _, rfl, m, _, rfl, DPut.k (k := .inl (i : Int)) hm3 (by have := @meantK_len rows es i; rw [sizeLine_eq]; omega), hi, fun b u e => ?_, ?_, ?_, fun k hk => ?_, _, _, _, rfl⟩⟩
            · rw [upd_ne (ne_of_none e nHm)]
              exact sH3 _ _ e
            · rw [upd_ne (Ne.symm mq)]
              exact hq3
            · rw [upd_same, ← hp2]
              rfl
            · rcases Nat.lt_succ_iff_lt_or_eq.mp hk with hk | rfl
              · exact hall k hk
              · rw [hua]
                exact fun z => by cases z
          · rw [decide_eq_false cn]
            have ejt := hE pre j t hpre
            refine iteT ⟨fun σ' H'' => H'' = H' ∧ ∃ E', t.length = E'.length ∧ (∃ pre, E0 = pre ++ E' ∧ ∀ j ∈ pre, letIs rows nm' j = false) ∧ σ' = [some (.ref a.p), some (.ref q), some (.ref m), some (.int (i : Int)), some (.ref ta), some (optV E'.head?)], fun σ' H'' h => ⟨t.length, by simp, h⟩, ?_⟩
            refine ⟨_, rfl, _, rfl, q, _, _, optV t.head?, rfl, rfl, SqL.of hq3, atI_nat (by rw [List.getElem?_map, ejt]; rfl), rfl, t, rfl, ⟨pre ++ [j], by rw [hpre]; simp, fun x hx => ?_⟩, rfl⟩
            rcases List.mem_append.mp hx with hx | hx
            · exact hno x hx
            · rw [List.mem_singleton.mp hx, hlet, decide_eq_false cn]
      · rw [eh] at hD0
        obtain ⟨u1, hu1, du1⟩ := hD0.get (i := 0) rfl
        cases du1
        have hua : useAt rows es i = none := by
          unfold useAt
          rw [er]
          obtain ⟨p0, h0⟩ := r
          cases eh
          match tt with
          | [] => rfl
          | [.str nm] =>
            show (if (xx == "use") = true then _ else _) = _
            rw [if_neg (by simpa using hx)]
          | [.none] => rfl
          | [.bool _] => rfl
          | [.int _] => rfl
          | [.list _] => rfl
          | [.tuple _] => rfl
          | [.dict _] => rfl
          | _ :: _ :: _ => simp
        refine ⟨_, rfl, ta, txs, _, _, rfl, rfl, K0.seqT_same sH3 hT0, atI_nat hu1, rfl, _, rfl, ?_⟩
        rw [dec_str, decide_eq_false hx]
        refine iteF ⟨hi, sH3, hq3, ?_, fun j hj => ?_, _, _, _, rfl⟩
        · rw [meantK_succ, hua]
          show J3 m = some (.dK (meantK rows es i ++ []))
          rw [List.append_nil]
          exact hm3
        · rcases Nat.lt_succ_iff_lt_or_eq.mp hj with hj | rfl
          · exact hall j hj
          · rw [hua]
            exact fun z => by cases z
    · rintro σ J9 ⟨hle, s9, hq9, hm9, hall, z3, z4, z5, rfl⟩
      rw [lh] at hm9 hall
      exact ⟨_, rfl, kQ hall J9 m s9 nHm hm9⟩
end
end K1
set_option maxHeartbeats 4000000
/-! _law_rows -/
namespace K1
open PySem L2
theorem path_cat {K : PySem.W.Frag} {H : Hp} {v u : V} {l : List Int} {i : Int} {Q : VK} (h : DQ K H v (pathD l)) (g : DQ K H u (pathD [i])) (hl : l.length ≤ 1000) (k : ∀ H' z, Same H H' → DQ K H' z (pathD (l ++ [i])) → Q z H') : rCatA K v u H Q := by
  have g0 := g
  cases h with
  | @tup a xs _ h1 h2 =>
    cases g with
    | @tup b ys _ g1 g2 =>
      have l1 := h2.len
      have l2 := g2.len
      rw [List.length_map] at l1 l2
      refine ⟨a, b, xs, ys, rfl, rfl, h1, g1, by rw [sizeLine_eq, l2]; show _ + 1 ≤ _; omega, fun e => ?_, fun _ e => ?_, fun _ _ q nq => ?_⟩
      · subst e
        cases l with
        | nil => exact k H _ (Same.refl H) g0
        | cons _ _ => cases l1
      · subst e
        cases l2
      · have s1 := K0.same_upd (o := .tup (xs ++ ys)) nq
        refine k _ _ s1 (.tup (.inl (.inl upd_same)) ?_)
        rw [List.map_append]
        exact (h2.to s1).app (g2.to s1)

mutual
/-- an item's rows: path and item -/
def It.ris (p : List Int) : It → List (List Int × It)
  | .leaf h w => [(p, .leaf h w)]
  | .node h o b l => (p, .node h o b l) :: risL p 0 l
def risL (p : List Int) (k : Nat) : List It → List (List Int × It)
  | [] => []
  | x :: r => x.ris (p ++ [(k : Int)]) ++ risL p (k + 1) r
end
def rowX (r : List Int × It) : PyData := .tuple [pathD r.1, r.2.dat]
theorem risL_snoc (x : It) : ∀ (l : List It) (p : List Int) (k : Nat), risL p k (l ++ [x]) = risL p k l ++ x.ris (p ++ [((k + l.length : Nat) : Int)])
  | [], p, k => by
    rw [List.nil_append, risL, risL, risL]
    simp
  | y :: r, p, k => by
    rw [List.cons_append, risL, risL, risL_snoc x r, List.append_assoc]
    have e1 : k + 1 + r.length = k + (y :: r).length := by rw [List.length_cons]; omega
    rw [e1]
mutual
theorem It.ris_len : ∀ (x : It) (p : List Int) (a : Nat), (x.ris p).length = (x.rows p a).length
  | .leaf _ _, p, a => by rw [It.ris, It.rows]; rfl
  | .node _ _ _ l, p, a => by rw [It.ris, It.rows, List.length_cons, List.length_cons, risL_len l]
theorem risL_len : ∀ (l : List It) (p : List Int) (k a : Nat), (risL p k l).length = (rowsL p k a l).length
  | [], p, k, a => by rw [risL, rowsL]; rfl
  | x :: r, p, k, a => by rw [risL, rowsL, List.length_append, List.length_append, It.ris_len x _ a, risL_len r]
end
theorem ris_few {n : Nat} (hn : n ≤ 2) {l : List It} (h : ∀ x ∈ l, Dr n x) (p : List Int) (k : Nat) : (risL p k l).length ≤ l.length * 13 := by
  rw [risL_len l p k 0]
  refine rowsL_len fun y hy p a => Nat.le_trans ((h y hy).rows p a) ?_
  match n, hn with
  | 0, _ => decide
  | 1, _ => decide
  | 2, _ => decide
theorem LfK.kindIn {h : List PyData} {w : List Nat} (k : LfK h w) : ∃ kn r, h = .str kn :: r ∧ inV (.str kn) [.str "block", .str "sum", .str "product", .str "let"] = false := by
  cases k with
  | num m _ => exact ⟨_, _, rfl, by decide +kernel⟩
  | lost => exact ⟨_, _, rfl, by decide +kernel⟩
  | use w _ => exact ⟨_, _, rfl, by decide +kernel⟩
theorem NdK.kindIn {h : List PyData} {o : List Nat} {b : Bool} (k : NdK h o b) : ∃ kn r, h = .str kn :: r ∧ inV (.str kn) [.str "block", .str "sum", .str "product", .str "let"] = true := by
  cases k with
  | block => exact ⟨_, _, rfl, by decide +kernel⟩
  | sum => exact ⟨_, _, rfl, by decide +kernel⟩
  | product => exact ⟨_, _, rfl, by decide +kernel⟩
  | let_ w _ => exact ⟨_, _, rfl, by decide +kernel⟩
theorem Flat.pathX (p : List Int) : Flat (pathD p) := .tup (Flats.of fun e he => by
  obtain ⟨i, _, rfl⟩ := List.mem_map.mp he
  exact .int i)
theorem rows_more {K : PySem.W.Frag} {q t : Addr} {H' : Hp} {vs : List V} {rs : List PyData} {p : List Int} {x : It} {n : Nat} {ov u : V} (hx : Dr n x) (hq : H' q = some (.lst vs)) (dv : DQs K (hid q H') vs rs) (do_ : DQ K H' ov (pathD p)) (du : DQ K H' u x.dat) (nt : H' t = none) :
    DQs K (hid q (upd (upd H' t (.tup [ov, u])) q (.lst (vs ++ [.ref t])))) (vs ++ [.ref t]) (rs ++ [rowX (p, x)]) := by
  have tq : t ≠ q := fun e => by rw [e, hq] at nt; cases nt
  have s1 := K0.same_upd (o := .tup [ov, u]) nt
  have hq1 : (upd H' t (.tup [ov, u])) q = some (.lst vs) := by rw [upd_ne (Ne.symm tq)]; exact hq
  rw [hid_put]
  refine (dv.to (hid_mono s1)).app (.cons (.tup (.inl (.inl (by rw [hid_ne tq, upd_same]))) (.cons ?_ (.cons ?_ .nil))) .nil)
  · exact Flat.hide hq1 _ _ (Flat.pathX _) (do_.to s1)
  · exact Flat.hide hq1 _ _ hx.flat (du.to s1)
abbrev NLr : List Str := ["_law_items", "_law_path", "_law_rows_here", "_law_at"]
def spLR (K : PySem.W.Frag) (n : Nat) : Sp := fun vs H Q _ => ∃ (v pw : V) (pth : List Int) (l : List It), vs = [v, pw] ∧ l.length ≤ 4 ∧ (∀ x ∈ l, Dr n x) ∧ pth.length + n ≤ 10 ∧ DQ K H v (.tuple (datL l)) ∧ DQ K H pw (pathD pth) ∧
  ∀ H' q vs, Same H H' → H q = none → H' q = some (.lst vs) → DQs K (hid q H') vs ((risL pth 0 l).map rowX) → Q (.ref q) H'
def PvR (K : PySem.W.Frag) (H : Hp) (v pw : V) (pth : List Int) (l : List It) : Nat → St → Hp → Prop := fun i σ H' => i ≤ l.length ∧ Same H H' ∧ ∃ (q : Addr) (vs : List V) (o3 : Option V),
  σ = [some v, some pw, some (.ref q), o3] ∧ H q = none ∧ H' q = some (.lst vs) ∧ DQs K (hid q H') vs ((risL pth 0 (l.take i)).map rowX)
section
variable {P : Program} {w : World} {K : PySem.W.Frag} {mg : Str → Option Value} {base : Heap}
theorem sc_lrows : FnScope NLr ["_law_items", "_law_path"] (defScope (top 35)) := ⟨rfl, rfl, rfl, by decide +kernel, rfl, by decide +kernel, by decide +kernel⟩
theorem cl_lrows (T : All K mg) (hrange : mg "range" = none) : ∀ n : Nat, n ≤ 2 → ClG P w K mg base (n + 1) "_law_rows" ["_law_items", "_law_path"] (spLR K n) := by
  obtain ⟨g, fd, D⟩ := T.dn 35 _ _ rfl
  intro n
  induction n with
  | zero =>
    intro _
    refine ⟨g, fd, okG D.fn sc_lrows (fun vs H Q E h => ?_) (fun cdv A outer s H vs Q E hgd hr h => ?_), D.mg, D.fn.kp, D.bn⟩
    · obtain ⟨v, pw, pth, l, rfl, _⟩ := h
      rfl
    · obtain ⟨v, pw, pth, l, rfl, hl, hc, hpl, hd, hp, k⟩ := h
      have hrn : Room 0 _ := hr
      have hn3 : 0 ≤ 2 := by decide
      refine ⟨_, (pss_cons (ps_set (i := 2) sc_lrows.nd rfl (Or.inl rfl) (pe_lst pa_nil))
      (pss_cons (ps_for PassesOwn.never rfl (pi_range1 rfl hrange (pa_cons (pe_callB call_len_seq (by rfl) T.bi.len PySem.boot_len (pa_cons (pv 0) pa_nil)) pa_nil)) (pg_name (i := 3) sc_lrows.nd rfl (Or.inl rfl)) (pss_cons (ps_expr (pe_bm PySem.F.plainAttrs_list PySem.F.slot_list_append PySem.F.type_list_append mt_append (pv 2) (pa_cons (pe_tup (pa_cons (pe_op op_catA (pv 1) (pe_tup (pa_cons (pv 3) pa_nil))) (pa_cons (pe_ix ix_tup (pv 0) (pv 3) (fun _ _ => rfl)) pa_nil))) pa_nil)))
      (pss_one (ps_if (pt_cmpR op_in_seq (pe_ix ix_tup (pe_ix ix_tup (pv 0) (pv 3) (fun _ _ => rfl)) pe_int (fun _ _ => rfl)) (pe_tup (pa_cons pe_str (pa_cons pe_str (pa_cons pe_str (pa_cons pe_str pa_nil))))) rfl) (pss_one ps_never) pss_nil))))
      (pss_one (ps_ret (pv 2))))), ?_⟩
      obtain ⟨ta, txs, rfl, hT, hD⟩ : ∃ ta txs, v = .ref ta ∧ SqT K H ta txs ∧ DQs K H txs (datL l) := by
        cases hd with
        | tup h1 h2 => exact ⟨_, _, rfl, h1, h2⟩
      have ltx : txs.length = l.length := by rw [hD.len, datL_map, List.length_map]
      refine ⟨Nat.zero_le _, fun q0 nq0 => ?_⟩
      have s0 := K0.same_upd (o := .lst []) nq0
      refine ⟨_, rfl, ta, txs, rfl, .inr (K0.seqT_same s0 hT), _, rfl, by omega, by omega, ?_⟩
      rw [Int.toNat_natCast, ltx]
      refine for_range (lo := 0) (n := l.length) (PvR K H (.ref ta) pw pth l) ⟨Nat.zero_le _, s0, q0, [], _, rfl, nq0, upd_same, by rw [List.take_zero, risL]; exact .nil⟩ ?_ ?_
      · rintro i σ H1 hi ⟨hle, s1, q, vs, o3, rfl, nq, hq, dv⟩
        have ei : l[i]? = some l[i] := List.getElem?_eq_getElem hi
        have hdr := hc l[i] (List.getElem_mem hi)
        generalize l[i] = x at ei hdr
        have htk : l.take (i + 1) = l.take i ++ [x] := by rw [List.take_succ, ei]; rfl
        have lti : (l.take i).length = i := by rw [List.length_take]; omega
        have htr : (risL pth 0 (l.take (i + 1))) = risL pth 0 (l.take i) ++ x.ris (pth ++ [(i : Int)]) := by
          rw [htk, risL_snoc, lti, Nat.zero_add]
        obtain ⟨u, hu, du⟩ := hD.get (i := i) (d := x.dat) (by rw [datL_map, List.getElem?_map, ei]; rfl)
        have lvs : vs.length ≤ 52 := by
          rw [dv.len, List.length_map]
          have h1 := ris_few hn3 (l := l.take i) (fun y hy => hc y (List.mem_of_mem_take hy)) pth 0
          have h2 : (l.take i).length * 13 ≤ 4 * 13 := Nat.mul_le_mul_right _ (by omega)
          omega
        refine ⟨_, rfl, .inl ⟨rfl, _, SqL.of hq⟩, _, rfl, _, rfl, sizeL (m := 1) (Nat.le_refl _), fun t nt => ?_⟩
        have s2 := K0.same_upd (o := .tup [V.int (0 + (i : Int))]) nt
        rw [Int.zero_add] at s2 ⊢
        have hq2 : (upd H1 t (.tup [V.int (i : Int)])) q = some (.lst vs) := s2 _ _ hq
        have dv2 := dv.to (hid_mono (p := q) s2)
        have s12 := s1.trans s2
        have dT : DQ K (upd H1 t (.tup [V.int (i : Int)])) (.ref t) (pathD [(i : Int)]) := .tup (.inl (.inl upd_same)) (.cons (.int _) .nil)
        generalize upd H1 t (.tup [V.int (i : Int)]) = H2 at hq2 dv2 s12 dT ⊢
        refine path_cat (hp.to s12) dT (by omega) fun H3 ov s3 dov => ?_
        have hq3 := s3 _ _ hq2
        have dv3 := dv2.to (hid_mono (p := q) s3)
        have s13 := s12.trans s3
        refine ⟨_, rfl, _, rfl, ta, txs, _, u, rfl, rfl, K0.seqT_same s13 hT, atI_nat hu, sizeL (m := 2) (Nat.le_refl 2), fun t2 nt2 => ⟨q, vs, _, rfl, rfl, (upd_ne (ne_of_none hq3 nt2)).trans hq3, by rw [sizeLine_eq]; omega, ?_⟩⟩
        have dv5 := rows_more (rs := (risL pth 0 (l.take i)).map rowX) hdr hq3 dv3 dov (du.to s13) nt2
        have s15 : Same H (upd (upd H3 t2 (.tup [ov, u])) q (.lst (vs ++ [.ref t2]))) := fun b w e => by
          rw [upd_ne (ne_of_none e nq), upd_ne (ne_of_none (s13 _ _ e) nt2)]
          exact s13 _ _ e
        have hq5 := @upd_same (upd H3 t2 (.tup [ov, u])) q (.lst (vs ++ [.ref t2]))
        generalize upd (upd H3 t2 (.tup [ov, u])) q (.lst (vs ++ [.ref t2])) = H5 at s15 hq5 dv5 ⊢
        have du5 := du.to s15
        have fin : ∀ (H6 : Hp) (q' : Addr) (vs' : List V), Same H H6 → H q' = none → H6 q' = some (.lst vs') → DQs K (hid q' H6) vs' ((risL pth 0 (l.take (i + 1))).map rowX) → PvR K H (.ref ta) pw pth l (i + 1) [some (.ref ta), some pw, some (.ref q'), some (.int (i : Int))] H6 :=
          fun H6 q' vs' h1 h2 h3 h4 => ⟨hi, h1, q', vs', some (.int (i : Int)), rfl, h2, h3, h4⟩
        cases hdr with
        | @leaf _ h wd hk =>
          rw [It.dat] at du5
          obtain ⟨kn, kr, eh, hin⟩ := hk.kindIn
          rw [eh] at du5
          obtain ⟨a1, xs1, u1, rfl, hT1, hi1, hu1⟩ := du5.item (i := 0) rfl
          cases hu1
          refine ⟨_, rfl, _, rfl, ta, txs, _, _, rfl, rfl, K0.seqT_same s15 hT, atI_nat hu, a1, xs1, _, _, rfl, rfl, hT1, hi1, sizeL (m := 4) (Nat.le_refl _), fun t3 nt3 => ⟨t3, _, rfl, .inr (.inl (.inl upd_same)), rfl, rfl, _, rfl, ?_⟩⟩
          have s6 := K0.same_upd (o := .tup [V.str "block", V.str "sum", V.str "product", V.str "let"]) nt3
          rw [hin]
          refine iteF (fin _ q _ (s15.trans s6) nq (s6 _ _ hq5) ?_)
          rw [htr, List.map_append, It.ris]
          exact dv5.to (hid_mono s6)
      · rintro σ H1 ⟨_, s1, q, vs, o3, rfl, nq, hq, dv⟩
        rw [List.take_length] at dv
        exact ⟨_, rfl, k H1 q vs s1 nq hq dv⟩
  | succ n ih =>
    intro hn3
    have IH := ih (by omega)
    refine ⟨g, fd, okG D.fn sc_lrows (fun vs H Q E h => ?_) (fun cdv A outer s H vs Q E hgd hr h => ?_), D.mg, D.fn.kp, D.bn⟩
    · obtain ⟨v, pw, pth, l, rfl, _⟩ := h
      rfl
    · obtain ⟨v, pw, pth, l, rfl, hl, hc, hpl, hd, hp, k⟩ := h
      have hrn : Room (n + 1) _ := hr
      refine ⟨_, (pss_cons (ps_set (i := 2) sc_lrows.nd rfl (Or.inl rfl) (pe_lst pa_nil))
      (pss_cons (ps_for PassesOwn.never rfl (pi_range1 rfl hrange (pa_cons (pe_callB call_len_seq (by rfl) T.bi.len PySem.boot_len (pa_cons (pv 0) pa_nil)) pa_nil)) (pg_name (i := 3) sc_lrows.nd rfl (Or.inl rfl)) (pss_cons (ps_expr (pe_bm PySem.F.plainAttrs_list PySem.F.slot_list_append PySem.F.type_list_append mt_append (pv 2) (pa_cons (pe_tup (pa_cons (pe_op op_catA (pv 1) (pe_tup (pa_cons (pv 3) pa_nil))) (pa_cons (pe_ix ix_tup (pv 0) (pv 3) (fun _ _ => rfl)) pa_nil))) pa_nil)))
      (pss_one (ps_if (pt_cmpR op_in_seq (pe_ix ix_tup (pe_ix ix_tup (pv 0) (pv 3) (fun _ _ => rfl)) pe_int (fun _ _ => rfl)) (pe_tup (pa_cons pe_str (pa_cons pe_str (pa_cons pe_str (pa_cons pe_str pa_nil))))) rfl) (pss_one (ps_set (i := 2) sc_lrows.nd rfl (Or.inl rfl) (pe_op op_cat (pv 2) (pe_clG IH hgd hrn (Nat.le_refl _) (pa_cons (pe_ix ix_tup (pe_ix ix_tup (pv 0) (pv 3) (fun _ _ => rfl)) (pe_un un_neg pe_int) (fun _ _ => rfl)) (pa_cons (pe_op op_catA (pv 1) (pe_tup (pa_cons (pv 3) pa_nil))) pa_nil)))))) pss_nil))))
      (pss_one (ps_ret (pv 2))))), ?_⟩
      obtain ⟨ta, txs, rfl, hT, hD⟩ : ∃ ta txs, v = .ref ta ∧ SqT K H ta txs ∧ DQs K H txs (datL l) := by
        cases hd with
        | tup h1 h2 => exact ⟨_, _, rfl, h1, h2⟩
      have ltx : txs.length = l.length := by rw [hD.len, datL_map, List.length_map]
      refine ⟨Nat.zero_le _, fun q0 nq0 => ?_⟩
      have s0 := K0.same_upd (o := .lst []) nq0
      refine ⟨_, rfl, ta, txs, rfl, .inr (K0.seqT_same s0 hT), _, rfl, by omega, by omega, ?_⟩
      rw [Int.toNat_natCast, ltx]
      refine for_range (lo := 0) (n := l.length) (PvR K H (.ref ta) pw pth l) ⟨Nat.zero_le _, s0, q0, [], _, rfl, nq0, upd_same, by rw [List.take_zero, risL]; exact .nil⟩ ?_ ?_
      · rintro i σ H1 hi ⟨hle, s1, q, vs, o3, rfl, nq, hq, dv⟩
        have ei : l[i]? = some l[i] := List.getElem?_eq_getElem hi
        have hdr := hc l[i] (List.getElem_mem hi)
        generalize l[i] = x at ei hdr
        have htk : l.take (i + 1) = l.take i ++ [x] := by rw [List.take_succ, ei]; rfl
        have lti : (l.take i).length = i := by rw [List.length_take]; omega
        have htr : (risL pth 0 (l.take (i + 1))) = risL pth 0 (l.take i) ++ x.ris (pth ++ [(i : Int)]) := by
          rw [htk, risL_snoc, lti, Nat.zero_add]
        obtain ⟨u, hu, du⟩ := hD.get (i := i) (d := x.dat) (by rw [datL_map, List.getElem?_map, ei]; rfl)
        have lvs : vs.length ≤ 52 := by
          rw [dv.len, List.length_map]
          have h1 := ris_few hn3 (l := l.take i) (fun y hy => hc y (List.mem_of_mem_take hy)) pth 0
          have h2 : (l.take i).length * 13 ≤ 4 * 13 := Nat.mul_le_mul_right _ (by omega)
          omega
        refine ⟨_, rfl, .inl ⟨rfl, _, SqL.of hq⟩, _, rfl, _, rfl, sizeL (m := 1) (Nat.le_refl _), fun t nt => ?_⟩
        have s2 := K0.same_upd (o := .tup [V.int (0 + (i : Int))]) nt
        rw [Int.zero_add] at s2 ⊢
        have hq2 : (upd H1 t (.tup [V.int (i : Int)])) q = some (.lst vs) := s2 _ _ hq
        have dv2 := dv.to (hid_mono (p := q) s2)
        have s12 := s1.trans s2
        have dT : DQ K (upd H1 t (.tup [V.int (i : Int)])) (.ref t) (pathD [(i : Int)]) := .tup (.inl (.inl upd_same)) (.cons (.int _) .nil)
        generalize upd H1 t (.tup [V.int (i : Int)]) = H2 at hq2 dv2 s12 dT ⊢
        refine path_cat (hp.to s12) dT (by omega) fun H3 ov s3 dov => ?_
        have hq3 := s3 _ _ hq2
        have dv3 := dv2.to (hid_mono (p := q) s3)
        have s13 := s12.trans s3
        refine ⟨_, rfl, _, rfl, ta, txs, _, u, rfl, rfl, K0.seqT_same s13 hT, atI_nat hu, sizeL (m := 2) (Nat.le_refl 2), fun t2 nt2 => ⟨q, vs, _, rfl, rfl, (upd_ne (ne_of_none hq3 nt2)).trans hq3, by rw [sizeLine_eq]; omega, ?_⟩⟩
        have dv5 := rows_more (rs := (risL pth 0 (l.take i)).map rowX) hdr hq3 dv3 dov (du.to s13) nt2
        have s15 : Same H (upd (upd H3 t2 (.tup [ov, u])) q (.lst (vs ++ [.ref t2]))) := fun b w e => by
          rw [upd_ne (ne_of_none e nq), upd_ne (ne_of_none (s13 _ _ e) nt2)]
          exact s13 _ _ e
        have hq5 := @upd_same (upd H3 t2 (.tup [ov, u])) q (.lst (vs ++ [.ref t2]))
        generalize upd (upd H3 t2 (.tup [ov, u])) q (.lst (vs ++ [.ref t2])) = H5 at s15 hq5 dv5 ⊢
        have du5 := du.to s15
        have fin : ∀ (H6 : Hp) (q' : Addr) (vs' : List V), Same H H6 → H q' = none → H6 q' = some (.lst vs') → DQs K (hid q' H6) vs' ((risL pth 0 (l.take (i + 1))).map rowX) → PvR K H (.ref ta) pw pth l (i + 1) [some (.ref ta), some pw, some (.ref q'), some (.int (i : Int))] H6 :=
          fun H6 q' vs' h1 h2 h3 h4 => ⟨hi, h1, q', vs', some (.int (i : Int)), rfl, h2, h3, h4⟩
        cases hdr with
        | @leaf _ h wd hk =>
          rw [It.dat] at du5
          obtain ⟨kn, kr, eh, hin⟩ := hk.kindIn
          rw [eh] at du5
          obtain ⟨a1, xs1, u1, rfl, hT1, hi1, hu1⟩ := du5.item (i := 0) rfl
          cases hu1
          refine ⟨_, rfl, _, rfl, ta, txs, _, _, rfl, rfl, K0.seqT_same s15 hT, atI_nat hu, a1, xs1, _, _, rfl, rfl, hT1, hi1, sizeL (m := 4) (Nat.le_refl _), fun t3 nt3 => ⟨t3, _, rfl, .inr (.inl (.inl upd_same)), rfl, rfl, _, rfl, ?_⟩⟩
          have s6 := K0.same_upd (o := .tup [V.str "block", V.str "sum", V.str "product", V.str "let"]) nt3
          rw [hin]
          refine iteF (fin _ q _ (s15.trans s6) nq (s6 _ _ hq5) ?_)
          rw [htr, List.map_append, It.ris]
          exact dv5.to (hid_mono s6)
        | @node _ h o b lc hk hlc hcc =>
          rw [It.dat] at du5
          obtain ⟨kn, kr, eh, hin⟩ := hk.kindIn
          have hlen2 : h.length ≤ 2 := hk.kind.choose_spec.choose_spec.2.2.2.2
          have du5' := du5
          rw [eh] at du5
          obtain ⟨a1, xs1, u1, rfl, hT1, hi1, hu1⟩ := du5.item (i := 0) rfl
          cases hu1
          refine ⟨_, rfl, _, rfl, ta, txs, _, _, rfl, rfl, K0.seqT_same s15 hT, atI_nat hu, a1, xs1, _, _, rfl, rfl, hT1, hi1, sizeL (m := 4) (Nat.le_refl _), fun t3 nt3 => ⟨t3, _, rfl, .inr (.inl (.inl upd_same)), rfl, rfl, _, rfl, ?_⟩⟩
          have s6 := K0.same_upd (o := .tup [V.str "block", V.str "sum", V.str "product", V.str "let"]) nt3
          rw [hin]
          have s16 := s15.trans s6
          have hq6 := s6 _ _ hq5
          have dv6 := dv5.to (hid_mono (p := q) s6)
          have du6 := du5'.to s6
          generalize upd H5 t3 (.tup [V.str "block", V.str "sum", V.str "product", V.str "let"]) = H6 at s16 hq6 dv6 du6 ⊢
          obtain ⟨a8, xs8, u8, ea8, hT8, hi8, hu8⟩ := du6.last (by omega)
          cases ea8
          refine iteT ⟨_, rfl, _, rfl, _, rfl, ta, txs, _, _, rfl, rfl, K0.seqT_same s16 hT, atI_nat hu, 1, rfl, a1, xs8, _, _, rfl, rfl, hT8, hi8, ?_⟩
          refine ⟨_, rfl, _, rfl, sizeL (m := 1) (Nat.le_refl _), fun t6 nt6 => ?_⟩
          have s7 := K0.same_upd (o := .tup [V.int (i : Int)]) nt6
          have s17 := s16.trans s7
          have hq7 := s7 _ _ hq6
          have dv7 := dv6.to (hid_mono (p := q) s7)
          have dT7 : DQ K (upd H6 t6 (.tup [V.int (i : Int)])) (.ref t6) (pathD [(i : Int)]) := .tup (.inl (.inl upd_same)) (.cons (.int _) .nil)
          have hu8' := hu8.to s7
          generalize upd H6 t6 (.tup [V.int (i : Int)]) = H7 at s17 hq7 dv7 dT7 hu8' ⊢
          refine path_cat (hp.to s17) dT7 (by omega) fun H8 ov8 s8 dov8 => ?_
          have hq8 := s8 _ _ hq7
          have dv8 := dv7.to (hid_mono (p := q) s8)
          have s18 := s17.trans s8
          refine ⟨u8, ov8, pth ++ [(i : Int)], lc, rfl, Nat.le_trans hlc (by decide), hcc, by rw [List.length_append]; show pth.length + 1 + n ≤ 10; omega, hu8'.to s8, dov8, fun H9 q9 zs s9 nq9 hq9 dz => ?_⟩
          have hq99 := s9 _ _ hq8
          have lzs : zs.length ≤ 3 * 13 := by
            rw [dz.len, List.length_map]
            exact Nat.le_trans (ris_few (by omega) hcc _ _) (Nat.mul_le_mul_right _ hlc)
          refine ⟨q, q9, vs ++ [.ref t2], zs, rfl, rfl, hq99, hq9, by rw [sizeLine_eq, List.length_append, List.length_singleton]; omega, fun s' ns => ?_⟩
          have s9' : Same H9 (hid s' (upd H9 s' (.lst (vs ++ [.ref t2] ++ zs)))) := fun b u e => by
            rw [hid_ne (ne_of_none e ns), upd_ne (ne_of_none e ns)]
            exact e
          have s19 := s18.trans s9
          have dd := (dv8.to (((hid_mono (p := q) s9).trans fun b u e => (hid_at e).2).trans s9')).app (dz.to (Same.trans (fun b u e => (hid_at e).2) s9'))
          refine fin _ s' _ (s19.trans (K0.same_upd ns)) (by
            cases e : H s' with
            | none => rfl
            | some u =>
              rw [s19 _ _ e] at ns
              cases ns) upd_same ?_
          have er : (risL pth 0 (l.take (i + 1))).map rowX = (risL pth 0 (l.take i)).map rowX ++ [rowX (pth ++ [(i : Int)], It.node h o b lc)] ++ (risL (pth ++ [(i : Int)]) 0 lc).map rowX := by
            rw [htr, It.ris, List.map_append, List.map_cons, List.append_assoc]
            rfl
          rw [er]
          exact dd
      · rintro σ H1 ⟨_, s1, q, vs, o3, rfl, nq, hq, dv⟩
        rw [List.take_length] at dv
        exact ⟨_, rfl, k H1 q vs s1 nq hq dv⟩
end
end K1
set_option maxHeartbeats 4000000
/-! a drawn text's tree is such that _meant may read it -/
namespace K1
open PySem L2
def LetAt (rows : List (List Int × List PyData)) (j : Nat) : Prop := ∃ p nm, rows[j]? = some (p, [.str "let", .str nm]) ∧ nm.length ≤ 1000
theorem NdK.let' {h : List PyData} {o : List Nat} {b : Bool} (k : NdK h o b) (e : letH h = true) : ∃ nm : Str, h = [.str "let", .str nm] ∧ nm.length ≤ 1000 := by
  cases k with
  | block => exact absurd e (by decide +kernel)
  | sum => exact absurd e (by decide +kernel)
  | product => exact absurd e (by decide +kernel)
  | let_ w hw => exact ⟨_, rfl, by rw [sO_len]; have := (name_len hw).2.1; omega⟩
theorem LfK.let' {h : List PyData} {w : List Nat} (k : LfK h w) : letH h = false := by
  cases k with
  | num m _ => show (("number" : Str) == "let") = false; decide +kernel
  | lost => decide +kernel
  | use w _ => show (("use" : Str) == "let") = false; decide +kernel
def LetsI (rows : List (List Int × List PyData)) (x : It) : Prop := ∀ (E : List Nat) (a : Nat) (p : List Int), (∀ j ∈ E, LetAt rows j) → (∀ i, i < x.size → rows[a + i]? = (x.ph p)[i]?) → (∀ e ∈ x.envs E a, ∀ j ∈ e, LetAt rows j) ∧ (isLetI x = true → LetAt rows a)
theorem lets_list {rows : List (List Int × List PyData)} : ∀ {l : List It}, (∀ x ∈ l, LetsI rows x) → ∀ (E : List Nat) (a k : Nat) (p : List Int), (∀ j ∈ E, LetAt rows j) → (∀ i, i < sizeLs l → rows[a + i]? = (phL p k l)[i]?) → ∀ e ∈ envsL E a l, ∀ j ∈ e, LetAt rows j
  | [], _, E, a, k, p, _, _, e, he => by rw [envsL] at he; cases he
  | x :: l, hx, E, a, k, p, hE, hi, e, he => by
    rw [envsL] at he
    rw [phL, sizeLs] at hi
    have hx0 : ∀ i, i < x.size → rows[a + i]? = (x.ph (p ++ [(k : Int)]))[i]? := fun i h => by
      rw [hi i (by omega), List.getElem?_append_left (by rw [It.ph_len]; exact h)]
    obtain ⟨h1, h2⟩ := hx x List.mem_cons_self E a _ hE hx0
    rcases List.mem_append.mp he with he | he
    · exact h1 e he
    · refine lets_list (fun y hy => hx y (List.mem_cons_of_mem _ hy)) _ _ (k + 1) p (fun j hj => ?_) (fun i h => ?_) e he
      · unfold push at hj
        split at hj
        · rename_i q
          rcases List.mem_cons.mp hj with rfl | hj
          · exact h2 q
          · exact hE j hj
        · exact hE j hj
      · have := hi (x.size + i) (by omega)
        rw [← Nat.add_assoc] at this
        rw [this, List.getElem?_append_right (by rw [It.ph_len]; omega), It.ph_len]
        congr 1
        omega
theorem lets_item {rows : List (List Int × List PyData)} {n : Nat} {x : It} (d : Dr n x) : LetsI rows x := by
  induction d with
  | @leaf n h w k =>
    intro E a p hE hi
    refine ⟨fun e he => ?_, fun q => ?_⟩
    · rw [It.envs] at he
      rw [List.mem_singleton.mp he]
      exact hE
    · have q' : letH h = true := q
      rw [k.let'] at q'
      cases q'
  | @node n h o b l k hl hc ih =>
    intro E a p hE hi
    rw [It.ph, It.size] at hi
    refine ⟨fun e he => ?_, fun q => ?_⟩
    · rw [It.envs] at he
      rcases List.mem_cons.mp he with rfl | he
      · exact hE
      · refine lets_list ih E (a + 1) 0 p hE (fun i h' => ?_) e he
        have := hi (1 + i) (by omega)
        rw [← Nat.add_assoc] at this
        rw [this, Nat.add_comm 1 i, List.getElem?_cons_succ]
    · obtain ⟨nm, e, ln⟩ := k.let' q
      have := hi 0 (by omega)
      rw [Nat.add_zero] at this
      exact ⟨p, nm, by rw [this, e]; rfl, ln⟩
theorem Dr.hi {n : Nat} {x : It} (d : Dr n x) : HI x := by
  induction d with
  | leaf k => exact .leaf (by
      cases k with
      | num m _ => exact hold_num _
      | lost => decide +kernel
      | use w _ => show ((("use" : Str) == "block") || (("use" : Str) == "let") || (("use" : Str) == "sum") || (("use" : Str) == "product")) = false; decide +kernel)
  | node k _ _ ih => exact .node k.ok.yes ih
theorem phL_all {Q : List Int × List PyData → Prop} {l : List It} (h : ∀ x ∈ l, ∀ p, p ≠ [] → ∀ r ∈ x.ph p, Q r) : ∀ (p : List Int) (k : Nat), ∀ r ∈ phL p k l, Q r := by
  induction l with
  | nil => intro p k r hr; rw [phL] at hr; cases hr
  | cons x t ih =>
    intro p k r hr
    rw [phL] at hr
    rcases List.mem_append.mp hr with hr | hr
    · exact h x List.mem_cons_self _ (by simp) r hr
    · exact ih (fun y hy => h y (List.mem_cons_of_mem _ hy)) p (k + 1) r hr
/-- what a drawn head is -/
def HdD (h : List PyData) : Prop := (∃ x t, h = .str x :: t ∧ letH h = decide (x = ("let" : Str))) ∧ ((∃ nm : Str, h = [.str "use", .str nm] ∧ nm.length ≤ 1000) ∨ ∃ x t, h = .str x :: t ∧ x ≠ "use")
theorem LfK.hdD {h : List PyData} {w : List Nat} (k : LfK h w) : HdD h := by
  have hl := k.let'
  cases k with
  | num m _ => exact ⟨⟨_, _, rfl, by rw [hl]; decide +kernel⟩, .inr ⟨_, _, rfl, by decide +kernel⟩⟩
  | lost => exact ⟨⟨_, _, rfl, by rw [hl]; decide +kernel⟩, .inr ⟨_, _, rfl, by decide +kernel⟩⟩
  | use w hw => exact ⟨⟨_, _, rfl, by rw [hl]; decide +kernel⟩, .inl ⟨_, rfl, by rw [sO_len]; have := (name_len hw).2.1; omega⟩⟩
theorem NdK.hdD {h : List PyData} {o : List Nat} {b : Bool} (k : NdK h o b) : HdD h := by
  cases k with
  | block => exact ⟨⟨_, _, rfl, by decide +kernel⟩, .inr ⟨_, _, rfl, by decide +kernel⟩⟩
  | sum => exact ⟨⟨_, _, rfl, by decide +kernel⟩, .inr ⟨_, _, rfl, by decide +kernel⟩⟩
  | product => exact ⟨⟨_, _, rfl, by decide +kernel⟩, .inr ⟨_, _, rfl, by decide +kernel⟩⟩
  | let_ w _ => exact ⟨⟨_, _, rfl, by show (("let" : Str) == "let") = _; decide +kernel⟩, .inr ⟨_, _, rfl, by decide +kernel⟩⟩
theorem Dr.rowsD {n : Nat} {x : It} (d : Dr n x) : ∀ p, p ≠ [] → ∀ r ∈ x.ph p, HdD r.2 ∧ r.1 ≠ [] ∧ r.1.length ≤ p.length + n := by
  induction d with
  | @leaf n h w k =>
    intro p hp r hr
    rw [It.ph] at hr
    rw [List.mem_singleton.mp hr]
    exact ⟨k.hdD, hp, Nat.le_add_right _ _⟩
  | @node n h o b l k hl hc ih =>
    intro p hp r hr
    rw [It.ph] at hr
    rcases List.mem_cons.mp hr with rfl | hr
    · exact ⟨k.hdD, hp, Nat.le_add_right _ _⟩
    · -- below
      have : ∀ {l' : List It}, (∀ x ∈ l', ∀ p, p ≠ [] → ∀ r ∈ x.ph p, HdD r.2 ∧ r.1 ≠ [] ∧ r.1.length ≤ p.length + n) → ∀ k', ∀ r ∈ phL p k' l', HdD r.2 ∧ r.1 ≠ [] ∧ r.1.length ≤ p.length + 1 + n := by
        intro l'
        induction l' with
        | nil => intro _ k' r hr; rw [phL] at hr; cases hr
        | cons y t ih2 =>
          intro hy k' r hr
          rw [phL] at hr
          rcases List.mem_append.mp hr with hr | hr
          · have := hy y List.mem_cons_self (p ++ [(k' : Int)]) (by simp) r hr
            rw [List.length_append] at this
            exact this
          · exact ih2 (fun z hz => hy z (List.mem_cons_of_mem _ hz)) (k' + 1) r hr
      have h3 := this ih 0 r hr
      exact ⟨h3.1, h3.2.1, by have := h3.2.2; omega⟩
theorem list_rowsD {l : List It} {n : Nat} (hy : ∀ x ∈ l, Dr n x) (p : List Int) : ∀ k', ∀ r ∈ phL p k' l, HdD r.2 ∧ r.1 ≠ [] ∧ r.1.length ≤ p.length + 1 + n := by
  induction l with
  | nil => intro k' r hr; rw [phL] at hr; cases hr
  | cons y t ih2 =>
    intro k' r hr
    rw [phL] at hr
    rcases List.mem_append.mp hr with hr | hr
    · have := (hy y List.mem_cons_self).rowsD (p ++ [(k' : Int)]) (by simp) r hr
      rw [List.length_append] at this
      exact this
    · exact ih2 (fun z hz => hy z (List.mem_cons_of_mem _ hz)) (k' + 1) r hr
/-- the scan of a drawn text may be read -/
theorem mean_ok {its : List It} {n : Nat} (hn : n ≤ 100) (h : ∀ x ∈ its, Dr n x) (few : (phL [] 0 its).length ≤ 1500) : MeanOk (endM its) (phL [] 0 its) (envsL [] 0 its) := by
  have hi : ∀ x ∈ its, HI x := fun x hx => (h x hx).hi
  have rd := list_rowsD h [] 0
  refine ⟨⟨(phL_paths its [] 0 0).symm, (phL_heads its [] 0).symm, few, fun r hr => ⟨(rd r hr).2.1, ?_⟩, fun r hr => (rd r hr).1.1, par_all hi⟩, ?_, near_all hi, tail_all hi, ?_, fun r hr => (rd r hr).1.2, ?_⟩
  · have := (rd r hr).2.2
    rw [List.length_nil] at this
    omega
  · rw [envsL_len, phL_len']
  · refine lets_list (fun x hx => lets_item (h x hx)) [] 0 0 [] (fun j hj => by cases hj) fun i _ => by rw [Nat.zero_add]
  · show ((rowsL [] 0 0 its).map (·.2.1)).length = _
    rw [List.length_map]
    have := congrArg List.length (phL_paths its [] 0 0)
    rw [List.length_map, List.length_map] at this
    exact this.symm
end K1
set_option maxHeartbeats 4000000
/-! the law's rows: which stand in one holder -/
namespace K1
open PySem L2
def sis (p : List Int) (rs : List (List Int × It)) : List (List Int × It) := rs.filter fun r => decide (r.1.dropLast = p)
theorem sis_app (p : List Int) (a b : List (List Int × It)) : sis p (a ++ b) = sis p a ++ sis p b := by
  unfold sis
  exact List.filter_append ..
/-- the items of a holder with their paths -/
def sisL (q : List Int) (k : Nat) : List It → List (List Int × It)
  | [] => []
  | x :: r => (q ++ [(k : Int)], x) :: sisL q (k + 1) r
def PreI (x : It) : Prop := ∀ (p : List Int), ∀ r ∈ x.ris p, ∃ s, r.1 = p ++ s
mutual
theorem pre_item : ∀ x : It, PreI x
  | .leaf h w, p, r, hr => by
    rw [It.ris] at hr
    rw [List.mem_singleton.mp hr]
    exact ⟨[], by simp⟩
  | .node h o b l, p, r, hr => by
    rw [It.ris] at hr
    rcases List.mem_cons.mp hr with rfl | hr
    · exact ⟨[], by simp⟩
    · obtain ⟨i, s, e, _⟩ := pre_items l p 0 r hr
      exact ⟨_, by rw [e, List.append_assoc]⟩
theorem pre_items : ∀ (l : List It) (q : List Int) (k : Nat), ∀ r ∈ risL q k l, ∃ (i : Nat) (s : List Int), r.1 = q ++ [((k + i : Nat) : Int)] ++ s ∧ i < l.length
  | [], q, k, r, hr => by rw [risL] at hr; cases hr
  | x :: l, q, k, r, hr => by
    rw [risL] at hr
    rcases List.mem_append.mp hr with hr | hr
    · obtain ⟨s, e⟩ := pre_item x _ r hr
      exact ⟨0, s, e, by simp⟩
    · obtain ⟨i, s, e, hi⟩ := pre_items l q (k + 1) r hr
      exact ⟨i + 1, s, by rw [e, show k + 1 + i = k + (i + 1) by omega], by simp; omega⟩
end
/-- a row below q's i-th item stands in no holder below another one -/
theorem drop_not {q s t : List Int} {i j : Int} (h : i ≠ j) : (q ++ [i] ++ s).dropLast ≠ q ++ [j] ++ t := fun e => by
  rcases List.eq_nil_or_concat s with rfl | ⟨s', x, rfl⟩
  · rw [List.append_nil, List.dropLast_concat] at e
    have := congrArg List.length e
    rw [List.length_append, List.length_append, List.length_singleton] at this
    omega
  · rw [List.concat_eq_append, ← List.append_assoc, List.dropLast_concat, List.append_assoc, List.append_assoc] at e
    have e2 := List.append_cancel_left e
    exact h (List.cons.inj e2).1
theorem sis_none {p : List Int} {rs : List (List Int × It)} (h : ∀ r ∈ rs, r.1.dropLast ≠ p) : sis p rs = [] := by
  unfold sis
  rw [List.filter_eq_nil_iff]
  intro r hr
  rw [decide_eq_true_eq]
  exact h r hr
/-- below the j-th item only its own rows stand -/
theorem sis_below : ∀ (l : List It) (q : List Int) (k j : Nat) (x : It) (s : List Int), l[j]? = some x → sis (q ++ [((k + j : Nat) : Int)] ++ s) (risL q k l) = sis (q ++ [((k + j : Nat) : Int)] ++ s) (x.ris (q ++ [((k + j : Nat) : Int)]))
  | [], q, k, j, x, s, h => by cases h
  | y :: l, q, k, 0, x, s, h => by
    cases h
    rw [risL, sis_app, sis_none (rs := risL q (k + 1) l) (fun r hr => by
      obtain ⟨i, t, e, _⟩ := pre_items l q (k + 1) r hr
      rw [e]
      exact drop_not (by omega)), List.append_nil]
    rfl
  | y :: l, q, k, j + 1, x, s, h => by
    have ih := sis_below l q (k + 1) j x s h
    rw [show k + 1 + j = k + (j + 1) by omega] at ih
    rw [risL, sis_app, sis_none (rs := y.ris (q ++ [(k : Int)])) (fun r hr => by
      obtain ⟨t, e⟩ := pre_item y _ r hr
      rw [e]
      exact drop_not (by omega)), List.nil_append, ih]
/-- what stands in the holder itself -/
theorem sis_own : ∀ (l : List It) (q : List Int) (k : Nat), sis q (risL q k l) = sisL q k l
  | [], q, k => by rw [risL, sisL]; rfl
  | x :: l, q, k => by
    rw [risL, sisL, sis_app, sis_own l q (k + 1)]
    have hx : sis q (x.ris (q ++ [(k : Int)])) = [(q ++ [(k : Int)], x)] := by
      have below : ∀ {lc : List It}, sis q (risL (q ++ [(k : Int)]) 0 lc) = [] := fun {lc} => sis_none fun r hr => by
        obtain ⟨i, t, e, _⟩ := pre_items lc _ 0 r hr
        rw [e]
        intro z
        have := congrArg List.length z
        rw [List.length_dropLast, List.length_append, List.length_append, List.length_append, List.length_singleton, List.length_singleton] at this
        omega
      cases x with
      | leaf h w =>
        rw [It.ris]
        unfold sis
        rw [List.filter_cons_of_pos (by rw [decide_eq_true_eq]; exact List.dropLast_concat)]
        rfl
      | node h o b lc =>
        rw [It.ris]
        have := @below lc
        unfold sis at this ⊢
        rw [List.filter_cons_of_pos (by rw [decide_eq_true_eq]; exact List.dropLast_concat), this]
    rw [hx]
    rfl
end K1
set_option maxHeartbeats 4000000
/-! what a name means by the law's rows is the let that the program finds -/
namespace K1
open PySem L2
def lastI (p : List Int) : Int := p.getLast?.getD 0
def aheadB (p : List Int) (r : List Int × It) : Bool := decide (r.1.dropLast = p.dropLast) && decide (lastI r.1 < lastI p)
def headI : It → List PyData
  | .leaf h _ => h
  | .node h _ _ _ => h
def letB (nm : Str) (x : It) : Bool := match headI x with
  | [.str k, .str y] => k == "let" && y == nm
  | _ => false
/-- what the law finds, path by path -/
def lawM (rs : List (List Int × It)) (nm : Str) : Nat → List Int → Option (List Int)
  | 0, _ => none
  | n + 1, p => match ((rs.filter (aheadB p)).filter fun r => letB nm r.2).getLast? with
    | some r => some r.1
    | none => lawM rs nm n p.dropLast
theorem last_snoc (q : List Int) (i : Int) : lastI (q ++ [i]) = i := by
  unfold lastI
  rw [List.getLast?_concat]
  rfl
theorem ahead_take : ∀ (l : List It) (q : List Int) (k n : Nat), (sisL q k l).filter (fun r => decide (lastI r.1 < ((k + n : Nat) : Int))) = (sisL q k l).take n
  | [], q, k, n => by rw [sisL]; simp
  | x :: l, q, k, 0 => by
    rw [sisL, List.take_zero, List.filter_eq_nil_iff]
    have : ∀ (l : List It) (k' : Nat), k ≤ k' → ∀ r ∈ sisL q k' l, ¬ (decide (lastI r.1 < ((k + 0 : Nat) : Int)) = true) := by
      intro l
      induction l with
      | nil => intro k' _ r hr; rw [sisL] at hr; cases hr
      | cons y t ih =>
        intro k' hk r hr
        rw [sisL] at hr
        rcases List.mem_cons.mp hr with rfl | hr
        · rw [decide_eq_true_eq, last_snoc]
          omega
        · exact ih (k' + 1) (by omega) r hr
    have h2 := this (x :: l) k (Nat.le_refl _)
    rw [sisL] at h2
    exact h2
  | x :: l, q, k, n + 1 => by
    have ih := ahead_take l q (k + 1) n
    rw [show k + 1 + n = k + (n + 1) by omega] at ih
    rw [sisL, List.take_succ_cons, List.filter_cons_of_pos (by rw [decide_eq_true_eq, last_snoc]; omega), ih]
theorem ahead_of {rs : List (List Int × It)} {q : List Int} {L : List It} (h : sis q rs = sisL q 0 L) (n : Nat) : rs.filter (aheadB (q ++ [(n : Int)])) = (sisL q 0 L).take n := by
  have e : rs.filter (aheadB (q ++ [(n : Int)])) = (sis q rs).filter fun r => decide (lastI r.1 < ((0 + n : Nat) : Int)) := by
    unfold sis
    rw [List.filter_filter]
    congr 1
    funext r
    unfold aheadB
    rw [List.dropLast_concat, last_snoc, Nat.zero_add, Bool.and_comm]
  rw [e, h, ahead_take]
theorem sisL_get : ∀ (l : List It) (q : List Int) (k n : Nat) (x : It), l[n]? = some x → (sisL q k l).take (n + 1) = (sisL q k l).take n ++ [(q ++ [((k + n : Nat) : Int)], x)]
  | [], q, k, n, x, h => by cases h
  | y :: l, q, k, 0, x, h => by
    cases h
    rw [sisL, List.take_succ_cons, List.take_zero, List.take_zero]
    rfl
  | y :: l, q, k, n + 1, x, h => by
    rw [sisL, List.take_succ_cons, List.take_succ_cons, sisL_get l q (k + 1) n x h, show k + 1 + n = k + (n + 1) by omega]
    rfl
section
variable {rs : List (List Int × It)} {rows : List (List Int × List PyData)}
def pathOf (rows : List (List Int × List PyData)) (j : Nat) : List Int := (rows.getD j ([], [])).1
/-- what E tells is what the law finds at p -/
def EnvAt (rs : List (List Int × It)) (rows : List (List Int × List PyData)) (E : List Nat) (p : List Int) : Prop := ∀ nm, lawM rs nm p.length p = (findN rows E nm).map (pathOf rows)
theorem env_first {q : List Int} {L : List It} {E : List Nat} (h : sis q rs = sisL q 0 L) (hE : EnvAt rs rows E q) : EnvAt rs rows E (q ++ [(0 : Int)]) := fun nm => by
  have e := ahead_of h 0
  rw [List.length_append, List.length_singleton]
  show (match ((rs.filter (aheadB (q ++ [((0 : Nat) : Int)]))).filter fun r => letB nm r.2).getLast? with
    | some r => some r.1
    | none => lawM rs nm q.length (q ++ [((0 : Nat) : Int)]).dropLast) = _
  rw [e, List.take_zero, List.filter_nil, List.dropLast_concat]
  exact hE nm
theorem letIs_at {a : Nat} {p : List Int} {x : It} (hr : rows[a]? = some (p, headI x)) (nm : Str) : letIs rows nm a = letB nm x := by
  unfold letIs letB
  rw [hr]
  generalize headI x = hh
  cases hh with
  | nil => rfl
  | cons y t =>
    cases y <;> (cases t with
      | nil => rfl
      | cons z t2 => cases z <;> cases t2 <;> rfl)
theorem env_next {q : List Int} {L : List It} {E : List Nat} {n a : Nat} {x : It} (h : sis q rs = sisL q 0 L) (hx : L[n]? = some x) (hr : rows[a]? = some (q ++ [(n : Int)], headI x)) (hl : isLetI x = false → ∀ nm, letB nm x = false) (hE : EnvAt rs rows E (q ++ [(n : Int)])) : EnvAt rs rows (push E a (isLetI x)) (q ++ [((n + 1 : Nat) : Int)]) := fun nm => by
  have e := ahead_of h (n + 1)
  have e0 := ahead_of h n
  have hn := hE nm
  rw [List.length_append, List.length_singleton] at hn ⊢
  have u : ∀ m : Nat, lawM rs nm (q.length + 1) (q ++ [(m : Int)]) = (match ((rs.filter (aheadB (q ++ [(m : Int)]))).filter fun r => letB nm r.2).getLast? with
    | some r => some r.1
    | none => lawM rs nm q.length (q ++ [(m : Int)]).dropLast) := fun _ => rfl
  rw [u, e0, List.dropLast_concat] at hn
  rw [u, e, List.dropLast_concat, sisL_get L q 0 n x hx, List.filter_append, Nat.zero_add]
  have hla := letIs_at hr nm
  cases hb : letB nm x with
  | true =>
    rw [List.filter_cons_of_pos (p := fun r : List Int × It => letB nm r.2) hb, List.filter_nil, List.getLast?_append]
    have hi : isLetI x = true := by
      cases z : isLetI x with
      | true => rfl
      | false => rw [hl z nm] at hb; cases hb
    unfold push findN
    rw [if_pos hi, List.find?_cons, hla, hb]
    show some (q ++ [(n : Int)]) = some (pathOf rows a)
    unfold pathOf
    rw [List.getD_eq_getElem?_getD, hr]
    rfl
  | false =>
    rw [List.filter_cons_of_neg (p := fun r : List Int × It => letB nm r.2) (by rw [hb]; exact Bool.false_ne_true), List.filter_nil, List.append_nil, hn]
    unfold push findN
    split
    · rw [List.find?_cons, hla, hb]
    · rfl
end
end K1
set_option maxHeartbeats 4000000
/-! what a name means by the law's rows, at every row of a tree -/
namespace K1
open PySem L2
theorem head_ph (x : It) (p : List Int) : (x.ph p)[0]? = some (p, headI x) := by
  cases x with
  | leaf h w => rw [It.ph]; rfl
  | node h o b l => rw [It.ph]; rfl
theorem size_pos (x : It) : 0 < x.size := by
  cases x with
  | leaf h w => rw [It.size]; exact Nat.one_pos
  | node h o b l => rw [It.size]; omega
theorem letI_no (x : It) (h : isLetI x = false) (nm : Str) : letB nm x = false := by
  cases x with
  | leaf hh w =>
    unfold letB headI
    have h' : letH hh = false := h
    unfold letH at h'
    split
    · rename_i k y e
      have e' : hh = [.str k, .str y] := e
      subst e'
      have : (k == "let") = false := h'
      rw [this]
      rfl
    · rfl
  | node hh o b l =>
    unfold letB headI
    have h' : letH hh = false := h
    unfold letH at h'
    split
    · rename_i k y e
      have e' : hh = [.str k, .str y] := e
      subst e'
      have : (k == "let") = false := h'
      rw [this]
      rfl
    · rfl
section
variable {rs : List (List Int × It)} {rows : List (List Int × List PyData)}
def LawI (rs : List (List Int × It)) (rows : List (List Int × List PyData)) (x : It) : Prop := ∀ (p : List Int) (E : List Nat) (a : Nat), p ≠ [] → EnvAt rs rows E p → (∀ i, i < x.size → rows[a + i]? = (x.ph p)[i]?) → (∀ s, sis (p ++ s) rs = sis (p ++ s) (x.ris p)) → ∀ i, i < x.size → EnvAt rs rows (((x.envs E a)[i]?).getD []) (((x.ph p)[i]?).getD ([], [])).1
theorem law_list {L : List It} {p : List Int} (hs : sis p rs = sisL p 0 L) (hb : ∀ (j : Nat) (x : It), L[j]? = some x → ∀ s, sis (p ++ [(j : Int)] ++ s) rs = sis (p ++ [(j : Int)] ++ s) (x.ris (p ++ [(j : Int)]))) : ∀ {l : List It}, (∀ x ∈ l, LawI rs rows x) → ∀ (E : List Nat) (a k : Nat), (∀ i, i < l.length → L[k + i]? = l[i]?) → EnvAt rs rows E (p ++ [(k : Int)]) → (∀ i, i < sizeLs l → rows[a + i]? = (phL p k l)[i]?) → ∀ i, i < sizeLs l → EnvAt rs rows (((envsL E a l)[i]?).getD []) (((phL p k l)[i]?).getD ([], [])).1
  | [], _, E, a, k, _, _, _, i, hi => by rw [sizeLs] at hi; cases hi
  | x :: l, hx, E, a, k, hL, hE, hr, i, hi => by
    rw [phL, sizeLs] at hr
    rw [sizeLs] at hi
    rw [envsL, phL]
    have hx0 : ∀ i, i < x.size → rows[a + i]? = (x.ph (p ++ [(k : Int)]))[i]? := fun i h => by
      rw [hr i (by omega), List.getElem?_append_left (by rw [It.ph_len]; exact h)]
    have hLk : L[k]? = some x := by
      have := hL 0 (by rw [List.length_cons]; omega)
      exact this
    by_cases h : i < x.size
    · rw [List.getElem?_append_left (by rw [It.envs_len]; exact h), List.getElem?_append_left (by rw [It.ph_len]; exact h)]
      exact hx x List.mem_cons_self _ E a (by simp) hE hx0 (hb k x hLk) i h
    · rw [List.getElem?_append_right (by rw [It.envs_len]; omega), List.getElem?_append_right (by rw [It.ph_len]; omega), It.envs_len, It.ph_len]
      have hra : rows[a]? = some (p ++ [(k : Int)], headI x) := by
        have := hx0 0 (size_pos x)
        rw [Nat.add_zero, head_ph] at this
        exact this
      refine law_list hs hb (fun y hy => hx y (List.mem_cons_of_mem _ hy)) _ _ (k + 1) (fun j hj => ?_) (env_next hs hLk hra (letI_no x) hE) (fun j hj => ?_) (i - x.size) (by omega)
      · have := hL (j + 1) (by rw [List.length_cons]; omega)
        rw [List.getElem?_cons_succ] at this
        rw [← this]
        congr 1
        omega
      · have := hr (x.size + j) (by omega)
        rw [← Nat.add_assoc] at this
        rw [this, List.getElem?_append_right (by rw [It.ph_len]; omega), It.ph_len]
        congr 1
        omega
theorem law_item {n : Nat} {x : It} (d : Dr n x) : LawI rs rows x := by
  induction d with
  | @leaf n h w k =>
    intro p E a hp hE hr hs i hi
    rw [It.size] at hi
    have : i = 0 := by omega
    subst this
    rw [It.envs, It.ph]
    exact hE
  | @node n h o b l k hl hc ih =>
    intro p E a hp hE hr hs i hi
    rw [It.ph, It.size] at hr
    rw [It.size] at hi
    rw [It.envs, It.ph]
    cases i with
    | zero => exact hE
    | succ i =>
      rw [List.getElem?_cons_succ, List.getElem?_cons_succ]
      have hlen : 0 < p.length := List.length_pos_iff.mpr hp
      have drop : ∀ s, sis (p ++ s) (It.ris p (.node h o b l)) = sis (p ++ s) (risL p 0 l) := fun s => by
        rw [It.ris]
        unfold sis
        rw [List.filter_cons_of_neg (by
          rw [decide_eq_true_eq]
          intro z
          have : p.dropLast.length = (p ++ s).length := congrArg List.length z
          rw [List.length_dropLast, List.length_append] at this
          omega)]
      have h0 : sis p rs = sisL p 0 l := by
        have h1 := hs []
        have h2 := drop []
        rw [List.append_nil] at h1 h2
        rw [h1, h2, sis_own]
      refine law_list h0 (fun j x hx s => ?_) ih E (a + 1) 0 (fun j _ => by rw [Nat.zero_add]) (env_first h0 hE) (fun j hj => ?_) i (by omega)
      · have h1 := hs ([(j : Int)] ++ s)
        have h2 := drop ([(j : Int)] ++ s)
        have h3 := sis_below l p 0 j x s hx
        rw [Nat.zero_add] at h3
        rw [← List.append_assoc] at h1 h2
        rw [h1, h2, h3]
      · have := hr (1 + j) (by omega)
        rw [← Nat.add_assoc] at this
        rw [this, Nat.add_comm 1 j, List.getElem?_cons_succ]
/-- at every row of a forest -/
theorem law_all {n : Nat} {l : List It} (d : ∀ x ∈ l, Dr n x) : ∀ i, i < sizeLs l → EnvAt (risL [] 0 l) (phL [] 0 l) (((envsL [] 0 l)[i]?).getD []) (((phL [] 0 l)[i]?).getD ([], [])).1 := by
  have h0 : sis [] (risL [] 0 l) = sisL [] 0 l := sis_own l [] 0
  refine law_list h0 (fun j x hx s => ?_) (fun x hx => law_item (d x hx)) [] 0 0 (fun j _ => by rw [Nat.zero_add]) (env_first h0 (fun nm => rfl)) (fun j _ => by rw [Nat.zero_add])
  have h3 := sis_below l [] 0 j x s hx
  rw [Nat.zero_add] at h3
  exact h3
end
end K1
set_option maxHeartbeats 4000000
/-! a use means in the law what it means in the program -/
namespace K1
open PySem L2
theorem use_law {n : Nat} {l : List It} (d : ∀ x ∈ l, Dr n x) {i : Nat} {p : List Int} {nm : Str} (hr : (phL [] 0 l)[i]? = some (p, [.str "use", .str nm])) : ∃ o, useAt (phL [] 0 l) (envsL [] 0 l) i = some o ∧ lawM (risL [] 0 l) nm p.length p = o.map (pathOf (phL [] 0 l)) := by
  have hi : i < sizeLs l := by
    have := (List.getElem?_eq_some_iff.mp hr).1
    rw [phL_len'] at this
    exact this
  have h := law_all d i hi nm
  rw [hr] at h
  refine ⟨findN (phL [] 0 l) ((envsL [] 0 l).getD i []) nm, ?_, ?_⟩
  · unfold useAt
    rw [hr]
    exact if_pos rfl
  · rw [List.getD_eq_getElem?_getD]
    exact h
/-- the first row that the program does not see is the law's first use without a let -/
theorem unseen_law {n : Nat} {l : List It} (d : ∀ x ∈ l, Dr n x) {i : Nat} : useAt (phL [] 0 l) (envsL [] 0 l) i = some none ↔ ∃ p nm, (phL [] 0 l)[i]? = some (p, [.str "use", .str nm]) ∧ lawM (risL [] 0 l) nm p.length p = none := by
  constructor
  · intro h
    have h' := h
    unfold useAt at h'
    split at h'
    · rename_i p x nm e
      split at h'
      · rename_i q
        have q' : x = "use" := eq_of_beq q
        subst q'
        obtain ⟨o, ho, hl⟩ := use_law d e
        rw [h] at ho
        cases ho
        exact ⟨p, nm, e, hl⟩
      · cases h'
    · cases h'
  · rintro ⟨p, nm, e, hl⟩
    obtain ⟨o, ho, hl'⟩ := use_law d e
    rw [hl] at hl'
    cases o with
    | none => exact ho
    | some j => cases hl'
end K1
set_option maxHeartbeats 4000000
/-! what the law expects of meant_lets, from what _meant gives -/
namespace K1
open PySem L2
/-- the pairs of meantK, as indices -/
def meantN (rows : List (List Int × List PyData)) (es : List (List Nat)) (n : Nat) : List (Nat × Nat) := (List.range n).filterMap fun i => match useAt rows es i with
  | some (some j) => some (i, j)
  | _ => none
theorem meantK_N (rows : List (List Int × List PyData)) (es : List (List Nat)) (n : Nat) : meantK rows es n = (meantN rows es n).map fun ij => (.inl (ij.1 : Int), .int (ij.2 : Int)) := by
  unfold meantK meantN
  rw [List.map_filterMap]
  refine congrArg (fun f => List.filterMap f (List.range n)) (funext fun i => ?_)
  cases h : useAt rows es i with
  | none => rfl
  | some o => cases o <;> rfl
def useNm (r : List Int × List PyData) : Option Str := match r.2 with
  | [.str x, .str nm] => if x == "use" then some nm else none
  | _ => none
/-- what the law expects: each use's path with what it means -/
def dueL (rs : List (List Int × It)) (rows : List (List Int × List PyData)) : List (List Int × Option (List Int)) := rows.filterMap fun r => (useNm r).map fun nm => (r.1, lawM rs nm r.1.length r.1)
theorem range_all {α : Type} (l : List α) (d : α) : (List.range l.length).map (fun i => l.getD i d) = l := by
  refine List.ext_getElem (by rw [List.length_map, List.length_range]) fun i h1 h2 => ?_
  rw [List.getElem_map, List.getElem_range, List.getD_eq_getElem?_getD, List.getElem?_eq_getElem h2]
  rfl
theorem filterMap_eq {α β : Type} {f g : α → Option β} : ∀ {l : List α}, (∀ x ∈ l, f x = g x) → l.filterMap f = l.filterMap g
  | [], _ => rfl
  | x :: l, h => by
    rw [List.filterMap_cons, List.filterMap_cons, h x List.mem_cons_self, filterMap_eq fun y hy => h y (List.mem_cons_of_mem _ hy)]
theorem due_law {n : Nat} {l : List It} (d : ∀ x ∈ l, Dr n x) (seen : ∀ i, useAt (phL [] 0 l) (envsL [] 0 l) i ≠ some none) : dueL (risL [] 0 l) (phL [] 0 l) = (meantN (phL [] 0 l) (envsL [] 0 l) (phL [] 0 l).length).map fun ij => (pathOf (phL [] 0 l) ij.1, some (pathOf (phL [] 0 l) ij.2)) := by
  have e : dueL (risL [] 0 l) (phL [] 0 l) = ((List.range (phL [] 0 l).length).map (fun i => (phL [] 0 l).getD i ([], []))).filterMap fun r => (useNm r).map fun nm => (r.1, lawM (risL [] 0 l) nm r.1.length r.1) := by
    rw [range_all]
    rfl
  rw [e, List.filterMap_map]
  unfold meantN
  rw [List.map_filterMap]
  refine filterMap_eq fun i hi => ?_
  have hlt := List.mem_range.mp hi
  have hg := List.getElem?_eq_getElem hlt
  show (useNm ((phL [] 0 l).getD i ([], []))).map (fun nm => (pathOf (phL [] 0 l) i, lawM (risL [] 0 l) nm (pathOf (phL [] 0 l) i).length (pathOf (phL [] 0 l) i))) = _
  cases hu : useNm ((phL [] 0 l).getD i ([], [])) with
  | none =>
    have : useAt (phL [] 0 l) (envsL [] 0 l) i = none := by
      rw [List.getD_eq_getElem?_getD, hg] at hu
      unfold useAt
      rw [hg]
      generalize (phL [] 0 l)[i] = r at hu ⊢
      obtain ⟨p, h⟩ := r
      have hu' : useNm (p, h) = none := hu
      unfold useNm at hu'
      split
      · rename_i p' x nm q
        cases q
        have hu2 : (if x == "use" then some nm else none) = none := hu'
        by_cases z : (x == "use") = true
        · rw [if_pos z] at hu2; cases hu2
        · rw [if_neg z]
      · rfl
    rw [this]
    rfl
  | some nm =>
    have hr : (phL [] 0 l)[i]? = some (pathOf (phL [] 0 l) i, [.str "use", .str nm]) := by
      unfold pathOf
      rw [List.getD_eq_getElem?_getD, hg] at hu ⊢
      generalize (phL [] 0 l)[i] = r at hu ⊢
      obtain ⟨p, h⟩ := r
      have hu' : useNm (p, h) = some nm := hu
      unfold useNm at hu'
      split at hu'
      · rename_i x nm' q
        have q' : h = [.str x, .str nm'] := q
        subst q'
        split at hu'
        · rename_i z
          have z' : x = "use" := eq_of_beq z
          subst z'
          cases hu'
          rfl
        · cases hu'
      · cases hu'
    obtain ⟨o, ho, hl⟩ := use_law d hr
    rw [ho]
    cases o with
    | none => exact absurd ho (seen i)
    | some j =>
      show some (_, lawM _ _ _ _) = some (_, _)
      rw [hl]
      rfl
end K1
set_option maxHeartbeats 4000000
/-! paths as values: without the last, the last, equal -/
namespace K1
open PySem L2
theorem cut_drop (xs : List V) : cutV xs none (some (-1)) = xs.dropLast := by
  unfold cutV HT.sIx
  show List.take ((if (-1 : Int) < 0 then ((-1 : Int) + (xs.length : Int)).toNat else _) - 0) (List.drop 0 xs) = _
  rw [if_pos (by decide), List.drop_zero, List.dropLast_eq_take, Nat.sub_zero]
  congr 1
  omega
theorem path_cut {K : PySem.W.Frag} {H : Hp} {v : V} {p : List Int} {Q : VK} (h : DQ K H v (pathD p)) (hp : p ≠ []) (k : ∀ H' z, Same H H' → DQ K H' z (pathD p.dropLast) → Q z H') : rSlT K v none (some (-1)) H Q := by
  cases h with
  | @tup a xs _ h1 h2 =>
    have l := h2.len
    rw [List.length_map] at l
    have hpos : 0 < p.length := List.length_pos_iff.mpr hp
    refine ⟨a, xs, rfl, h1, fun e => ?_, fun q nq => ?_⟩
    · have e2 := e.2
      unfold HT.sIx at e2
      have e3 : (if (-1 : Int) < 0 then ((-1 : Int) + (xs.length : Int)).toNat else min (-1 : Int).toNat xs.length) = xs.length := e2
      rw [if_pos (by decide)] at e3
      omega
    · rw [cut_drop]
      have s1 := K0.same_upd (o := .tup xs.dropLast) nq
      refine k _ _ s1 (.tup (.inl (.inl upd_same)) ?_)
      have : ∀ {xs : List V} {p : List Int}, DQs K H xs (p.map PyData.int) → DQs K H xs.dropLast (p.dropLast.map PyData.int) := by
        intro xs p
        induction p generalizing xs with
        | nil => intro h; cases h; exact .nil
        | cons i t ih =>
          intro h
          cases h with
          | cons g1 g2 =>
            cases t with
            | nil => cases g2; exact .nil
            | cons j t2 =>
              cases g2 with
              | cons g3 g4 => exact .cons g1 (ih (.cons g3 g4))
      exact (this h2).to s1
theorem path_last {K : PySem.W.Frag} {H : Hp} {v : V} {p : List Int} (h : DQ K H v (pathD p)) (hp : p ≠ []) (hl : p.length ≤ 1000) : ∃ a xs, v = .ref a ∧ SqT K H a xs ∧ atI xs (-1) = some (.int (lastI p)) := by
  rcases List.eq_nil_or_concat p with e | ⟨q, i, e⟩
  · exact absurd e hp
  · rw [List.concat_eq_append] at e
    subst e
    rw [List.length_append] at hl
    have h' : DQ K H v (.tuple (q.map PyData.int ++ [.int i])) := by
      unfold pathD at h
      rw [List.map_append] at h
      exact h
    obtain ⟨a, xs, u, rfl, h1, h2, h3⟩ := h'.last (by rw [List.length_map]; omega)
    cases h3
    rw [last_snoc]
    exact ⟨a, xs, rfl, h1, h2⟩
theorem eqvAll_ints : ∀ (p q : List Int), PyData.eqvAll (p.map PyData.int) (q.map PyData.int) = decide (p = q)
  | [], [] => by simp [PyData.eqvAll]
  | [], _ :: _ => by simp [PyData.eqvAll]
  | _ :: _, [] => by simp [PyData.eqvAll]
  | i :: p, j :: q => by
    have := eqvAll_ints p q
    rw [show PyData.eqvAll ((i :: p).map PyData.int) ((j :: q).map PyData.int) = ((i == j) && PyData.eqvAll (p.map PyData.int) (q.map PyData.int)) from by simp [PyData.eqvAll, PyData.eqv], this, Bool.eq_iff_iff]
    simp
theorem eqv_path (p q : List Int) : PyData.eqv (pathD p) (pathD q) = decide (p = q) := by
  have := eqvAll_ints p q
  unfold pathD
  simp [PyData.eqv, this]
theorem layI : ∀ p : List Int, PyData.canLayAll0 (p.map PyData.int) = true
  | [] => by simp [PyData.canLayAll0]
  | i :: p => by simp [PyData.canLayAll0, PyData.canLay0, layI p]
theorem deepI : ∀ p : List Int, PyData.depthAll (p.map PyData.int) ≤ 1
  | [] => by simp [PyData.depthAll]
  | i :: p => by
    have := deepI p
    simp [PyData.depthAll, PyData.depth]
    omega
theorem dictI : ∀ p : List Int, PyData.hasDictAll (p.map PyData.int) = false
  | [] => by simp [PyData.hasDictAll]
  | i :: p => by simp [PyData.hasDictAll, PyData.hasDict, dictI p]
theorem shaped_path (p : List Int) : SeqAt.shaped (pathD p) = true := by
  have h1 := layI p
  have h2 := deepI p
  unfold pathD SeqAt.shaped
  rw [Bool.and_eq_true, decide_eq_true_eq]
  refine ⟨by simpa [PyData.canLay0] using h1, ?_⟩
  simp [PyData.depth]
  omega
theorem noDict_path (p : List Int) : (pathD p).hasDict = false := by
  have := dictI p
  unfold pathD
  simp [PyData.hasDict, this]
theorem path_eq {K : PySem.W.Frag} {H : Hp} {v u : V} {p q : List Int} {Q : VK} (h : DQ K H v (pathD p)) (g : DQ K H u (pathD q)) (k : Q (.bl (decide (p = q))) H) : rEqD K v u H Q :=
  ⟨_, _, DQ.dp _ _ (noDict_path p) h, DQ.dp _ _ (noDict_path q) g, shaped_path p, shaped_path q, by rw [eqv_path]; exact k⟩
theorem path_ne {K : PySem.W.Frag} {H : Hp} {v u : V} {p q : List Int} {Q : VK} (h : DQ K H v (pathD p)) (g : DQ K H u (pathD q)) (k : Q (.bl (!decide (p = q))) H) : rNeD K v u H Q :=
  ⟨_, _, DQ.dp _ _ (noDict_path p) h, DQ.dp _ _ (noDict_path q) g, shaped_path p, shaped_path q, by rw [eqv_path]; exact k⟩
end K1
set_option maxHeartbeats 4000000
/-! the law's comprehension of the rows ahead -/
namespace K1
open PySem L2
abbrev tN1 : TE := tUn (rU fun i => V.int (-i)) (tC (.int 1))
abbrev ttAhead (K : PySem.W.Frag) : TT := tAnd (tTest (tOp (rEqD K) (tSl (rSlT K) (tOp (rIxT K) (tVar 5) (tC (.int 0))) tNoPart (tPart tN1)) (tSl (rSlT K) (tVar 1) tNoPart (tPart tN1)))) (tTest (tOp (rI0 fun i j => V.bl (decide (i < j))) (tOp (rIxT K) (tOp (rIxT K) (tVar 5) (tC (.int 0))) tN1) (tOp (rIxT K) (tVar 1) tN1)))
theorem ahead_step {rs : List (List Int × It)} {p : List Int} {i : Nat} {r : List Int × It} (er : rs[i]? = some r) : (rs.take (i + 1)).filter (aheadB p) = (rs.take i).filter (aheadB p) ++ (if aheadB p r = true then [r] else []) := by
  rw [List.take_succ, er, Option.toList_some, List.filter_append]
  congr 1
  by_cases h : aheadB p r = true
  · rw [if_pos h, List.filter_cons_of_pos h, List.filter_nil]
  · rw [if_neg h, List.filter_cons_of_neg h, List.filter_nil]
theorem ahead_lc {K : PySem.W.Frag} {H1 : Hp} {a : Addr} {xs : List V} {rs : List (List Int × It)} {p : List Int} {pw : V} {nv z3 z4 z5 z6 z7 : Option V} {R : VK} (ha : SqL K H1 a xs) (dx : DQs K H1 xs (rs.map rowX)) (hp : DQ K H1 pw (pathD p)) (hne : p ≠ []) (hpl : p.length ≤ 1000) (hrl : rs.length ≤ 1000) (hr : ∀ r ∈ rs, r.1 ≠ [] ∧ r.1.length ≤ 1000)
    (k : ∀ H2 D vs, Same H1 H2 → H1 D = none → H2 D = some (.lst vs) → DQs K H1 vs ((rs.filter (aheadB p)).map rowX) → R (.ref D) H2) :
    tLc (iList K (tVar 0)) (gName 5) (ttAhead K) (tVar 5) [5] [some (.ref a), some pw, nv, z3, z4, z5, z6, z7] H1 R := by
  have lx : xs.length = rs.length := by rw [dx.len, List.length_map]
  refine ⟨_, rfl, a, rfl, ⟨xs, ha⟩, fun D nD => ?_⟩
  refine lc_list (K := K) (a := a) (xs := xs) (fun i H' => i ≤ xs.length ∧ Same H1 H' ∧ ∃ vs, H' D = some (.lst vs) ∧ DQs K H1 vs (((rs.take i).filter (aheadB p)).map rowX)) ⟨Nat.zero_le _, K0.same_upd nD, [], upd_same, .nil⟩ (fun i H' _ ⟨_, s, _⟩ => s.seq ha) ?_ (fun H' ⟨_, s, vs, h1, h2⟩ => k H' D vs s nD h1 (by
    rw [lx, List.take_length] at h2
    exact h2))
  intro i x H' hi ⟨hle, s, vs, hD, dv⟩
  have hlt := (List.getElem?_eq_some_iff.mp hi).1
  have er : rs[i]? = some (rs[i]'(by omega)) := List.getElem?_eq_getElem (by omega)
  have hm : (rs[i]'(by omega)) ∈ rs := List.getElem_mem _
  generalize (rs[i]'(by omega)) = r at er hm
  obtain ⟨rne, rl⟩ := hr r hm
  obtain ⟨x', ex, dx'⟩ := dx.get (i := i) (d := rowX r) (by rw [List.getElem?_map, er]; rfl)
  rw [hi] at ex
  cases ex
  obtain ⟨b, ys, rfl, hT, hY⟩ : ∃ b ys, x = .ref b ∧ SqT K H1 b ys ∧ DQs K H1 ys [pathD r.1, r.2.dat] := by
    cases dx' with
    | tup g1 g2 => exact ⟨_, _, rfl, g1, g2⟩
  obtain ⟨y0, hy0, dy0⟩ := hY.get (i := 0) (d := pathD r.1) rfl
  have lvs : vs.length ≤ 1000 := by
    rw [dv.len, List.length_map]
    refine Nat.le_trans (List.length_filter_le _ _) ?_
    rw [List.length_take]
    omega
  refine ⟨rfl, ?_⟩
  refine ⟨_, rfl, b, ys, _, y0, rfl, rfl, K0.seqT_same s hT, atI_nat hy0, 1, rfl, _, rfl, path_cut (dy0.to s) rne fun H2 w2 s2 d2 => ?_⟩
  have s02 := s.trans s2
  refine ⟨_, rfl, 1, rfl, _, rfl, path_cut (hp.to s02) hne fun H3 w3 s3 d3 => ?_⟩
  have s03 := s02.trans s3
  have hD3 := s3 _ _ (s2 _ _ hD)
  refine path_eq (d2.to s3) d3 ⟨_, rfl, ?_⟩
  have hst := @ahead_step rs p i r er
  have no : aheadB p r = false → (i + 1 ≤ xs.length ∧ Same H1 H3 ∧ ∃ vs, H3 D = some (.lst vs) ∧ DQs K H1 vs (((rs.take (i + 1)).filter (aheadB p)).map rowX)) := fun h => ⟨hlt, s03, vs, hD3, by
    rw [hst, h, if_neg Bool.false_ne_true, List.append_nil]
    exact dv⟩
  by_cases h1 : r.1.dropLast = p.dropLast
  · rw [decide_eq_true h1]
    obtain ⟨a1, xs1, rfl, t1, i1⟩ := path_last dy0 rne rl
    obtain ⟨a2, xs2, rfl, t2, i2⟩ := path_last hp hne hpl
    refine iteT ⟨_, rfl, b, ys, _, _, rfl, rfl, K0.seqT_same s03 hT, atI_nat hy0, 1, rfl, a1, xs1, _, _, rfl, rfl, K0.seqT_same s03 t1, i1, _, rfl, 1, rfl, a2, xs2, _, _, rfl, rfl, K0.seqT_same s03 t2, i2, _, _, rfl, rfl, _, rfl, ?_⟩
    by_cases h2 : lastI r.1 < lastI p
    · have hb : aheadB p r = true := by
        unfold aheadB
        rw [decide_eq_true h1, decide_eq_true h2]
        rfl
      rw [decide_eq_true h2]
      refine iteT ⟨_, rfl, vs, hD3, by rw [sizeLine_eq]; omega, hlt, K0.same_over s03 nD, vs ++ [.ref b], upd_same, ?_⟩
      rw [hst, hb, if_pos rfl, List.map_append]
      exact dv.app (.cons dx' .nil)
    · rw [decide_eq_false h2]
      exact iteF (no (by
        unfold aheadB
        rw [decide_eq_false h2, Bool.and_false]))
  · rw [decide_eq_false h1]
    exact iteF (iteF (no (by
      unfold aheadB
      rw [decide_eq_false h1, Bool.false_and])))
end K1
set_option maxHeartbeats 4000000
/-! the law's comprehension of the lets ahead -/
namespace K1
open PySem L2
def RowK (x : It) : Prop := ∃ (kn : Str) (t : List PyData), x.dat = .tuple (.str kn :: t) ∧ ((kn ≠ "let" ∧ ∀ nm, letB nm x = false) ∨ (kn = "let" ∧ ∃ (nm : Str) (t' : List PyData), t = .str nm :: t' ∧ ∀ nm', letB nm' x = decide (nm = nm')))
theorem letB_let (nm nm' : Str) (o : List Nat) (b : Bool) (l : List It) : letB nm' (.node [.str "let", .str nm] o b l) = decide (nm = nm') := by
  show (("let" : Str) == "let" && nm == nm') = _
  rw [show (("let" : Str) == "let") = true from by decide +kernel, Bool.true_and, Bool.eq_iff_iff]
  simp
theorem Dr.rowK {n : Nat} {x : It} (d : Dr n x) : RowK x := by
  cases d with
  | @leaf _ h w k =>
    have hn : ∀ nm, letB nm (.leaf h w) = false := letI_no _ k.let'
    cases k with
    | num m _ => exact ⟨_, _, rfl, .inl ⟨by decide +kernel, hn⟩⟩
    | lost => exact ⟨_, _, rfl, .inl ⟨by decide +kernel, hn⟩⟩
    | use w _ => exact ⟨_, _, rfl, .inl ⟨by decide +kernel, hn⟩⟩
  | @node _ h o b l k _ _ =>
    cases k with
    | block => exact ⟨_, _, rfl, .inl ⟨by decide +kernel, letI_no _ (by show (("block" : Str) == "let") = false; decide +kernel)⟩⟩
    | sum => exact ⟨_, _, rfl, .inl ⟨by decide +kernel, letI_no _ (by show (("sum" : Str) == "let") = false; decide +kernel)⟩⟩
    | product => exact ⟨_, _, rfl, .inl ⟨by decide +kernel, letI_no _ (by show (("product" : Str) == "let") = false; decide +kernel)⟩⟩
    | let_ w _ => exact ⟨_, _, rfl, .inr ⟨rfl, _, _, rfl, fun nm' => letB_let _ _ _ _ _⟩⟩
theorem lets_step {rs : List (List Int × It)} {nm : Str} {i : Nat} {r : List Int × It} (er : rs[i]? = some r) : (rs.take (i + 1)).filter (fun r => letB nm r.2) = (rs.take i).filter (fun r => letB nm r.2) ++ (if letB nm r.2 = true then [r] else []) := by
  rw [List.take_succ, er, Option.toList_some, List.filter_append]
  congr 1
  by_cases h : letB nm r.2 = true
  · rw [if_pos h, List.filter_cons_of_pos (p := fun r : List Int × It => letB nm r.2) h, List.filter_nil]
  · rw [if_neg h, List.filter_cons_of_neg (p := fun r : List Int × It => letB nm r.2) h, List.filter_nil]
abbrev ttLets (K : PySem.W.Frag) : TT := tAnd (tTest (tOp rEq (tOp (rIxT K) (tVar 7) (tC (.int 0))) (tC (.str "let")))) (tTest (tOp rEq (tOp (rIxT K) (tVar 7) (tC (.int 1))) (tVar 2)))
theorem lets_lc {K : PySem.W.Frag} {H0 HA : Hp} {D1 : Addr} {vs0 : List V} {rs : List (List Int × It)} {nm : Str} {z0 z1 z4 z5 z6 z7 : Option V} {R : VK} (s0 : Same H0 HA) (hA : HA D1 = some (.lst vs0)) (dx : DQs K H0 vs0 (rs.map rowX)) (hrl : rs.length ≤ 1000) (hr : ∀ r ∈ rs, RowK r.2)
    (k : ∀ H2 D vs, Same HA H2 → HA D = none → H2 D = some (.lst vs) → DQs K H0 vs ((rs.filter fun r => letB nm r.2).map fun r => pathD r.1) → R (.ref D) H2) :
    tLc (iList K (tVar 3)) (gTup K 2 (gCons (gName 6) (gCons (gName 7) gNil))) (ttLets K) (tVar 6) [6, 7] [z0, z1, some (.str nm), some (.ref D1), z4, z5, z6, z7] HA R := by
  have lx : vs0.length = rs.length := by rw [dx.len, List.length_map]
  refine ⟨_, rfl, D1, rfl, ⟨vs0, SqL.of hA⟩, fun D nD => ?_⟩
  refine lc_list (K := K) (a := D1) (xs := vs0) (fun i H' => i ≤ vs0.length ∧ Same HA H' ∧ ∃ vs, H' D = some (.lst vs) ∧ DQs K H0 vs (((rs.take i).filter fun r => letB nm r.2).map fun r => pathD r.1)) ⟨Nat.zero_le _, K0.same_upd nD, [], upd_same, .nil⟩ (fun i H' _ ⟨_, s, _⟩ => SqL.of (s _ _ hA)) ?_ (fun H' ⟨_, s, vs, h1, h2⟩ => k H' D vs s nD h1 (by
    rw [lx, List.take_length] at h2
    exact h2))
  intro i x H' hi ⟨hle, s, vs, hD, dv⟩
  have hlt := (List.getElem?_eq_some_iff.mp hi).1
  have er : rs[i]? = some (rs[i]'(by omega)) := List.getElem?_eq_getElem (by omega)
  have hm : (rs[i]'(by omega)) ∈ rs := List.getElem_mem _
  generalize (rs[i]'(by omega)) = r at er hm
  obtain ⟨kn, t, ed, hk⟩ := hr r hm
  obtain ⟨x', ex, dx'⟩ := dx.get (i := i) (d := rowX r) (by rw [List.getElem?_map, er]; rfl)
  rw [hi] at ex
  cases ex
  have s1 := s0.trans s
  obtain ⟨b, y0, y1, rfl, hT, dy0, dy1⟩ : ∃ b y0 y1, x = .ref b ∧ SqT K H0 b [y0, y1] ∧ DQ K H0 y0 (pathD r.1) ∧ DQ K H0 y1 r.2.dat := by
    cases dx' with
    | tup g1 g2 =>
      cases g2 with
      | cons g3 g4 =>
        cases g4 with
        | cons g5 g6 =>
          cases g6
          exact ⟨_, _, _, rfl, g1, g3, g5⟩
  rw [ed] at dy1
  obtain ⟨c, ys, rfl, hc, hY⟩ : ∃ c ys, y1 = .ref c ∧ SqT K H0 c ys ∧ DQs K H0 ys (.str kn :: t) := by
    cases dy1 with
    | tup g1 g2 => exact ⟨_, _, rfl, g1, g2⟩
  obtain ⟨w0, hw0, dw0⟩ := hY.get (i := 0) (d := .str kn) rfl
  cases dw0
  have lvs : vs.length ≤ 1000 := by
    rw [dv.len, List.length_map]
    refine Nat.le_trans (List.length_filter_le _ _) ?_
    rw [List.length_take]
    omega
  have hst := @lets_step rs nm i r er
  have no : letB nm r.2 = false → (i + 1 ≤ vs0.length ∧ Same HA H' ∧ ∃ vs, H' D = some (.lst vs) ∧ DQs K H0 vs (((rs.take (i + 1)).filter fun r => letB nm r.2).map fun r => pathD r.1)) := fun h => ⟨hlt, s, vs, hD, by
    rw [hst, h, if_neg Bool.false_ne_true, List.append_nil]
    exact dv⟩
  refine ⟨b, _, rfl, K0.seqT_same s1 hT, rfl, _, _, rfl, _, _, rfl, rfl, rfl, ?_⟩
  refine ⟨_, rfl, c, ys, _, _, rfl, rfl, K0.seqT_same s1 hc, atI_nat hw0, rfl, _, rfl, ?_⟩
  rw [dec_str]
  rcases hk with ⟨hne, hno⟩ | ⟨rfl, nm2, t', rfl, hl⟩
  · rw [decide_eq_false hne]
    exact iteF (iteF (no (hno nm)))
  · rw [decide_eq_true rfl]
    obtain ⟨w1, hw1, dw1⟩ := hY.get (i := 1) (d := .str nm2) rfl
    cases dw1
    refine iteT ⟨_, rfl, c, ys, _, _, rfl, rfl, K0.seqT_same s1 hc, atI_nat hw1, _, rfl, rfl, _, rfl, ?_⟩
    rw [dec_str]
    by_cases cn : nm2 = nm
    · have hb : letB nm r.2 = true := by rw [hl nm, decide_eq_true cn]
      rw [decide_eq_true cn]
      refine iteT ⟨_, rfl, vs, hD, by rw [sizeLine_eq]; omega, hlt, K0.same_over s nD, vs ++ [y0], upd_same, ?_⟩
      rw [hst, hb, if_pos rfl, List.map_append]
      exact dv.app (.cons dy0 .nil)
    · rw [decide_eq_false cn]
      exact iteF (no (by rw [hl nm, decide_eq_false cn]))
end K1
set_option maxHeartbeats 4000000
/-! the law's _law_meant -/
namespace K1
open PySem L2
abbrev NLm : List Str := ["_law_rows_here", "_law_path", "_law_name", "_law_ahead", "_law_lets", "_law_row", "_law_one_here", "_law_item_here"]
def optP : Option (List Int) → PyData
  | some p => pathD p
  | none => .none
def spLM (K : PySem.W.Frag) : Sp := fun vs H Q _ => ∃ (a : Addr) (xs : List V) (pw : V) (rs : List (List Int × It)) (p : List Int) (nm : Str), vs = [.ref a, pw, .str nm] ∧ SqL K H a xs ∧ DQs K H xs (rs.map rowX) ∧ DQ K H pw (pathD p) ∧ p.length ≤ 1000 ∧ rs.length ≤ 1000 ∧ (∀ r ∈ rs, r.1 ≠ [] ∧ r.1.length ≤ 1000 ∧ RowK r.2) ∧
  ∀ H' z, Same H H' → DQ K H' z (optP (lawM rs nm p.length p)) → Q z H'
theorem last_of {K : PySem.W.Frag} {H : Hp} {us : List V} {ds : List PyData} {d : PyData} (h : DQs K H us ds) (e : ds.getLast? = some d) (hl : ds.length ≤ 1000) : ∃ u, atI us (-1) = some u ∧ DQ K H u d := by
  rw [List.getLast?_eq_getElem?] at e
  obtain ⟨u, e2, q⟩ := h.get e
  have l := h.len
  refine ⟨u, atI_end (by rw [List.getLast?_eq_getElem?, l]; exact e2) (by omega), q⟩
section
variable {P : Program} {w : World} {K : PySem.W.Frag} {mg : Str → Option Value} {base : Heap}
theorem sc_lmeant : FnScope NLm ["_law_rows_here", "_law_path", "_law_name"] (defScope (top 36)) := ⟨rfl, rfl, rfl, by decide +kernel, rfl, by decide +kernel, by decide +kernel⟩
theorem cl_lmeant (T : All K mg) : ClG P w K mg base 1 "_law_meant" ["_law_rows_here", "_law_path", "_law_name"] (spLM K) := by
  obtain ⟨g, fd, D⟩ := T.dn 36 _ _ rfl
  refine ⟨g, fd, okG D.fn sc_lmeant (fun vs H Q E h => ?_) (fun cdv A outer s H vs Q E hgd hr h => ?_), D.mg, D.fn.kp, D.bn⟩
  · obtain ⟨a, xs, pw, rs, p, nm, rfl, _⟩ := h
    rfl
  · obtain ⟨a, xs, pw, rs, p, nm, rfl, ha, dx, hp, hpl, hrl, hr', k⟩ := h
    have hrn : Room 0 _ := hr
    refine ⟨_, (pss_cons (ps_while PassesOwn.never (pt_cmpR (op_neD hr.units) (pv 1) (pe_tup pa_nil) (nomark _)) (pss_cons (ps_setLc (i := 3) (own := [("_law_row", 5)]) (g := gName 5) (te := (tVar 5)) (tt := (tAnd (tTest (tOp (rEqD K) (tSl (rSlT K) (tOp (rIxT K) (tVar 5) (tC (.int 0))) tNoPart (tPart (tUn (rU fun i => V.int (-i)) (tC (.int 1))))) (tSl (rSlT K) (tVar 1) tNoPart (tPart (tUn (rU fun i => V.int (-i)) (tC (.int 1))))))) (tTest (tOp (rI0 fun i j => V.bl (decide (i < j))) (tOp (rIxT K) (tOp (rIxT K) (tVar 5) (tC (.int 0))) (tUn (rU fun i => V.int (-i)) (tC (.int 1)))) (tOp (rIxT K) (tVar 1) (tUn (rU fun i => V.int (-i)) (tC (.int 1)))))))) rfl sc_lmeant.nd rfl rfl (sw_true rfl rfl rfl (by decide +kernel)) (pi_list (pv 0)) (blkOk_by (own := [("_law_row", 5)]) (N := NLm) (sc := defScope (top 36)) (by decide +kernel)) (fun _ _ _ _ _ => pg_name (i := 5) sc_lmeant.nd rfl (Or.inl rfl)) (fun _ _ _ _ _ => (pts_one (PW.pt (pw_and (pt_cmpR (op_eqD hr.units) (pe_slice sl_tup (pe_ix ix_tup (pv 5) pe_int (fun _ _ => rfl)) po_none (po_some (pe_un un_neg pe_int))) (pe_slice sl_tup (pv 1) po_none (po_some (pe_un un_neg pe_int))) (nomark _)) (pw_and1 (pt_cmpR op_lt (pe_ix ix_tup (pe_ix ix_tup (pv 5) pe_int (fun _ _ => rfl)) (pe_un un_neg pe_int) (fun _ _ => rfl)) (pe_ix ix_tup (pv 1) (pe_un un_neg pe_int) (fun _ _ => rfl)) (nomark _))))))) (fun _ _ _ _ _ => (pv 5)))
      (pss_cons (ps_setLc (i := 4) (own := [("_law_one_here", 6), ("_law_item_here", 7)]) (g := gTup K 2 (gCons (gName 6) (gCons (gName 7) gNil))) (te := (tVar 6)) (tt := (tAnd (tTest (tOp rEq (tOp (rIxT K) (tVar 7) (tC (.int 0))) (tC (.str "let")))) (tTest (tOp rEq (tOp (rIxT K) (tVar 7) (tC (.int 1))) (tVar 2))))) rfl sc_lmeant.nd rfl rfl (sw_true rfl rfl rfl (by decide +kernel)) (pi_list (pv 3)) (blkOk_by (own := [("_law_one_here", 6), ("_law_item_here", 7)]) (N := NLm) (sc := defScope (top 36)) (by decide +kernel)) (fun _ _ _ _ _ => pg_tup rfl (pgs_cons (pg_name (i := 6) sc_lmeant.nd rfl (Or.inl rfl)) (pgs_cons (pg_name (i := 7) sc_lmeant.nd rfl (Or.inl rfl)) pgs_nil))) (fun _ _ _ _ _ => (pts_one (PW.pt (pw_and (pt_cmpR op_eq (pe_ix ix_tup (pv 7) pe_int (fun _ _ => rfl)) pe_str (nomark _)) (pw_and1 (pt_cmpR op_eq (pe_ix ix_tup (pv 7) pe_int (fun _ _ => rfl)) (pv 2) (nomark _))))))) (fun _ _ _ _ _ => (pv 6)))
      (pss_cons (ps_if (pt_cmpR (op_neE hr.units) (pv 4) (pe_lst pa_nil) (nomark _)) (pss_one (ps_ret (pe_ix ix_list (pv 4) (pe_un un_neg pe_int) (fun _ _ => rfl)))) pss_nil)
      (pss_one (ps_set (i := 1) sc_lmeant.nd rfl (Or.inr rfl) (pe_slice sl_tup (pv 1) po_none (po_some (pe_un un_neg pe_int)))))))))
      (pss_one (ps_ret pe_non))), ?_⟩
    refine ⟨fun m σ H' => Same H H' ∧ ∃ (p' : List Int) (pw' : V) (z3 z4 z5 z6 z7 : Option V), m = p'.length ∧ p'.length ≤ 1000 ∧ DQ K H' pw' (pathD p') ∧ lawM rs nm p'.length p' = lawM rs nm p.length p ∧ σ = [some (.ref a), some pw', some (.str nm), z3, z4, z5, z6, z7], ⟨_, Same.refl H, p, pw, _, _, _, _, _, rfl, hpl, hp, rfl, rfl⟩, ?_⟩
    rintro m σ H1 ⟨s1, p', pw', z3, z4, z5, z6, z7, rfl, hpl', hp', hlaw, rfl⟩
    refine ⟨_, rfl, Nat.zero_le _, fun t nt => ?_⟩
    have sT := K0.same_upd (o := .tup []) nt
    have s2 := s1.trans sT
    refine path_ne (q := []) (hp'.to sT) (.tup (.inl (.inl upd_same)) .nil) ⟨_, rfl, ?_⟩
    by_cases pe : p' = []
    · subst pe
      refine iteF ?_
      refine k _ _ s2 ?_
      rw [← hlaw]
      exact .non
    · rw [decide_eq_false pe]
      have hp2 := hp'.to sT
      generalize upd H1 t (.tup []) = H2 at s2 hp2 ⊢
      have pos : 0 < p'.length := List.length_pos_iff.mpr pe
      refine iteT ⟨fun σ' H' => Same H H' ∧ lawM rs nm p'.dropLast.length p'.dropLast = lawM rs nm p.length p ∧ ∃ (pw' : V) (z3 z4 z5 z6 z7 : Option V), DQ K H' pw' (pathD p'.dropLast) ∧ σ' = [some (.ref a), some pw', some (.str nm), z3, z4, z5, z6, z7], ?_, ?_⟩
      · rintro σ' H' ⟨e1, e2, pw2, y3, y4, y5, y6, y7, e3, e4⟩
        exact ⟨_, by rw [List.length_dropLast]; omega, e1, p'.dropLast, pw2, y3, y4, y5, y6, y7, rfl, by rw [List.length_dropLast]; omega, e3, e2, e4⟩
      · unfold tSeq tAsg
        change tLc (iList K (tVar 0)) (gName 5) (ttAhead K) (tVar 5) [5] [some (.ref a), some pw', some (.str nm), z3, z4, z5, z6, z7] H2 _
        refine ahead_lc (s2.seq ha) (dx.to s2) hp2 pe hpl' hrl (fun r hr => ⟨(hr' r hr).1, (hr' r hr).2.1⟩) fun H3 D1 vs s3 nD1 hD1 dv => ?_
        have fl : (rs.filter (aheadB p')).length ≤ 1000 := Nat.le_trans (List.length_filter_le _ _) hrl
        unfold gName
        dsimp only
        change tLc (iList K (tVar 3)) (gTup K 2 (gCons (gName 6) (gCons (gName 7) gNil))) (ttLets K) (tVar 6) [6, 7] [some (.ref a), some pw', some (.str nm), some (.ref D1), z4, z5, z6, z7] H3 _
        refine lets_lc (nm := nm) (z0 := some (.ref a)) (z1 := some pw') (z4 := z4) (z5 := z5) (z6 := z6) (z7 := z7) s3 hD1 dv fl (fun r hr => (hr' r (List.mem_filter.mp hr).1).2.2) fun H4 D2 us s4 nD2 hD2 du => ?_
        have s34 := s3.trans s4
        refine ⟨_, rfl, Nat.zero_le _, fun q nq => ?_⟩
        have sq := K0.same_upd (o := .lst []) nq
        have s35 := s34.trans sq
        refine ⟨D2, q, us, rfl, rfl, SqL.of (sq _ _ hD2), SqL.of upd_same, _, rfl, ?_⟩
        have hD5 := sq _ _ hD2
        generalize upd H4 q (.lst []) = H5 at s35 hD5 ⊢
        have unf : lawM rs nm p'.length p' = (match ((rs.filter (aheadB p')).filter fun r => letB nm r.2).getLast? with
          | some r => some r.1
          | none => lawM rs nm (p'.length - 1) p'.dropLast) := by
          obtain ⟨n, hn⟩ : ∃ n, p'.length = n + 1 := ⟨p'.length - 1, by omega⟩
          rw [hn]
          rfl
        have fl2 : ((rs.filter (aheadB p')).filter fun r => letB nm r.2).length ≤ 1000 := Nat.le_trans (List.length_filter_le _ _) fl
        generalize ((rs.filter (aheadB p')).filter fun r => letB nm r.2) = F at du unf fl2
        cases eF : F.getLast? with
        | none =>
          rw [List.getLast?_eq_none_iff] at eF
          subst eF
          cases du
          refine iteF ⟨_, rfl, 1, rfl, _, rfl, path_cut (hp2.to s35) pe fun H6 w s6 dw => ?_⟩
          exact ⟨s2.trans (s35.trans s6), by rw [← hlaw, unf, List.length_dropLast]; rfl, w, _, _, _, _, _, dw, rfl⟩
        | some r =>
          obtain ⟨u, hu, du1⟩ := last_of du (d := pathD r.1) (by rw [List.getLast?_map, eF]; rfl) (by rw [List.length_map]; exact fl2)
          have ne : us ≠ [] := fun z => by
            subst z
            cases du_e : F with
            | nil => rw [du_e] at eF; cases eF
            | cons x t => rw [du_e] at du; cases du
          have nb : (!us.isEmpty) = true := by
            cases us with
            | nil => exact absurd rfl ne
            | cons _ _ => rfl
          rw [nb]
          refine iteT ⟨_, rfl, 1, rfl, D2, us, _, _, rfl, rfl, SqL.of hD5, hu, ?_⟩
          refine k _ _ (s2.trans s35) ?_
          rw [← hlaw, unf, eF]
          exact du1.to s35
end
end K1
set_option maxHeartbeats 4000000
/-! the first sign of the first row that is not seen -/
namespace K1
open PySem L2
mutual
def It.fstU (U : List Int → It → Bool) (p : List Int) (at_ : Nat) : It → Option Int
  | .leaf h w => if U p (.leaf h w) = true then some (at_ : Int) else none
  | .node h o b l => if U p (.node h o b l) = true then some (at_ : Int) else fstL U p 0 (at_ + o.length + if b = true then 0 else 1) l
def fstL (U : List Int → It → Bool) (p : List Int) (k : Nat) (at_ : Nat) : List It → Option Int
  | [] => none
  | x :: r => (x.fstU U (p ++ [(k : Int)]) at_).or (fstL U p (k + 1) (at_ + x.word.length + 1) r)
end
def firstR (U : List Int → It → Bool) (rs : List (List Int × It)) (ss : List (List Int × Int × Int)) : Option Int := ((rs.zip ss).find? fun z => U z.1.1 z.1.2).map fun z => z.2.2.1
mutual
theorem fstU_rows (U : List Int → It → Bool) : ∀ (x : It) (p : List Int) (a : Nat), x.fstU U p a = firstR U (x.ris p) (x.rows p a)
  | .leaf h w, p, a => by
    rw [It.fstU, It.ris, It.rows]
    unfold firstR
    rw [List.zip_cons_cons, List.zip_nil_left, List.find?_cons]
    cases U p (.leaf h w) <;> rfl
  | .node h o b l, p, a => by
    have ih := fstL_rows U l p 0 (a + o.length + if b = true then 0 else 1)
    rw [It.fstU, It.ris, It.rows, ih]
    unfold firstR
    rw [List.zip_cons_cons, List.find?_cons]
    cases U p (.node h o b l) <;> rfl
theorem fstL_rows (U : List Int → It → Bool) : ∀ (l : List It) (p : List Int) (k a : Nat), fstL U p k a l = firstR U (risL p k l) (rowsL p k a l)
  | [], p, k, a => by rw [fstL, risL, rowsL]; rfl
  | x :: l, p, k, a => by
    rw [fstL, risL, rowsL, fstU_rows U x, fstL_rows U l]
    unfold firstR
    rw [List.zip_append (It.ris_len x _ a), List.find?_append]
    cases ((x.ris (p ++ [(k : Int)])).zip (x.rows (p ++ [(k : Int)]) a)).find? (fun z => U z.1.1 z.1.2) <;> rfl
end
end K1
set_option maxHeartbeats 4000000
/-! the law's first unseen sign is the program's -/
namespace K1
open PySem L2
mutual
theorem ph_ris : ∀ (x : It) (p : List Int), x.ph p = (x.ris p).map fun r => (r.1, headI r.2)
  | .leaf h w, p => by rw [It.ph, It.ris]; rfl
  | .node h o b l, p => by rw [It.ph, It.ris, List.map_cons, phL_ris l p 0]; rfl
theorem phL_ris : ∀ (l : List It) (p : List Int) (k : Nat), phL p k l = (risL p k l).map fun r => (r.1, headI r.2)
  | [], p, k => by rw [phL, risL]; rfl
  | x :: l, p, k => by rw [phL, risL, List.map_append, ph_ris x, phL_ris l]
end
/-- a use that sees nothing, by the law -/
def unsB (rs : List (List Int × It)) (p : List Int) (x : It) : Bool := match headI x with
  | [.str k, .str nm] => k == "use" && (lawM rs nm p.length p).isNone
  | _ => false
theorem uns_iff {n : Nat} {l : List It} (d : ∀ x ∈ l, Dr n x) {i : Nat} {r : List Int × It} (hr : (risL [] 0 l)[i]? = some r) : unsB (risL [] 0 l) r.1 r.2 = true ↔ useAt (phL [] 0 l) (envsL [] 0 l) i = some none := by
  have hp : (phL [] 0 l)[i]? = some (r.1, headI r.2) := by
    rw [phL_ris, List.getElem?_map, hr]
    rfl
  rw [unseen_law d, hp]
  unfold unsB
  constructor
  · intro h
    split at h
    · rename_i k nm e
      rw [Bool.and_eq_true] at h
      have hk : k = "use" := eq_of_beq h.1
      subst hk
      exact ⟨r.1, nm, by rw [e], Option.isNone_iff_eq_none.mp h.2⟩
    · cases h
  · rintro ⟨p, nm, e, hl⟩
    have e1 : r.1 = p ∧ headI r.2 = [.str "use", .str nm] := by
      have := Option.some.inj e
      exact ⟨congrArg Prod.fst this, congrArg Prod.snd this⟩
    rw [e1.2, e1.1]
    show (("use" : Str) == "use" && (lawM (risL [] 0 l) nm p.length p).isNone) = true
    rw [hl, show (("use" : Str) == "use") = true from by decide +kernel]
    rfl
theorem first_none {n : Nat} {l : List It} (d : ∀ x ∈ l, Dr n x) (h : fstL (unsB (risL [] 0 l)) [] 0 0 l = none) : ∀ i, useAt (phL [] 0 l) (envsL [] 0 l) i ≠ some none := by
  intro i hu
  rw [fstL_rows] at h
  unfold firstR at h
  rw [Option.map_eq_none_iff, List.find?_eq_none] at h
  obtain ⟨p, nm, e, _⟩ := (unseen_law d).mp hu
  have hi : i < (phL [] 0 l).length := (List.getElem?_eq_some_iff.mp e).1
  have hi2 : i < (risL [] 0 l).length := by
    rw [phL_ris, List.length_map] at hi
    exact hi
  have hi3 : i < (rowsL [] 0 0 l).length := by
    rw [← risL_len l [] 0 0]
    exact hi2
  have hz : ((risL [] 0 l).zip (rowsL [] 0 0 l))[i]? = some ((risL [] 0 l)[i], (rowsL [] 0 0 l)[i]) := by
    rw [List.getElem?_zip_eq_some]
    exact ⟨List.getElem?_eq_getElem hi2, List.getElem?_eq_getElem hi3⟩
  exact h _ (List.mem_of_getElem? hz) ((uns_iff d (List.getElem?_eq_getElem hi2)).mpr hu)
theorem first_some {n : Nat} {l : List It} (d : ∀ x ∈ l, Dr n x) {f : Int} (h : fstL (unsB (risL [] 0 l)) [] 0 0 l = some f) : ∃ i, Unseen (phL [] 0 l) (envsL [] 0 l) i ∧ ((rowsL [] 0 0 l).map (·.2.1))[i]? = some f := by
  rw [fstL_rows] at h
  unfold firstR at h
  rw [Option.map_eq_some_iff] at h
  obtain ⟨z, hz, rfl⟩ := h
  rw [List.find?_eq_some_iff_getElem] at hz
  obtain ⟨hu, i, hi, ez, hj⟩ := hz
  have hi' := hi
  rw [List.length_zip] at hi'
  have hi2 : i < (risL [] 0 l).length := by omega
  have hi3 : i < (rowsL [] 0 0 l).length := by omega
  have e := List.getElem_zip (h := hi)
  rw [e] at ez
  subst ez
  refine ⟨i, ⟨(uns_iff d (List.getElem?_eq_getElem hi2)).mp hu, fun j hj' hju => ?_⟩, ?_⟩
  · have h2 := hj j hj'
    rw [List.getElem_zip] at h2
    have := (uns_iff d (r := (risL [] 0 l)[j]'(by omega)) (List.getElem?_eq_getElem (by omega))).mpr hju
    rw [this] at h2
    cases h2
  · rw [List.getElem?_map, List.getElem?_eq_getElem hi3]
    rfl
end K1
set_option maxHeartbeats 4000000
/-! _law_first -/
namespace K1
open PySem L2
abbrev NLf : List Str := ["_law_rows_here", "_law_items", "_law_path", "_law_first_here", "_law_at", "_law_own", "_law_item_here", "_law_more", "_law_found"]
def optI : Option Int → V
  | some i => .int i
  | none => .non
def RowsOk (rs : List (List Int × It)) : Prop := rs.length ≤ 1000 ∧ ∀ r ∈ rs, r.1 ≠ [] ∧ r.1.length ≤ 1000 ∧ ∃ n, Dr n r.2
theorem RowsOk.k {rs : List (List Int × It)} (h : RowsOk rs) : ∀ r ∈ rs, r.1 ≠ [] ∧ r.1.length ≤ 1000 ∧ RowK r.2 := fun r hr => by
  obtain ⟨h1, h2, n, h3⟩ := h.2 r hr
  exact ⟨h1, h2, h3.rowK⟩
theorem fstL_app (U : List Int → It → Bool) : ∀ (l1 l2 : List It) (p : List Int) (k a : Nat), fstL U p k a (l1 ++ l2) = (fstL U p k a l1).or (fstL U p (k + l1.length) (a + (gapped l1).length) l2)
  | [], l2, p, k, a => by
    rw [List.nil_append, fstL, gapped]
    rfl
  | x :: r, l2, p, k, a => by
    rw [List.cons_append, fstL, fstL, fstL_app U r l2, gapped, Option.or_assoc]
    have e1 : k + 1 + r.length = k + (x :: r).length := by rw [List.length_cons]; omega
    have e2 : a + x.word.length + 1 + (gapped r).length = a + (32 :: (x.word ++ gapped r)).length := by
      rw [List.length_cons, List.length_append]; omega
    rw [e1, e2]
theorem fstL_one (U : List Int → It → Bool) (x : It) (p : List Int) (k a : Nat) : fstL U p k a [x] = x.fstU U (p ++ [(k : Int)]) a := by
  rw [fstL, fstL, Option.or_none]
theorem LfK.uns {h : List PyData} {w : List Nat} (k : LfK h w) (rs : List (List Int × It)) (p : List Int) : (∃ kn t, h = .str kn :: t ∧ kn ≠ "use" ∧ unsB rs p (.leaf h w) = false) ∨ ∃ nm : Str, h = [.str "use", .str nm] ∧ nm.length ≤ 1000 ∧ unsB rs p (.leaf h w) = (lawM rs nm p.length p).isNone := by
  cases k with
  | num m _ => exact .inl ⟨_, _, rfl, by decide +kernel, rfl⟩
  | lost => exact .inl ⟨_, _, rfl, by decide +kernel, rfl⟩
  | use w hw =>
    refine .inr ⟨_, rfl, by rw [sO_len]; have := (name_len hw).2.1; omega, ?_⟩
    show (("use" : Str) == "use" && (lawM rs (sO w) p.length p).isNone) = _
    rw [show (("use" : Str) == "use") = true from by decide +kernel, Bool.true_and]
theorem NdK.uns {h : List PyData} {o : List Nat} {b : Bool} (k : NdK h o b) (rs : List (List Int × It)) (p : List Int) (l : List It) : unsB rs p (.node h o b l) = false := by
  cases k with
  | block => rfl
  | sum => rfl
  | product => rfl
  | let_ w hw =>
    show (("let" : Str) == "use" && (lawM rs (sO w) p.length p).isNone) = false
    rw [show (("let" : Str) == "use") = false from by decide +kernel, Bool.false_and]
def spLF (K : PySem.W.Frag) (m : Nat) : Sp := fun vs H Q _ => ∃ (n : Nat) (a : Addr) (xs : List V) (rs : List (List Int × It)) (v pw : V) (pth : List Int) (l : List It) (f : Nat), m = n + 1 ∧ vs = [.ref a, v, pw, .int (f : Int)] ∧ SqL K H a xs ∧ DQs K H xs (rs.map rowX) ∧ RowsOk rs ∧ l.length ≤ 4 ∧ (∀ x ∈ l, Dr n x) ∧ pth.length + n ≤ 10 ∧ DQ K H v (.tuple (datL l)) ∧ DQ K H pw (pathD pth) ∧
  ∀ H', Same H H' → Q (optI (fstL (unsB rs) pth 0 f l)) H'
def PvF (K : PySem.W.Frag) (H : Hp) (a : Addr) (v pw : V) (U : List Int → It → Bool) (pth : List Int) (f : Nat) (l : List It) : Nat → St → Hp → Prop := fun i σ H' => i ≤ l.length ∧ Same H H' ∧ fstL U pth 0 f (l.take i) = none ∧ ∃ o4 o5 o6 o7 o8 : Option V,
  σ = [some (.ref a), some v, some pw, some (.int ((f + (gapped (l.take i)).length : Nat) : Int)), o4, o5, o6, o7, o8]
/-- what stands ahead of an item's first item -/
def more1 : List PyData → Int
  | [.str k] => if k = "block" then 1 else 3
  | _ => 0
def tMore1 (K : PySem.W.Frag) : TE := fun σ H Q => ∃ (u : V) (h : List PyData) (o : List Nat) (b : Bool) (e : PyData), σ[6]? = some (some u) ∧ NdK h o b ∧ DQ K H u (.tuple (h ++ [e])) ∧ ∀ H', Same H H' → Q (.int (more1 h)) H'
def tMore2 (K : PySem.W.Frag) : TE := fun σ H Q => ∃ (u : V) (h : List PyData) (o : List Nat) (b : Bool) (e : PyData), σ[6]? = some (some u) ∧ σ[7]? = some (some (.int (more1 h))) ∧ NdK h o b ∧ DQ K H u (.tuple (h ++ [e])) ∧ Q (.int ((o.length + if b = true then 0 else 1 : Nat) : Int)) H
abbrev kvM : List (Key × V) := [((.inr "block" : Key), V.int 1), (.inr "sum", .int 3), (.inr "product", .int 3)]
theorem NdK.more {h : List PyData} {o : List Nat} {b : Bool} (k : NdK h o b) : ∃ kn t, h = .str kn :: t ∧ (valV (mergeK [] kvM) (.inr kn)).getD (.int 0) = .int (more1 h) := by
  cases k with
  | block => exact ⟨_, _, rfl, by decide +kernel⟩
  | sum => exact ⟨_, _, rfl, by decide +kernel⟩
  | product => exact ⟨_, _, rfl, by decide +kernel⟩
  | let_ w hw =>
    refine ⟨_, _, rfl, ?_⟩
    rw [show valV (mergeK [] kvM) (.inr ("let" : Str)) = none from by decide +kernel]
    rfl
theorem NdK.opn {h : List PyData} {o : List Nat} {b : Bool} (k : NdK h o b) : (∃ kn, h = [.str kn] ∧ (!decide (V.str kn = V.str "let")) = true ∧ more1 h = ((o.length + if b = true then 0 else 1 : Nat) : Int)) ∨ ∃ w, w ∈ nameC ∧ h = [.str "let", .str (sO w)] ∧ (w.length : Int) + 4 = ((o.length + if b = true then 0 else 1 : Nat) : Int) := by
  cases k with
  | block => exact .inl ⟨_, rfl, by decide +kernel, by decide +kernel⟩
  | sum => exact .inl ⟨_, rfl, by decide +kernel, by decide +kernel⟩
  | product => exact .inl ⟨_, rfl, by decide +kernel, by decide +kernel⟩
  | let_ w hw =>
    refine .inr ⟨w, hw, rfl, ?_⟩
    simp
    omega
abbrev tWordStep (K : PySem.W.Frag) (n : Nat) : TS := tAsg (tOp (rI0 fun i j => V.int (i + j)) (tOp (rI0 fun i j => V.int (i + j)) (tVar 3) (tCB (fun xs H Q => ∃ z : Str, xs = [V.str z] ∧ z.length ≤ sizeLine ∧ Q (V.int (z.length : Nat)) H) (tCons (tCall (spWord K n) [] E0 (tCons (tVar 6) tNil)) tNil))) (tC (V.int 1))) (gName 3)
section
variable {P : Program} {w : World} {K : PySem.W.Frag} {mg : Str → Option Value} {base : Heap}
theorem sc_lfirst : FnScope NLf ["_law_rows_here", "_law_items", "_law_path", "_law_first_here"] (defScope (top 40)) := ⟨rfl, rfl, rfl, by decide +kernel, rfl, by decide +kernel, by decide +kernel⟩
theorem clG_no {k i : Nat} {x : Str} {ps : List Str} {sp : Sp} (T : All K mg) (h : tabL.lookup i = some (x, ps)) (no : ∀ vs H Q E, ¬ sp vs H Q E) : ClG P w K mg base k x ps sp := by
  obtain ⟨g, fd, D⟩ := T.dn i _ _ h
  exact ⟨g, fd, ⟨fun vs H Q E h => absurd h (no _ _ _ _), fun A outer s H args us vs Q E _ _ _ _ _ h => absurd h (no _ _ _ _)⟩, D.mg, D.fn.kp, D.bn⟩
theorem cl_lfirst (T : All K mg) (hrange : mg "range" = none) : ∀ m : Nat, m ≤ 3 → ClG P w K mg base (m + 1) "_law_first" ["_law_rows_here", "_law_items", "_law_path", "_law_first_here"] (spLF K m) := by
  obtain ⟨g, fd, D⟩ := T.dn 40 _ _ rfl
  intro m
  induction m with
  | zero => exact fun _ => clG_no T (i := 40) rfl fun vs H Q E ⟨n, _, _, _, _, _, _, _, _, e, _⟩ => by omega
  | succ m ih =>
    intro hm
    have IH := ih (by omega)
    refine ⟨g, fd, okG D.fn sc_lfirst (fun vs H Q E h => ?_) (fun cdv A outer s H vs Q E hgd hr h => ?_), D.mg, D.fn.kp, D.bn⟩
    · obtain ⟨n, a, xs, rs, v, pw, pth, l, f, _, rfl, _⟩ := h
      rfl
    · obtain ⟨n, a, xs, rs, v, pw, pth, l, f, en, rfl, ha, dx, hrs, hl, hc, hpl, hd, hp, k⟩ := h
      have hrn : Room (m + 1) _ := hr
      obtain rfl : n = m := by omega
      refine ⟨_, (pss_cons (ps_for PassesOwn.never rfl (pi_range1 rfl hrange (pa_cons (pe_callB call_len_seq (by rfl) T.bi.len PySem.boot_len (pa_cons (pv 1) pa_nil)) pa_nil)) (pg_name (i := 4) sc_lfirst.nd rfl (Or.inl rfl)) (pss_cons (ps_par (i := 5) (j := 6) rfl sc_lfirst.nd rfl rfl (by decide) rfl rfl (pa_cons (pe_op op_catA (pv 2) (pe_tup (pa_cons (pv 4) pa_nil))) (pa_cons (pe_ix ix_tup (pv 1) (pv 4) (fun _ _ => rfl)) pa_nil)) (by rfl))
      (pss_cons (ps_if (PW.pt (pw_and (pt_cmpR op_eq (pe_ix ix_tup (pv 6) pe_int (fun _ _ => rfl)) pe_str (nomark _)) (pw_and1 (pt_cmpR op_isN1 (pe_clG (cl_lmeant T) hgd hrn (by omega) (pa_cons (pv 0) (pa_cons (pv 5) (pa_cons (pe_ix ix_tup (pv 6) pe_int (fun _ _ => rfl)) pa_nil)))) pe_non (nomark _))))) (pss_one (ps_ret (pv 3))) pss_nil)
      (pss_cons (ps_if (pt_cmpR op_in_seq (pe_ix ix_tup (pv 6) pe_int (fun _ _ => rfl)) (pe_tup (pa_cons pe_str (pa_cons pe_str (pa_cons pe_str (pa_cons pe_str pa_nil))))) rfl) (pss_cons (ps_set (i := 7) sc_lfirst.nd rfl (Or.inl rfl) (K0.pe_imp (t' := tMore1 K) (pe_dget2 (hu_of hrn) (pe_disp (pps_cons pe_str pe_int (pps_cons pe_str pe_int (pps_cons pe_str pe_int pps_nil))) (by rfl) (by rfl) (fun z => by cases z) (by decide)) (pe_ix ix_tup (pv 6) pe_int (fun _ _ => rfl)) pe_int ⟨by rfl, by rfl, by rfl, by rfl⟩) (fun σ2 H2 Q2 hh => ?_)))
      (pss_cons (ps_set (i := 7) sc_lfirst.nd rfl (Or.inl rfl) (K0.pe_imp (t' := tMore2 K) (pe_ifExp (pt_cmpR op_ne (pe_ix ix_tup (pv 6) pe_int (fun _ _ => rfl)) pe_str (nomark _)) (pv 7) (pe_op op_add (pe_callB call_len_str (by rfl) T.bi.len PySem.boot_len (pa_cons (pe_ix ix_tup (pv 6) pe_int (fun _ _ => rfl)) pa_nil)) pe_int)) (fun σ2 H2 Q2 hh => ?_)))
      (pss_cons (ps_set (i := 8) sc_lfirst.nd rfl (Or.inl rfl) (pe_clG IH hgd hrn (Nat.le_refl _) (pa_cons (pv 0) (pa_cons (pe_ix ix_tup (pv 6) (pe_un un_neg pe_int) (fun _ _ => rfl)) (pa_cons (pv 5) (pa_cons (pe_op op_add (pv 3) (pv 7)) pa_nil))))))
      (pss_one (ps_if (pt_cmpR op_notN (pv 8) pe_non (nomark _)) (pss_one (ps_ret (pv 8))) pss_nil))))) pss_nil)
      (pss_one (ps_set (i := 3) sc_lfirst.nd rfl (Or.inl rfl) (pe_op op_add (pe_op op_add (pv 3) (pe_callB call_len_str (by rfl) T.bi.len PySem.boot_len (pa_cons (pe_clG (cl_word T n (by omega)) hgd hrn (by omega) (pa_cons (pv 6) pa_nil)) pa_nil))) pe_int)))))))
      (pss_one (ps_ret pe_non))), ?_⟩
      · obtain ⟨u, h, o, b, e, h6, hk, hd6, kk⟩ := hh
        refine fun pd nd => ⟨upd_same, kvM, rfl, by decide, pd, rfl, .inl ⟨_, .inl upd_same⟩, ?_⟩
        have s3 : Same H2 (upd (upd H2 pd (.dK [])) pd (.dK (mergeK [] kvM))) := fun b u e => by
          rw [upd_ne (ne_of_none e nd), upd_ne (ne_of_none e nd)]
          exact e
        have gd : (upd (upd H2 pd (.dK [])) pd (.dK (mergeK [] kvM))) pd = some (.dK (mergeK [] kvM)) := upd_same
        generalize upd (upd H2 pd (.dK [])) pd (.dK (mergeK [] kvM)) = H7 at s3 gd ⊢
        obtain ⟨kn, t, eh, ev⟩ := hk.more
        have hd7 := hd6.to s3
        have e7 := eh
        rw [eh] at hd7
        obtain ⟨a7, xs7, u7, ea7, hT7, hi7, hu7⟩ := hd7.item (i := 0) rfl
        cases hu7
        refine ⟨_, h6, a7, xs7, _, _, ea7, rfl, hT7, hi7, _, .inl ⟨_, .inr kn, .inl gd, rfl, rfl⟩, ?_⟩
        rw [ev]
        exact kk H7 s3
      · obtain ⟨u, h, o, b, e, h6, h7, hk, hd6, kk⟩ := hh
        rcases hk.opn with ⟨kn, rfl, hne, em⟩ | ⟨wn, hwn, rfl, em⟩
        · obtain ⟨a7, xs7, u7, ea7, hT7, hi7, hu7⟩ := hd6.item (i := 0) rfl
          cases hu7
          refine ⟨_, h6, a7, xs7, _, _, ea7, rfl, hT7, hi7, rfl, ?_⟩
          rw [hne]
          rw [em] at h7
          exact ⟨_, rfl, iteT ⟨_, h7, kk⟩⟩
        · obtain ⟨a7, xs7, u7, ea7, hT7, hi7, hu7⟩ := hd6.item (i := 0) rfl
          cases hu7
          refine ⟨_, h6, a7, xs7, _, _, ea7, rfl, hT7, hi7, rfl, ?_⟩
          rw [show (!decide (V.str "let" = V.str "let")) = false from by decide +kernel]
          obtain ⟨a9, xs9, u9, ea9, hT9, hi9, hu9⟩ := hd6.item (i := 1) rfl
          cases hu9
          have w2 := (name_len hwn).2.1
          rw [← em] at kk
          refine ⟨_, rfl, iteF ⟨_, h6, a9, xs9, _, _, ea9, rfl, hT9, hi9, _, rfl, by rw [sO_len]; exact sizeL (m := 4) w2, _, _, rfl, rfl, ?_⟩⟩
          rw [sO_len]
          exact kk
      obtain ⟨ta, txs, rfl, hT, hD⟩ : ∃ ta txs, v = .ref ta ∧ SqT K H ta txs ∧ DQs K H txs (datL l) := by
        cases hd with
        | tup h1 h2 => exact ⟨_, _, rfl, h1, h2⟩
      have ltx : txs.length = l.length := by rw [hD.len, datL_map, List.length_map]
      refine ⟨_, rfl, ta, txs, rfl, .inr hT, _, rfl, by omega, by omega, ?_⟩
      rw [Int.toNat_natCast, ltx]
      refine for_range (lo := 0) (n := l.length) (PvF K H a (.ref ta) pw (unsB rs) pth f l) ⟨Nat.zero_le _, Same.refl H, by rw [List.take_zero, fstL], _, _, _, _, _, rfl⟩ ?_ ?_
      · rintro i σ H1 hi ⟨hle, s1, hno, o4, o5, o6, o7, o8, rfl⟩
        have ei : l[i]? = some l[i] := List.getElem?_eq_getElem hi
        have hdr := hc l[i] (List.getElem_mem hi)
        have esp : l = l.take i ++ (l[i] :: l.drop (i + 1)) := by
          rw [← List.drop_eq_getElem_cons hi, List.take_append_drop]
        generalize l[i] = x at ei hdr esp
        have htk : l.take (i + 1) = l.take i ++ [x] := by rw [List.take_succ, ei]; rfl
        have lti : (l.take i).length = i := by rw [List.length_take]; omega
        have htg : f + (gapped (l.take (i + 1))).length = f + (gapped (l.take i)).length + x.word.length + 1 := by
          rw [htk, gapped_app, gapped, gapped, List.length_append, List.length_cons, List.append_nil]
          omega
        have hone : fstL (unsB rs) pth 0 f (l.take (i + 1)) = x.fstU (unsB rs) (pth ++ [(i : Int)]) (f + (gapped (l.take i)).length) := by
          rw [htk, fstL_app, hno, Option.none_or, lti, Nat.zero_add, fstL_one]
        have hall : ∀ z, x.fstU (unsB rs) (pth ++ [(i : Int)]) (f + (gapped (l.take i)).length) = some z → fstL (unsB rs) pth 0 f l = some z := fun z hz => by
          rw [esp, fstL_app, hno, Option.none_or, lti, Nat.zero_add, fstL, hz]
          rfl
        generalize f + (gapped (l.take i)).length = fi at htg hone hall ⊢
        obtain ⟨u, hu, du⟩ := hD.get (i := i) (d := x.dat) (by rw [datL_map, List.getElem?_map, ei]; rfl)
        have fin : ∀ (H6 : Hp) (o4 o5 o6 o7 o8 : Option V), Same H H6 → x.fstU (unsB rs) (pth ++ [(i : Int)]) fi = none → PvF K H a (.ref ta) pw (unsB rs) pth f l (i + 1) [some (.ref a), some (.ref ta), some pw, some (.int ((fi : Int) + ((sO x.word).length : Int) + 1)), o4, o5, o6, o7, o8] H6 := by
          intro H6 o4 o5 o6 o7 o8 h1 h2
          refine ⟨hi, h1, by rw [hone, h2], o4, o5, o6, o7, o8, ?_⟩
          rw [htg, sO_len]
          rfl
        refine ⟨_, rfl, _, rfl, sizeL (m := 1) (Nat.le_refl _), fun t nt => ?_⟩
        have s2 := K0.same_upd (o := .tup [V.int (0 + (i : Int))]) nt
        rw [Int.zero_add] at s2 ⊢
        have s12 := s1.trans s2
        have dT : DQ K (upd H1 t (.tup [V.int (i : Int)])) (.ref t) (pathD [(i : Int)]) := .tup (.inl (.inl upd_same)) (.cons (.int _) .nil)
        generalize upd H1 t (.tup [V.int (i : Int)]) = H2 at s12 dT ⊢
        refine path_cat (hp.to s12) dT (by omega) fun H3 ov s3 dov => ?_
        have s13 := s12.trans s3
        refine ⟨_, rfl, _, rfl, ta, txs, _, u, rfl, rfl, K0.seqT_same s13 hT, atI_nat hu, _, _, rfl, ?_⟩
        have du3 := du.to s13
        have rest : ∀ (D : Ends) (H6 : Hp) (o4 o5 o7 o8 : Option V), Same H H6 → x.fstU (unsB rs) (pth ++ [(i : Int)]) fi = none → D.nx = PvF K H a (.ref ta) pw (unsB rs) pth f l (i + 1) → tWordStep K n D [some (.ref a), some (.ref ta), some pw, some (.int (fi : Int)), o4, o5, some u, o7, o8] H6 := by
          intro D H6 o4 o5 o7 o8 s6 hnone hD
          refine ⟨_, rfl, _, rfl, u, x, rfl, hdr, du.to s6, fun H7 s7 => ?_⟩
          have hwl : x.word.length ≤ 251 := Nat.le_trans hdr.len (wB_le (by omega))
          refine ⟨_, rfl, by rw [sO_len]; exact sizeL (m := 251) hwl, _, _, rfl, rfl, _, _, rfl, rfl, ?_⟩
          show D.nx _ _
          rw [hD]
          exact fin H7 _ _ _ _ _ (s6.trans s7) hnone
        cases hdr with
        | @leaf _ h wd hk =>
          rw [It.dat] at du3
          obtain ⟨kn, kr, eh, hin⟩ := hk.kindIn
          have inn : ∀ (H6 : Hp), Same H3 H6 → ∃ a1 xs1, u = .ref a1 ∧ SqT K H6 a1 xs1 ∧ atI xs1 0 = some (.str kn) := fun H6 s6 => by
            have du6 := du3.to s6
            rw [eh] at du6
            obtain ⟨a1, xs1, u1, e1, hT1, hi1, hu1⟩ := du6.item (i := 0) rfl
            cases hu1
            exact ⟨a1, xs1, e1, hT1, hi1⟩
          rcases hk.uns rs (pth ++ [(i : Int)]) with ⟨kn', kr', eh', hne, hun⟩ | ⟨nm, eh', lnm, hun⟩
          · obtain ⟨a1, xs1, rfl, hT1, hi1⟩ := inn H3 (Same.refl _)
            have ek : kn' = kn := by
              rw [eh] at eh'
              have := (List.cons.inj eh').1
              cases this
              rfl
            subst ek
            refine ⟨_, rfl, a1, xs1, _, _, rfl, rfl, hT1, hi1, rfl, _, rfl, ?_⟩
            rw [dec_str, decide_eq_false hne]
            refine iteF (iteF ⟨_, rfl, a1, xs1, _, _, rfl, rfl, hT1, hi1, sizeL (m := 4) (Nat.le_refl _), fun t3 nt3 => ⟨t3, _, rfl, .inr (.inl (.inl upd_same)), rfl, rfl, _, rfl, ?_⟩⟩)
            have s6 := K0.same_upd (o := .tup [V.str "block", V.str "sum", V.str "product", V.str "let"]) nt3
            rw [hin]
            exact iteF (rest _ _ _ _ _ _ (s13.trans s6) (by rw [It.fstU, hun]; rfl) rfl)
          · have ek : kn = "use" := by
              rw [eh] at eh'
              have := (List.cons.inj eh').1
              cases this
              rfl
            obtain ⟨a1, xs1, rfl, hT1, hi1⟩ := inn H3 (Same.refl _)
            have du3' := du3
            rw [eh'] at du3'
            obtain ⟨a2, xs2, u2, e2, hT2, hi2, hu2⟩ := du3'.item (i := 1) rfl
            cases e2
            cases hu2
            refine ⟨_, rfl, a1, xs1, _, _, rfl, rfl, hT1, hi1, rfl, _, rfl, ?_⟩
            rw [dec_str, decide_eq_true ek]
            refine iteT ⟨_, rfl, _, rfl, _, rfl, a1, xs2, _, _, rfl, rfl, hT2, hi2, a, xs, ov, rs, pth ++ [(i : Int)], nm, rfl, s13.seq ha, dx.to s13, dov, by rw [List.length_append, List.length_singleton]; omega, hrs.1, hrs.k, fun H4 z s4 dz => ⟨rfl, _, rfl, ?_⟩⟩
            cases eL : lawM rs nm (pth ++ [(i : Int)]).length (pth ++ [(i : Int)]) with
            | none =>
              rw [eL] at dz
              cases dz
              rw [decide_eq_true rfl]
              refine iteT ⟨_, rfl, ?_⟩
              have h2 := hall (fi : Int) (by rw [It.fstU, hun, eL]; rfl)
              have h3 := k H4 (s13.trans s4)
              rw [h2] at h3
              exact h3
            | some q =>
              rw [eL] at dz
              obtain ⟨b, rfl⟩ : ∃ b, z = .ref b := by
                cases dz with
                | tup _ _ => exact ⟨_, rfl⟩
              rw [decide_eq_false (fun z => by cases z)]
              obtain ⟨a4, xs4, e4, hT4, hi4⟩ := inn H4 s4
              cases e4
              refine iteF (⟨_, rfl, a1, xs4, _, _, rfl, rfl, hT4, hi4, sizeL (m := 4) (Nat.le_refl _), fun t3 nt3 => ⟨t3, _, rfl, .inr (.inl (.inl upd_same)), rfl, rfl, _, rfl, ?_⟩⟩)
              have s6 := K0.same_upd (o := .tup [V.str "block", V.str "sum", V.str "product", V.str "let"]) nt3
              rw [hin]
              exact iteF (rest _ _ _ _ _ _ ((s13.trans s4).trans s6) (by rw [It.fstU, hun, eL]; rfl) rfl)
        | @node n' h o b lc hk hlc hcc =>
          rw [It.dat] at du3
          obtain ⟨kn, kr, eh, hin⟩ := hk.kindIn
          have hun := hk.uns rs (pth ++ [(i : Int)]) lc
          have hlen2 : h.length ≤ 2 := hk.kind.choose_spec.choose_spec.2.2.2.2
          have kne : kn ≠ "use" := fun e => by
            rw [e] at hin
            exact absurd hin (by decide +kernel)
          have efst : (It.node h o b lc).fstU (unsB rs) (pth ++ [(i : Int)]) fi = fstL (unsB rs) (pth ++ [(i : Int)]) 0 (fi + o.length + if b = true then 0 else 1) lc := by
            rw [It.fstU, hun]
            rfl
          have du3' := du3
          rw [eh] at du3'
          obtain ⟨a1, xs1, u1, rfl, hT1, hi1, hu1⟩ := du3'.item (i := 0) rfl
          cases hu1
          refine ⟨_, rfl, a1, xs1, _, _, rfl, rfl, hT1, hi1, rfl, _, rfl, ?_⟩
          rw [dec_str, decide_eq_false kne]
          refine iteF (iteF ⟨_, rfl, a1, xs1, _, _, rfl, rfl, hT1, hi1, sizeL (m := 4) (Nat.le_refl _), fun t3 nt3 => ⟨t3, _, rfl, .inr (.inl (.inl upd_same)), rfl, rfl, _, rfl, ?_⟩⟩)
          have s6 := K0.same_upd (o := .tup [V.str "block", V.str "sum", V.str "product", V.str "let"]) nt3
          rw [hin]
          have s16 := s13.trans s6
          have du6 := du3.to s6
          have dov6 := dov.to s6
          generalize upd H3 t3 (.tup [V.str "block", V.str "sum", V.str "product", V.str "let"]) = H6 at s16 du6 dov6 ⊢
          refine iteT ⟨.ref a1, h, o, b, _, rfl, hk, du6, fun H7 s7 => ⟨.ref a1, h, o, b, _, rfl, rfl, hk, du6.to s7, ?_⟩⟩
          have s17 := s16.trans s7
          have du7 := du6.to s7
          obtain ⟨a8, xs8, u8, ea8, hT8, hi8, hu8⟩ := du7.last (by omega)
          cases ea8
          refine ⟨_, rfl, _, rfl, 1, rfl, a1, xs8, _, _, rfl, rfl, hT8, hi8, _, rfl, _, rfl, _, rfl, _, _, rfl, rfl, ?_⟩
          have hs : (fi : Int) + ((o.length + if b = true then 0 else 1 : Nat) : Int) = ((fi + o.length + if b = true then 0 else 1 : Nat) : Int) := by omega
          refine ⟨n', a, xs, rs, u8, ov, pth ++ [(i : Int)], lc, fi + o.length + if b = true then 0 else 1, rfl, by rw [← hs]; rfl, s17.seq ha, dx.to s17, hrs, Nat.le_trans hlc (by decide), hcc, by rw [List.length_append, List.length_singleton]; omega, hu8, dov6.to s7, fun H9 s9 => ⟨_, rfl, rfl, _, rfl, ?_⟩⟩
          have s19 := s17.trans s9
          cases eF : fstL (unsB rs) (pth ++ [(i : Int)]) 0 (fi + o.length + if b = true then 0 else 1) lc with
          | none =>
            refine iteF ?_
            exact rest _ _ _ _ _ _ s19 (by rw [efst, eF]) rfl
          | some z =>
            refine iteT ⟨_, rfl, ?_⟩
            have h2 := hall z (by rw [efst, eF])
            have h3 := k H9 s19
            rw [h2] at h3
            exact h3
      · rintro σ H1 ⟨_, s1, hno, o4, o5, o6, o7, o8, rfl⟩
        rw [List.take_length] at hno
        have := k H1 s1
        rw [hno] at this
        exact this
end
end K1
set_option maxHeartbeats 4000000
/-! _law_healed -/
namespace K1
open PySem L2
abbrev NLh : List Str := ["_law_pool_here", "_law_rows_here", "_law_items", "_law_path", "_law_found", "_law_at", "_law_own", "_law_item_here", "_law_lets", "_law_one_here", "_law_other"]
abbrev ttHl (K : PySem.W.Frag) : TT := tAnd (tTest (tOp rEq (tOp (rIxT K) (tVar 10) (tC (.int 0))) (tC (.str "let")))) (tTest (tOp (rEqD K) (tCall (spLM K) [] E0 (tCons (tVar 1) (tCons (tVar 6) (tCons (tOp (rIxT K) (tVar 10) (tC (.int 1))) tNil)))) (tVar 9)))
/-- data beside a pool: without its last, and more behind it -/
theorem dqs_last {K : PySem.W.Frag} {H : Hp} : ∀ {ds : List PyData} {e : PyData} {xs : List V}, DQs K H xs (ds ++ [e]) → ∃ ys y, xs = ys ++ [y] ∧ DQs K H ys ds ∧ DQ K H y e
  | [], e, xs, h => by
    cases h with
    | cons h1 h2 =>
      cases h2
      exact ⟨[], _, rfl, .nil, h1⟩
  | d :: ds, e, xs, h => by
    cases h with
    | cons h1 h2 =>
      obtain ⟨ys, y, rfl, g1, g2⟩ := dqs_last h2
      exact ⟨_ :: ys, y, rfl, .cons h1 g1, g2⟩
theorem tup_cut {K : PySem.W.Frag} {p : Addr} {H : Hp} {v : V} {ds : List PyData} {e : PyData} {Q : VK} (src : Src H p) (h : DQ K (hid p H) v (.tuple (ds ++ [e]))) (k : ∀ H' z, Same H H' → DQ K (hid p H') z (.tuple ds) → Q z H') : rSlT K v none (some (-1)) H Q := by
  cases h with
  | @tup a xs _ h1 h2 =>
    obtain ⟨ys, y, rfl, g1, g2⟩ := dqs_last h2
    refine ⟨a, ys ++ [y], rfl, K0.seqT_same (hid_same p H) h1, fun e => ?_, fun q nq => ?_⟩
    · have e2 := e.2
      unfold HT.sIx at e2
      have e3 : (if (-1 : Int) < 0 then ((-1 : Int) + ((ys ++ [y]).length : Int)).toNat else min (-1 : Int).toNat (ys ++ [y]).length) = (ys ++ [y]).length := e2
      rw [if_pos (by decide), List.length_append, List.length_singleton] at e3
      omega
    · rw [cut_drop, List.dropLast_concat]
      have nqp := Bt.ne src nq
      exact k _ _ (K0.same_upd nq) (.tup (.inl (.inl (by rw [hid_ne nqp, upd_same]))) (g1.to (hid_mono (K0.same_upd nq))))
theorem tup_cat {K : PySem.W.Frag} {p : Addr} {H : Hp} {v u : V} {ds es : List PyData} {Q : VK} (src : Src H p) (h : DQ K (hid p H) v (.tuple ds)) (g : DQ K (hid p H) u (.tuple es)) (hl : ds.length + es.length ≤ 1000) (k : ∀ H' z, Same H H' → DQ K (hid p H') z (.tuple (ds ++ es)) → Q z H') : rCatA K v u H Q := by
  have h0 := h
  have g0 := g
  cases h with
  | @tup a xs _ h1 h2 =>
    cases g with
    | @tup b ys _ g1 g2 =>
      have l1 := h2.len
      have l2 := g2.len
      refine ⟨a, b, xs, ys, rfl, rfl, K0.seqT_same (hid_same p H) h1, K0.seqT_same (hid_same p H) g1, by rw [sizeLine_eq]; omega, fun e => ?_, fun _ e => ?_, fun _ _ q nq => ?_⟩
      · subst e
        cases ds with
        | nil => exact k H _ (Same.refl H) g0
        | cons _ _ => cases l1
      · subst e
        cases es with
        | nil => exact k H _ (Same.refl H) (by rw [List.append_nil]; exact h0)
        | cons _ _ => cases l2
      · have s1 := K0.same_upd (o := .tup (xs ++ ys)) nq
        have nqp := Bt.ne src nq
        exact k _ _ s1 (.tup (.inl (.inl (by rw [hid_ne nqp, upd_same]))) ((h2.to (hid_mono s1)).app (g2.to (hid_mono s1))))
/-- what a row's head is, with its name -/
theorem Dr.rowW {n : Nat} {x : It} (d : Dr n x) : ∃ (kn : Str) (t : List PyData), x.dat = .tuple (.str kn :: t) ∧ (kn ≠ "let" ∨ (kn = "let" ∧ ∃ w, w ∈ nameC ∧ ∃ t', t = .str (sO w) :: t')) := by
  cases d with
  | @leaf _ h w k =>
    cases k with
    | num m _ => exact ⟨_, _, rfl, .inl (by decide +kernel)⟩
    | lost => exact ⟨_, _, rfl, .inl (by decide +kernel)⟩
    | use w _ => exact ⟨_, _, rfl, .inl (by decide +kernel)⟩
  | @node _ h o b l k _ _ =>
    cases k with
    | block => exact ⟨_, _, rfl, .inl (by decide +kernel)⟩
    | sum => exact ⟨_, _, rfl, .inl (by decide +kernel)⟩
    | product => exact ⟨_, _, rfl, .inl (by decide +kernel)⟩
    | let_ w hw => exact ⟨_, _, rfl, .inr ⟨rfl, w, hw, _, rfl⟩⟩
theorem opt_eq {K : PySem.W.Frag} {H : Hp} {v u : V} {o : Option (List Int)} {q : List Int} {Q : VK} (h : DQ K H v (optP o)) (g : DQ K H u (pathD q)) (k : Q (.bl (decide (o = some q))) H) : rEqD K v u H Q := by
  cases o with
  | some p =>
    refine path_eq h g ?_
    have e : decide (p = q) = decide (some p = some q) := by
      rw [Bool.eq_iff_iff, decide_eq_true_eq, decide_eq_true_eq]
      simp
    rw [e]
    exact k
  | none =>
    refine ⟨.none, pathD q, DQ.dp _ _ rfl h, DQ.dp _ _ (noDict_path q) g, by decide +kernel, shaped_path q, ?_⟩
    have e : PyData.eqv .none (pathD q) = decide ((none : Option (List Int)) = some q) := by
      unfold pathD
      rw [decide_eq_false (fun z => by cases z)]
      simp [PyData.eqv]
    rw [e]
    exact k
theorem heal_lc {K : PySem.W.Frag} {H1 : Hp} {a : Addr} {xs : List V} {rs : List (List Int × It)} {ov : V} {q : List Int} {z0 z2 z3 z4 z5 z7 z8 z9 z10 : Option V} {R : VK} (ha : SqL K H1 a xs) (dx : DQs K H1 xs (rs.map rowX)) (ok : RowsOk rs) (dov : DQ K H1 ov (pathD q)) (hq : q.length ≤ 1000)
    (k : ∀ H2 D (ws : List (List Nat)), Same H1 H2 → H1 D = none → H2 D = some (.lst (ws.map fun w => V.str (sO w))) → (∀ w ∈ ws, w ∈ nameC) → ws.length ≤ 1000 → R (.ref D) H2) :
    tLc (iList K (tVar 1)) (gTup K 2 (gCons (gName 9) (gCons (gName 10) gNil))) (ttHl K) (tOp (rIxT K) (tVar 10) (tC (V.int 1))) [9, 10] [z0, some (.ref a), z2, z3, z4, z5, some ov, z7, z8, z9, z10] H1 R := by
  have lx : xs.length = rs.length := by rw [dx.len, List.length_map]
  have few := ok.1
  refine ⟨_, rfl, a, rfl, ⟨xs, ha⟩, fun D nD => ?_⟩
  refine lc_list (K := K) (a := a) (xs := xs) (fun i H' => i ≤ xs.length ∧ Same H1 H' ∧ ∃ ws : List (List Nat), H' D = some (.lst (ws.map fun w => V.str (sO w))) ∧ (∀ w ∈ ws, w ∈ nameC) ∧ ws.length ≤ i) ⟨Nat.zero_le _, K0.same_upd nD, [], upd_same, fun w hw => (by cases hw), Nat.le_refl _⟩ (fun i H' _ ⟨_, s, _⟩ => s.seq ha) ?_ (fun H' ⟨_, s, ws, h1, h2, h3⟩ => k H' D ws s nD h1 h2 (by omega))
  intro i x H' hi ⟨hle, s, ws, hD, hws, lws⟩
  have hlt := (List.getElem?_eq_some_iff.mp hi).1
  have er : rs[i]? = some (rs[i]'(by omega)) := List.getElem?_eq_getElem (by omega)
  have hm : (rs[i]'(by omega)) ∈ rs := List.getElem_mem _
  generalize (rs[i]'(by omega)) = r at er hm
  obtain ⟨_, _, nr, hdr⟩ := ok.2 r hm
  obtain ⟨kn, t, ed, hk⟩ := hdr.rowW
  obtain ⟨x', ex, dx'⟩ := dx.get (i := i) (d := rowX r) (by rw [List.getElem?_map, er]; rfl)
  rw [hi] at ex
  cases ex
  obtain ⟨b, y0, y1, rfl, hT, dy0, dy1⟩ : ∃ b y0 y1, x = .ref b ∧ SqT K H1 b [y0, y1] ∧ DQ K H1 y0 (pathD r.1) ∧ DQ K H1 y1 r.2.dat := by
    cases dx' with
    | tup g1 g2 =>
      cases g2 with
      | cons g3 g4 =>
        cases g4 with
        | cons g5 g6 =>
          cases g6
          exact ⟨_, _, _, rfl, g1, g3, g5⟩
  rw [ed] at dy1
  obtain ⟨c, ys, rfl, hc, hY⟩ : ∃ c ys, y1 = .ref c ∧ SqT K H1 c ys ∧ DQs K H1 ys (.str kn :: t) := by
    cases dy1 with
    | tup g1 g2 => exact ⟨_, _, rfl, g1, g2⟩
  obtain ⟨w0, hw0, dw0⟩ := hY.get (i := 0) (d := .str kn) rfl
  cases dw0
  refine ⟨b, _, rfl, K0.seqT_same s hT, rfl, _, _, rfl, _, _, rfl, rfl, rfl, ?_⟩
  refine ⟨_, rfl, c, ys, _, _, rfl, rfl, K0.seqT_same s hc, atI_nat hw0, rfl, _, rfl, ?_⟩
  rw [dec_str]
  rcases hk with hne | ⟨rfl, wn, hwn, t', rfl⟩
  · rw [decide_eq_false hne]
    exact iteF (iteF ⟨hlt, s, ws, hD, hws, by omega⟩)
  · rw [decide_eq_true rfl]
    obtain ⟨w1, hw1, dw1⟩ := hY.get (i := 1) (d := .str (sO wn)) rfl
    cases dw1
    refine iteT ⟨_, rfl, _, rfl, _, rfl, c, ys, _, _, rfl, rfl, K0.seqT_same s hc, atI_nat hw1, a, xs, ov, rs, q, sO wn, rfl, s.seq ha, dx.to s, dov.to s, hq, few, ok.k, fun H2 z s2 dz => ⟨_, rfl, opt_eq dz (dy0.to (s.trans s2)) ⟨_, rfl, ?_⟩⟩⟩
    have s02 := s.trans s2
    have hD2 := s2 _ _ hD
    by_cases cn : lawM rs (sO wn) q.length q = some r.1
    · rw [decide_eq_true cn]
      refine iteT ⟨_, rfl, c, ys, _, _, rfl, rfl, K0.seqT_same s02 hc, atI_nat hw1, _, hD2, by rw [sizeLine_eq, List.length_map]; omega, hlt, K0.same_over s02 nD, ws ++ [wn], by rw [upd_same, List.map_append]; rfl, fun y hy => ?_, by rw [List.length_append, List.length_singleton]; omega⟩
      rcases List.mem_append.mp hy with hy | hy
      · exact hws y hy
      · rw [List.mem_singleton.mp hy]; exact hwn
    · rw [decide_eq_false cn]
      exact iteF ⟨hlt, s02, ws, hD2, hws, by omega⟩
abbrev tInH (K : PySem.W.Frag) : TT := tTest (tOp (rIn K false) (tOp (rIxT K) (tVar 7) (tC (V.int 0))) (tTup (tCons (tC (V.str "block")) (tCons (tC (V.str "sum")) (tCons (tC (V.str "product")) (tCons (tC (V.str "let")) tNil))))))
def spHl (K : PySem.W.Frag) (m : Nat) : Sp := fun vs H Q _ => ∃ (n : Nat) (p a : Addr) (xs : List V) (rs : List (List Int × It)) (v pw : V) (pth : List Int) (l : List It), m = n + 1 ∧ vs = [.ref p, .ref a, v, pw] ∧ Src H p ∧ SqL K (hid p H) a xs ∧ DQs K (hid p H) xs (rs.map rowX) ∧ RowsOk rs ∧ l.length ≤ 4 ∧ (∀ x ∈ l, Dr n x) ∧ pth.length + n ≤ 10 ∧ DQ K (hid p H) v (.tuple (datL l)) ∧ DQ K (hid p H) pw (pathD pth) ∧
  ∀ H' u l', Bt p H H' → l'.length = l.length → (∀ x ∈ l', Dr n x) → DQ K (hid p H') u (.tuple (datL l')) → Q u H'
abbrev tHoldH (K : PySem.W.Frag) (n : Nat) : TS := tAsg (tOp (rCatA K) (tSl (rSlT K) (tVar 7) tNoPart (tPart tN1)) (tTup (tCons (tCall (spHl K n) [] E0 (tCons (tVar 0) (tCons (tVar 1) (tCons (tOp (rIxT K) (tVar 7) tN1) (tCons (tVar 6) tNil))))) tNil))) (gName 7)
abbrev tAppH (K : PySem.W.Frag) : TS := tDrop (tBM K "list" rAppend (tVar 4) (tCons (tVar 7) tNil))
def PvH (K : PySem.W.Frag) (H : Hp) (p a : Addr) (v pw : V) (n len : Nat) : Nat → St → Hp → Prop := fun i σ H' => i ≤ len ∧ Bt p H H' ∧ ∃ (q : Addr) (vs : List V) (l' : List It) (o5 o6 o7 o8 o9 o10 : Option V),
  σ = [some (.ref p), some (.ref a), some v, some pw, some (.ref q), o5, o6, o7, o8, o9, o10] ∧ H q = none ∧ H' q = some (.lst vs) ∧ l'.length = i ∧ (∀ x ∈ l', Dr n x) ∧ DQs K (hid q (hid p H')) vs (datL l')
section
variable {P : Program} {w : World} {K : PySem.W.Frag} {mg : Str → Option Value} {base : Heap}
theorem sc_heal : FnScope NLh ["_law_pool_here", "_law_rows_here", "_law_items", "_law_path"] (defScope (top 37)) := ⟨rfl, rfl, rfl, by decide +kernel, rfl, by decide +kernel, by decide +kernel⟩
theorem cl_heal (T : All K mg) (M : Nms mg) (hrange : mg "range" = none) : ∀ m : Nat, m ≤ 3 → ClG P w K mg base (m + 3) "_law_healed" ["_law_pool_here", "_law_rows_here", "_law_items", "_law_path"] (spHl K m) := by
  obtain ⟨g, fd, D⟩ := T.dn 37 _ _ rfl
  intro m
  induction m with
  | zero => exact fun _ => clG_no T (i := 37) rfl fun vs H Q E ⟨n, _, _, _, _, _, _, _, _, e, _⟩ => by omega
  | succ m ih =>
    intro hm
    have IH := ih (by omega)
    refine ⟨g, fd, okG D.fn sc_heal (fun vs H Q E h => ?_) (fun cdv A outer s H vs Q E hgd hr h => ?_), D.mg, D.fn.kp, D.bn⟩
    · obtain ⟨n, p, a, xs, rs, v, pw, pth, l, _, rfl, _⟩ := h
      rfl
    · obtain ⟨n, p, a, xs, rs, v, pw, pth, l, en, rfl, src, ha, dx, hrs, hl, hc, hpl, hd, hp, k⟩ := h
      have hrn : Room (m + 3) _ := hr
      obtain rfl : n = m := by omega
      refine ⟨_, (pss_cons (ps_set (i := 4) sc_heal.nd rfl (Or.inl rfl) (pe_lst pa_nil))
      (pss_cons (ps_for PassesOwn.never rfl (pi_range1 rfl hrange (pa_cons (pe_callB call_len_seq (by rfl) T.bi.len PySem.boot_len (pa_cons (pv 2) pa_nil)) pa_nil)) (pg_name (i := 5) sc_heal.nd rfl (Or.inl rfl)) (pss_cons (ps_asg (pe_tup (pa_cons (pe_op op_catA (pv 3) (pe_tup (pa_cons (pv 5) pa_nil))) (pa_cons (pe_ix ix_tup (pv 2) (pv 5) (fun _ _ => rfl)) pa_nil))) (pg_tup (t := gCons (gName 6) (gCons (gName 7) gNil)) rfl (pgs_cons (pg_name (i := 6) sc_heal.nd rfl (Or.inr rfl)) (pgs_cons (pg_name (i := 7) sc_heal.nd rfl (Or.inl rfl)) pgs_nil))))
      (pss_cons (ps_if (PW.pt (pw_and (pt_cmpR op_eq (pe_ix ix_tup (pv 7) pe_int (fun _ _ => rfl)) pe_str (nomark _)) (pw_and1 (pt_cmpR op_isN1 (pe_clG (cl_lmeant T) hgd hrn (by omega) (pa_cons (pv 1) (pa_cons (pv 6) (pa_cons (pe_ix ix_tup (pv 7) pe_int (fun _ _ => rfl)) pa_nil)))) pe_non (nomark _))))) (pss_cons (ps_setLc (i := 8) (own := [("_law_one_here", 9), ("_law_other", 10)]) (g := gTup K 2 (gCons (gName 9) (gCons (gName 10) gNil))) (te := (tOp (rIxT K) (tVar 10) (tC (.int 1)))) (tt := ttHl K) rfl sc_heal.nd rfl rfl (sw_true rfl rfl rfl (by decide +kernel)) (pi_list (pv 1)) (blkOk_by (own := [("_law_one_here", 9), ("_law_other", 10)]) (N := NLh) (sc := defScope (top 37)) (by decide +kernel)) (fun _ _ _ _ _ => pg_tup rfl (pgs_cons (pg_name (i := 9) sc_heal.nd rfl (Or.inl rfl)) (pgs_cons (pg_name (i := 10) sc_heal.nd rfl (Or.inl rfl)) pgs_nil))) (fun _ _ _ _ _ => (pts_one (PW.pt (pw_and (pt_cmpR op_eq (pe_ix ix_tup (pv 10) pe_int (fun _ _ => rfl)) pe_str (nomark _)) (pw_and1 (pt_cmpR (op_eqD hr.units) (pe_clG (cl_lmeant T) hgd hrn (by omega) (pa_cons (pv 1) (pa_cons (pv 6) (pa_cons (pe_ix ix_tup (pv 10) pe_int (fun _ _ => rfl)) pa_nil)))) (pv 9) (nomark _))))))) (fun _ _ _ _ _ => (pe_ix ix_tup (pv 10) pe_int (fun _ _ => rfl))))
      (pss_one (ps_set (i := 7) sc_heal.nd rfl (Or.inl rfl) (pe_ifExp (pt_cmpR (op_neE hr.units) (pv 8) (pe_lst pa_nil) (nomark _)) (pe_tup (pa_cons pe_str (pa_cons (pe_cl (cl_one T M) hrn (by omega) (pa_cons (pv 0) (pa_cons (pv 8) pa_nil))) pa_nil))) (pe_tup (pa_cons pe_str pa_nil)))))) pss_nil)
      (pss_cons (ps_if (pt_cmpR op_in_seq (pe_ix ix_tup (pv 7) pe_int (fun _ _ => rfl)) (pe_tup (pa_cons pe_str (pa_cons pe_str (pa_cons pe_str (pa_cons pe_str pa_nil))))) rfl) (pss_one (ps_set (i := 7) sc_heal.nd rfl (Or.inl rfl) (pe_op op_catA (pe_slice sl_tup (pv 7) po_none (po_some (pe_un un_neg pe_int))) (pe_tup (pa_cons (pe_clG IH hgd hrn (Nat.le_refl _) (pa_cons (pv 0) (pa_cons (pv 1) (pa_cons (pe_ix ix_tup (pv 7) (pe_un un_neg pe_int) (fun _ _ => rfl)) (pa_cons (pv 6) pa_nil))))) pa_nil))))) pss_nil)
      (pss_one (ps_expr (pe_bm PySem.F.plainAttrs_list PySem.F.slot_list_append PySem.F.type_list_append mt_append (pv 4) (pa_cons (pv 7) pa_nil))))))))
      (pss_one (ps_ret (pe_callTy call_tuple_of (by rfl) T.bi.tuple (by decide +kernel) (pa_cons (pv 4) pa_nil)))))), ?_⟩
      obtain ⟨ta, txs, rfl, hT, hD⟩ : ∃ ta txs, v = .ref ta ∧ SqT K (hid p H) ta txs ∧ DQs K (hid p H) txs (datL l) := by
        cases hd with
        | tup h1 h2 => exact ⟨_, _, rfl, h1, h2⟩
      have ltx : txs.length = l.length := by rw [hD.len, datL_map, List.length_map]
      refine ⟨Nat.zero_le _, fun q0 nq0 => ?_⟩
      have s0 := K0.same_upd (o := .lst []) nq0
      have b0 : Bt p H (upd H q0 (.lst [])) := (Bt.refl src).grow s0
      have hT0 := K0.seqT_same (hid_same p _) (K0.seqT_same b0.same hT)
      refine ⟨_, rfl, ta, txs, rfl, .inr hT0, _, rfl, by omega, by omega, ?_⟩
      rw [Int.toNat_natCast, ltx]
      refine for_range (lo := 0) (n := l.length) (PvH K H p a (.ref ta) pw n l.length) ⟨Nat.zero_le _, b0, q0, [], [], _, _, _, _, _, _, rfl, nq0, upd_same, rfl, fun x hx => (by cases hx), by rw [datL]; exact .nil⟩ ?_ ?_
      · rintro i σ H1 hi ⟨hle, b1, q, vs, l', o5, o6, o7, o8, o9, o10, rfl, nq, hq, hil, hdl, dv⟩
        have nqp : q ≠ p := Bt.ne src nq
        have ei : l[i]? = some l[i] := List.getElem?_eq_getElem hi
        have hdr := hc l[i] (List.getElem_mem hi)
        generalize l[i] = x at ei hdr
        obtain ⟨u, hu, du⟩ := hD.get (i := i) (d := x.dat) (by rw [datL_map, List.getElem?_map, ei]; rfl)
        have lvs : vs.length ≤ 4 := by rw [dv.len, datL_map, List.length_map]; omega
        have app : ∀ (D : Ends) (J : Hp) (y : V) (x' : It) (o5 o6 o8 o9 o10 : Option V), Bt p H J → J q = some (.lst vs) → DQs K (hid q (hid p J)) vs (datL l') → Dr n x' → DQ K (hid p J) y x'.dat → D.nx = PvH K H p a (.ref ta) pw n l.length (i + 1) → tAppH K D [some (.ref p), some (.ref a), some (.ref ta), some pw, some (.ref q), o5, o6, some y, o8, o9, o10] J := by
          intro D J y x' o5 o6 o8 o9 o10 bJ hqJ dvJ hx' hy hD'
          refine ⟨_, rfl, .inl ⟨rfl, _, SqL.of hqJ⟩, _, rfl, q, vs, _, rfl, rfl, hqJ, by rw [sizeLine_eq]; omega, ?_⟩
          show D.nx _ _
          rw [hD']
          have hqp : (hid p J) q = some (.lst vs) := by rw [hid_ne nqp]; exact hqJ
          have hy2 : DQ K (hid q (hid p J)) y x'.dat := Flat.hide hqp _ _ hx'.flat hy
          refine ⟨hi, ⟨fun b w e => ?_, ?_⟩, q, vs ++ [y], l' ++ [x'], _, _, _, _, _, _, rfl, nq, upd_same, by rw [List.length_append, hil]; rfl, fun z hz => ?_, ?_⟩
          · obtain ⟨e1, e2⟩ := hid_at e
            rw [hid_ne e1, upd_ne (ne_of_none e2 nq)]
            exact bJ.at e1 e2
          · obtain ⟨x1, x2, e, r⟩ := bJ.src
            exact ⟨x1, x2, by rw [upd_ne (Ne.symm nqp)]; exact e, r⟩
          · rcases List.mem_append.mp hz with hz | hz
            · exact hdl z hz
            · rw [List.mem_singleton.mp hz]; exact hx'
          · rw [hid_comm, hid_put, hid_comm, datL_map, List.map_append, ← datL_map]
            exact dvJ.app (.cons hy2 .nil)
        have rest : ∀ (D : Ends) (J : Hp) (y : V) (h' : List PyData) (w' : List Nat) (o5 o6 o8 o9 o10 : Option V), Bt p H J → J q = some (.lst vs) → DQs K (hid q (hid p J)) vs (datL l') → LfK h' w' → DQ K (hid p J) y (.tuple h') → D.nx = PvH K H p a (.ref ta) pw n l.length (i + 1) → tSeq (tIfS (tInH K) (tHoldH K n) tNext) (tAppH K) D [some (.ref p), some (.ref a), some (.ref ta), some pw, some (.ref q), o5, o6, some y, o8, o9, o10] J := by
          intro D J y h' w' o5 o6 o8 o9 o10 bJ hqJ dvJ hk hy hD'
          obtain ⟨kn, kr, eh, hin⟩ := hk.kindIn
          have hy0 := hy
          rw [eh] at hy0
          obtain ⟨a1, xs1, u1, rfl, hT1, hi1, hu1⟩ := hy0.item (i := 0) rfl
          cases hu1
          refine ⟨_, rfl, a1, xs1, _, _, rfl, rfl, K0.seqT_same (hid_same p J) hT1, hi1, sizeL (m := 4) (Nat.le_refl _), fun t3 nt3 => ⟨t3, _, rfl, .inr (.inl (.inl upd_same)), rfl, rfl, _, rfl, ?_⟩⟩
          have s6 := K0.same_upd (o := .tup [V.str "block", V.str "sum", V.str "product", V.str "let"]) nt3
          rw [hin]
          exact iteF (app _ _ _ (.leaf h' w') _ _ _ _ _ (bJ.grow s6) (s6 _ _ hqJ) (dvJ.to (hid_mono (hid_mono s6))) (.leaf hk) (by rw [It.dat]; exact hy.to (hid_mono s6)) hD')
        refine ⟨_, rfl, _, rfl, sizeL (m := 1) (Nat.le_refl _), fun t nt => ?_⟩
        have s2 := K0.same_upd (o := .tup [V.int (0 + (i : Int))]) nt
        rw [Int.zero_add] at s2 ⊢
        have b2 := b1.grow s2
        have hq2 := s2 _ _ hq
        have dv2 := dv.to (hid_mono (p := q) (hid_mono (p := p) s2))
        have dT : DQ K (upd H1 t (.tup [V.int (i : Int)])) (.ref t) (pathD [(i : Int)]) := .tup (.inl (.inl upd_same)) (.cons (.int _) .nil)
        generalize upd H1 t (.tup [V.int (i : Int)]) = H2 at b2 hq2 dv2 dT ⊢
        refine path_cat ((hp.to b2.same).to (hid_same p H2)) dT (by omega) fun H3 ov s3 dov => ?_
        have b3 := b2.grow s3
        refine ⟨_, rfl, _, rfl, ta, txs, _, u, rfl, rfl, K0.seqT_same (hid_same p _) (K0.seqT_same b3.same hT), atI_nat hu, sizeL (m := 2) (Nat.le_refl 2), fun t2 nt2 => ⟨t2, _, rfl, .inl (.inl upd_same), rfl, _, _, rfl, _, _, rfl, rfl, ?_⟩⟩
        have s4 := K0.same_upd (o := .tup [ov, u]) nt2
        have b4 := b3.grow s4
        have hq4 := s4 _ _ (s3 _ _ hq2)
        have dv4 := dv2.to (hid_mono (p := q) (hid_mono (p := p) (s3.trans s4)))
        have dov4 := dov.to s4
        generalize upd H3 t2 (.tup [ov, u]) = H4 at b4 hq4 dv4 dov4 ⊢
        have du4 := du.to b4.same
        have ha4 := (hid_same p H4).seq (b4.same.seq ha)
        have dx4 := (dx.to b4.same).to (hid_same p H4)
        have dovp : DQ K (hid p H4) ov (pathD (pth ++ [(i : Int)])) := by
          obtain ⟨x1, x2, e, _⟩ := b4.src
          exact Flat.hide e _ _ (Flat.pathX _) dov4
        cases hdr with
        | @leaf _ h wd hk =>
          rw [It.dat] at du4
          rcases hk.uns rs (pth ++ [(i : Int)]) with ⟨kn, kr, eh, hne, _⟩ | ⟨nm, eh, lnm, _⟩
          · have du4' := du4
            rw [eh] at du4'
            obtain ⟨a1, xs1, u1, rfl, hT1, hi1, hu1⟩ := du4'.item (i := 0) rfl
            cases hu1
            refine ⟨_, rfl, a1, xs1, _, _, rfl, rfl, K0.seqT_same (hid_same p H4) hT1, hi1, rfl, _, rfl, ?_⟩
            rw [dec_str, decide_eq_false hne]
            exact iteF (iteF (rest _ _ _ h wd _ _ _ _ _ b4 hq4 dv4 hk du4 rfl))
          · have du4' := du4
            rw [eh] at du4'
            obtain ⟨a1, xs1, u1, rfl, hT1, hi1, hu1⟩ := du4'.item (i := 0) rfl
            cases hu1
            obtain ⟨a2, xs2, u2, e2, hT2, hi2, hu2⟩ := du4'.item (i := 1) rfl
            cases e2
            cases hu2
            refine ⟨_, rfl, a1, xs1, _, _, rfl, rfl, K0.seqT_same (hid_same p H4) hT1, hi1, rfl, _, rfl, ?_⟩
            rw [dec_str, decide_eq_true rfl]
            refine iteT ⟨_, rfl, _, rfl, _, rfl, a1, xs2, _, _, rfl, rfl, K0.seqT_same (hid_same p H4) hT2, hi2, a, xs, ov, rs, pth ++ [(i : Int)], nm, rfl, ha4, dx4, dov4, by rw [List.length_append, List.length_singleton]; omega, hrs.1, hrs.k, fun H5 z s5 dz => ⟨rfl, _, rfl, ?_⟩⟩
            have b5 := b4.grow s5
            have hq5 := s5 _ _ hq4
            have dv5 := dv4.to (hid_mono (p := q) (hid_mono (p := p) s5))
            cases eL : lawM rs nm (pth ++ [(i : Int)]).length (pth ++ [(i : Int)]) with
            | some q' =>
              rw [eL] at dz
              obtain ⟨b, rfl⟩ : ∃ b, z = .ref b := by
                cases dz with
                | tup _ _ => exact ⟨_, rfl⟩
              rw [decide_eq_false (fun z => by cases z)]
              exact iteF (rest _ _ _ h wd _ _ _ _ _ b5 hq5 dv5 hk (du4.to (hid_mono s5)) rfl)
            | none =>
              rw [eL] at dz
              cases dz
              rw [decide_eq_true rfl]
              refine iteT ?_
              unfold tSeq tAsg
              change tLc (iList K (tVar 1)) (gTup K 2 (gCons (gName 9) (gCons (gName 10) gNil))) (ttHl K) (tOp (rIxT K) (tVar 10) (tC (V.int 1))) [9, 10] [some (.ref p), some (.ref a), some (.ref ta), some pw, some (.ref q), some (.int (i : Int)), some ov, some (.ref a1), o8, o9, o10] H5 _
              refine heal_lc (s5.seq ha4) (dx4.to s5) hrs (dov4.to s5) (by rw [List.length_append, List.length_singleton]; omega) fun H6 D ws s6 nD hD hws lws => ?_
              unfold gName
              dsimp only
              refine ⟨_, rfl, Nat.zero_le _, fun e ne => ⟨D, e, _, rfl, rfl, SqL.of ((upd_ne (ne_of_none hD ne)).trans hD), SqL.of upd_same, _, rfl, ?_⟩⟩
              have s7 := K0.same_upd (o := .lst []) ne
              have b7 := b5.grow (s6.trans s7)
              have hq7 := s7 _ _ (s6 _ _ hq5)
              have dv7 := dv5.to (hid_mono (p := q) (hid_mono (p := p) (s6.trans s7)))
              have hD7 := s7 _ _ hD
              generalize upd H6 e (.lst []) = H7 at b7 hq7 dv7 hD7 ⊢
              have Dp : D ≠ p := by
                obtain ⟨x1, x2, e, _⟩ := b5.src
                exact fun z => by rw [z, e] at nD; cases nD
              cases ws with
              | nil =>
                refine iteF ⟨sizeL (m := 1) (Nat.le_refl 1), fun q7 nq7 => ?_⟩
                obtain ⟨g1, g2⟩ := tup_new (K := K) (us := [.str "lost"]) (ds := [.str "lost"]) b7 nq7 (.cons (.str _ (by decide +kernel)) .nil)
                have s8 := K0.same_upd (o := .tup [V.str "lost"]) nq7
                exact rest _ _ _ [.str "lost"] [63] _ _ _ _ _ g1 (s8 _ _ hq7) (dv7.to (hid_mono (hid_mono s8))) .lost g2 rfl
              | cons w0 ws =>
                have l0 : ∀ w ∈ w0 :: ws, w.length ≤ 1000 := fun w hw => Nat.le_trans (name_len (hws w hw)).2.1 (by decide)
                refine iteT ⟨_, rfl, _, rfl, p, D, _, (w0 :: ws).map (fun w => PyData.str (sO w)), rfl, b7.src, SqL.of (by rw [hid_ne Dp]; exact hD7), strs_dqs _ l0, by simp, by rw [List.length_map]; exact Nat.lt_of_le_of_lt lws (by decide), fun H8 u8 d hd8 b8 hu8 => ⟨sizeL (m := 2) (Nat.le_refl 2), fun q7 nq7 => ?_⟩⟩
                obtain ⟨w, hw, rfl⟩ := List.mem_map.mp hd8
                obtain ⟨g1, g2⟩ := tup_new (K := K) (us := [.str "use", u8]) (ds := [.str "use", .str (sO w)]) (b7.trans b8) nq7 (.cons (.str _ (by decide +kernel)) (.cons hu8 .nil))
                have s9 := K0.same_upd (o := .tup [V.str "use", u8]) nq7
                exact rest _ _ _ [.str "use", .str (sO w)] w _ _ _ _ _ g1 (s9 _ _ (b8.at nqp hq7)) (dv7.to (hid_mono (b8.same.trans (hid_mono s9)))) (.use w (hws w hw)) g2 rfl
        | @node n' h o b lc hk hlc hcc =>
          rw [It.dat] at du4
          obtain ⟨kn, kr, eh, hin⟩ := hk.kindIn
          have hlen2 : h.length ≤ 2 := hk.kind.choose_spec.choose_spec.2.2.2.2
          have kne : kn ≠ "use" := fun e => by
            rw [e] at hin
            exact absurd hin (by decide +kernel)
          have du4' := du4
          rw [eh] at du4'
          obtain ⟨a1, xs1, u1, rfl, hT1, hi1, hu1⟩ := du4'.item (i := 0) rfl
          cases hu1
          refine ⟨_, rfl, a1, xs1, _, _, rfl, rfl, K0.seqT_same (hid_same p H4) hT1, hi1, rfl, _, rfl, ?_⟩
          rw [dec_str, decide_eq_false kne]
          refine iteF (iteF ⟨_, rfl, a1, xs1, _, _, rfl, rfl, K0.seqT_same (hid_same p H4) hT1, hi1, sizeL (m := 4) (Nat.le_refl _), fun t3 nt3 => ⟨t3, _, rfl, .inr (.inl (.inl upd_same)), rfl, rfl, _, rfl, ?_⟩⟩)
          have s6 := K0.same_upd (o := .tup [V.str "block", V.str "sum", V.str "product", V.str "let"]) nt3
          rw [hin]
          have b6 := b4.grow s6
          have du6 := du4.to (hid_mono (p := p) s6)
          have hq6 := s6 _ _ hq4
          have dv6 := dv4.to (hid_mono (p := q) (hid_mono (p := p) s6))
          have dov6 := dovp.to (hid_mono (p := p) s6)
          generalize upd H4 t3 (.tup [V.str "block", V.str "sum", V.str "product", V.str "let"]) = H6 at b6 du6 hq6 dv6 dov6 ⊢
          refine iteT ⟨_, rfl, 1, rfl, _, rfl, tup_cut b6.src du6 fun H7 z s7 dz => ?_⟩
          have b7 := b6.grow s7
          have du7 := du6.to (hid_mono (p := p) s7)
          obtain ⟨a8, xs8, u8, ea8, hT8, hi8, hu8⟩ := du7.last (by omega)
          cases ea8
          have dov7 := dov6.to (hid_mono (p := p) s7)
          refine ⟨_, rfl, _, rfl, _, rfl, 1, rfl, a1, xs8, _, _, rfl, rfl, K0.seqT_same (hid_same p H7) hT8, hi8, _, rfl, n', p, a, xs, rs, u8, ov, pth ++ [(i : Int)], lc, rfl, rfl, b7.src, b7.same.seq ha, dx.to b7.same, hrs, Nat.le_trans hlc (by decide), hcc, by rw [List.length_append, List.length_singleton]; omega, hu8, dov7, fun H8 v8 l8 b8 hl8 hd8 dv8 => ⟨sizeL (m := 1) (Nat.le_refl 1), fun t8 nt8 => ?_⟩⟩
          have s9 := K0.same_upd (o := .tup [v8]) nt8
          have t8p : t8 ≠ p := Bt.ne b8.src nt8
          have b78 := b7.trans b8
          have b9 := b78.grow s9
          refine tup_cat (ds := h) (es := [.tuple (datL l8)]) b9.src ((dz.to b8.same).to (hid_mono s9)) (.tup (.inl (.inl (by rw [hid_ne t8p, upd_same]))) (.cons (dv8.to (hid_mono s9)) .nil)) (by rw [List.length_singleton]; omega) fun H10 z10 s10 d10 => ?_
          exact app _ _ _ (.node h o b l8) _ _ _ _ _ (b9.grow s10) (s10 _ _ (s9 _ _ (b8.at nqp (s7 _ _ hq6)))) (dv6.to (hid_mono (((hid_mono s7).trans b8.same).trans (hid_mono (s9.trans s10))))) (.node hk (by omega) hd8) (by rw [It.dat]; exact d10) rfl
      · rintro σ H1 ⟨_, b1, q, vs, l', o5, o6, o7, o8, o9, o10, rfl, nq, hq, hil, hdl, dv⟩
        refine ⟨_, rfl, q, vs, rfl, .inl ⟨SqL.of hq, fun q2 nq2 => ?_⟩⟩
        obtain ⟨b4, dq4⟩ := tup_new b1 nq2 (dv.to (hid_same q _))
        exact k _ _ l' b4 hil hdl dq4
end
end K1
set_option maxHeartbeats 4000000
/-! the shape, as data -/
namespace K1
open PySem L2
mutual
/-- heads turned by their paths -/
def It.ren (G : List Int → List PyData → List PyData) (p : List Int) : It → It
  | .leaf h w => .leaf (G p h) w
  | .node h o b l => .node (G p h) o b (renL G p 0 l)
def renL (G : List Int → List PyData → List PyData) (p : List Int) (k : Nat) : List It → List It
  | [] => []
  | x :: r => x.ren G (p ++ [(k : Int)]) :: renL G p (k + 1) r
end
mutual
theorem ph_ren (G : List Int → List PyData → List PyData) : ∀ (x : It) (p : List Int), (x.ren G p).ph p = (x.ph p).map fun r => (r.1, G r.1 r.2)
  | .leaf h w, p => by rw [It.ren]; simp only [It.ph]; rfl
  | .node h o b l, p => by rw [It.ren]; simp only [It.ph]; rw [phL_ren G l p 0]; rfl
theorem phL_ren (G : List Int → List PyData → List PyData) : ∀ (l : List It) (p : List Int) (k : Nat), phL p k (renL G p k l) = (phL p k l).map fun r => (r.1, G r.1 r.2)
  | [], p, k => by rw [renL, phL]; rfl
  | x :: l, p, k => by rw [renL]; simp only [phL]; rw [List.map_append, ph_ren G x, phL_ren G l]
end
theorem renL_mem {G : List Int → List PyData → List PyData} : ∀ {l : List It} {p : List Int} {k : Nat} {y : It}, y ∈ renL G p k l → ∃ x ∈ l, ∃ q, y = x.ren G q
  | [], p, k, y, h => by rw [renL] at h; cases h
  | x :: l, p, k, y, h => by
    rw [renL] at h
    rcases List.mem_cons.mp h with rfl | h
    · exact ⟨x, List.mem_cons_self, _, rfl⟩
    · obtain ⟨z, hz, q, e⟩ := renL_mem h
      exact ⟨z, List.mem_cons_of_mem _ hz, q, e⟩
theorem hi_ren {G : List Int → List PyData → List PyData} (hG : ∀ p h, holdH (G p h) = holdH h) {x : It} (ok : HI x) : ∀ p, HI (x.ren G p) := by
  induction ok with
  | @leaf h w e =>
    intro p
    rw [It.ren]
    exact .leaf (by rw [hG, e])
  | @node h o b l e hl ih =>
    intro p
    rw [It.ren]
    refine .node (by rw [hG, e]) fun y hy => ?_
    obtain ⟨z, hz, q, rfl⟩ := renL_mem hy
    exact ih z hz q
theorem renL_len {G : List Int → List PyData → List PyData} : ∀ {l : List It} {p : List Int} {k : Nat}, (renL G p k l).length = l.length
  | [], p, k => by rw [renL]
  | x :: l, p, k => by rw [renL, List.length_cons, List.length_cons, renL_len]
theorem renL_snoc {G : List Int → List PyData → List PyData} (x : It) : ∀ (l : List It) (p : List Int) (k : Nat), renL G p k (l ++ [x]) = renL G p k l ++ [x.ren G (p ++ [((k + l.length : Nat) : Int)])]
  | [], p, k => by
    rw [List.nil_append, renL, renL, renL]
    rfl
  | y :: r, p, k => by
    rw [List.cons_append, renL, renL, renL_snoc x r, List.cons_append]
    have e1 : k + 1 + r.length = k + (y :: r).length := by rw [List.length_cons]; omega
    rw [e1]
/-- the paths of the lets -/
def letPs (rs : List (List Int × It)) : List (List Int) := (rs.filter fun r => isLetI r.2).map (·.1)
def numOf (rs : List (List Int × It)) : Option (List Int) → Int
  | some q => (((letPs rs).idxOf q : Nat) : Int)
  | none => 0
def shpH (rs : List (List Int × It)) (p : List Int) (h : List PyData) : List PyData := match h with
  | [.str x, .str nm] => if x == "use" then [.str "use", .int (numOf rs (lawM rs nm p.length p))] else if x == "let" then [.str "let"] else h
  | _ => h
theorem holdH_shp (rs : List (List Int × It)) (p : List Int) (h : List PyData) : holdH (shpH rs p h) = holdH h := by
  unfold shpH
  split
  · rename_i x nm
    split
    · rename_i e
      have e' : x = "use" := eq_of_beq e
      subst e'
      rfl
    · split
      · rename_i e
        have e' : x = "let" := eq_of_beq e
        subst e'
        rfl
      · rfl
  · rfl
def letIx (rows : List (List Int × List PyData)) : List Nat := (List.range rows.length).filter fun i => letH (rows.getD i ([], [])).2
def progH (rows : List (List Int × List PyData)) (es : List (List Nat)) (i : Nat) (h : List PyData) : List PyData := match h with
  | [.str x, .str nm] => if x == "use" then [.str "use", .int (match useAt rows es i with
      | some (some j) => (((letIx rows).idxOf j : Nat) : Int)
      | _ => 0)] else if x == "let" then [.str "let"] else h
  | _ => h
theorem letI_head (x : It) : isLetI x = letH (headI x) := by cases x <;> rfl
theorem letPs_ix (l : List It) : letPs (risL [] 0 l) = (letIx (phL [] 0 l)).map (pathOf (phL [] 0 l)) := by
  have e : letPs (risL [] 0 l) = ((phL [] 0 l).filter fun r => letH r.2).map (·.1) := by
    unfold letPs
    rw [phL_ris, List.filter_map, List.map_map]
    congr 1
    refine List.filter_congr fun r _ => ?_
    exact letI_head r.2
  rw [e]
  generalize phL [] 0 l = rows
  unfold letIx
  conv => lhs; rw [← range_all rows ([], [])]
  rw [List.filter_map, List.map_map]
  rfl
theorem idxOf_map {β : Type} [BEq β] [LawfulBEq β] (f : Nat → β) : ∀ (L : List Nat) (a : Nat), (∀ x ∈ L, f x = f a → x = a) → (L.map f).idxOf (f a) = L.idxOf a
  | [], a, _ => rfl
  | x :: L, a, h => by
    rw [List.map_cons, List.idxOf_cons, List.idxOf_cons, idxOf_map f L a fun y hy => h y (List.mem_cons_of_mem _ hy)]
    by_cases e : x = a
    · rw [e, beq_self_eq_true, beq_self_eq_true]
    · have : f x ≠ f a := fun z => e (h x List.mem_cons_self z)
      rw [beq_eq_false_iff_ne.mpr e, beq_eq_false_iff_ne.mpr this]
mutual
theorem nd_item : ∀ (x : It) (p : List Int), ((x.ris p).map (·.1)).Nodup
  | .leaf h w, p => by rw [It.ris]; simp
  | .node h o b l, p => by
    rw [It.ris, List.map_cons, List.nodup_cons]
    refine ⟨fun z => ?_, nd_items l p 0⟩
    obtain ⟨r, hr, e⟩ := List.mem_map.mp z
    obtain ⟨i, s, e2, _⟩ := pre_items l p 0 r hr
    have := congrArg List.length (e2.symm.trans e)
    rw [List.length_append, List.length_append, List.length_singleton] at this
    dsimp only at this
    omega
theorem nd_items : ∀ (l : List It) (p : List Int) (k : Nat), ((risL p k l).map (·.1)).Nodup
  | [], p, k => by rw [risL]; simp
  | x :: l, p, k => by
    rw [risL, List.map_append, List.nodup_append]
    refine ⟨nd_item x _, nd_items l p (k + 1), fun q hq q' hq' e => ?_⟩
    obtain ⟨r, hr, rfl⟩ := List.mem_map.mp hq
    obtain ⟨r', hr', rfl⟩ := List.mem_map.mp hq'
    obtain ⟨s, e1⟩ := pre_item x _ r hr
    obtain ⟨i, s', e2, _⟩ := pre_items l p (k + 1) r' hr'
    rw [e1, e2, List.append_assoc, List.append_assoc] at e
    have e3 := (List.cons.inj (List.append_cancel_left e)).1
    omega
end
theorem path_inj {l : List It} {i j : Nat} (hi : i < (phL [] 0 l).length) (hj : j < (phL [] 0 l).length) (e : pathOf (phL [] 0 l) i = pathOf (phL [] 0 l) j) : i = j := by
  have nd : ((phL [] 0 l).map (·.1)).Nodup := by
    have h := nd_items l [] 0
    rw [phL_ris, List.map_map]
    exact h
  unfold pathOf at e
  rw [List.getD_eq_getElem?_getD, List.getD_eq_getElem?_getD, List.getElem?_eq_getElem hi, List.getElem?_eq_getElem hj] at e
  have h := List.getElem_inj (xs := (phL [] 0 l).map (·.1)) (i := i) (j := j) (h₀ := by rw [List.length_map]; exact hi) (h₁ := by rw [List.length_map]; exact hj) nd
  refine h.mp ?_
  rw [List.getElem_map, List.getElem_map]
  exact e
theorem use_some {rows : List (List Int × List PyData)} {es : List (List Nat)} {i j : Nat} (h : useAt rows es i = some (some j)) : j < rows.length ∧ letH (rows.getD j ([], [])).2 = true := by
  unfold useAt at h
  split at h
  · split at h
    · have h2 := Option.some.inj h
      unfold findN at h2
      have h3 := List.find?_some h2
      unfold letIs at h3
      split at h3
      · rename_i p x y e
        refine ⟨(List.getElem?_eq_some_iff.mp e).1, ?_⟩
        rw [List.getD_eq_getElem?_getD, e]
        rw [Bool.and_eq_true] at h3
        exact h3.1
      · cases h3
    · cases h
  · cases h
theorem let_in {rows : List (List Int × List PyData)} {j : Nat} (h1 : j < rows.length) (h2 : letH (rows.getD j ([], [])).2 = true) : j ∈ letIx rows := by
  unfold letIx
  rw [List.mem_filter]
  exact ⟨List.mem_range.mpr h1, h2⟩
theorem num_law {l : List It} {es : List (List Nat)} {i j : Nat} (h : useAt (phL [] 0 l) es i = some (some j)) : numOf (risL [] 0 l) (some (pathOf (phL [] 0 l) j)) = (((letIx (phL [] 0 l)).idxOf j : Nat) : Int) := by
  obtain ⟨h1, h2⟩ := use_some h
  show (((letPs (risL [] 0 l)).idxOf _ : Nat) : Int) = _
  rw [letPs_ix, idxOf_map]
  intro x hx e
  unfold letIx at hx
  rw [List.mem_filter] at hx
  exact path_inj (List.mem_range.mp hx.1) h1 e
theorem prog_shp {n : Nat} {l : List It} (d : ∀ x ∈ l, Dr n x) {i : Nat} {r : List Int × List PyData} (hr : (phL [] 0 l)[i]? = some r) : progH (phL [] 0 l) (envsL [] 0 l) i r.2 = shpH (risL [] 0 l) r.1 r.2 := by
  obtain ⟨p, h⟩ := r
  unfold progH shpH
  dsimp only
  split
  · rename_i x nm
    by_cases e : (x == "use") = true
    · rw [if_pos e, if_pos e]
      have e' : x = "use" := eq_of_beq e
      subst e'
      obtain ⟨o, ho, hl⟩ := use_law d hr
      rw [ho, hl]
      cases o with
      | none => rfl
      | some j =>
        rw [Option.map_some, num_law ho]
    · rw [if_neg e, if_neg e]
  · rfl
/-- the shape of a forest -/
def shape (l : List It) : List PyData := datL (renL (shpH (risL [] 0 l)) [] 0 l)
theorem nest_shape {l : List It} (hi : ∀ x ∈ l, HI x) : nestD ((phL [] 0 l).map (·.1)) ((phL [] 0 l).map fun r => shpH (risL [] 0 l) r.1 r.2) = .tuple (shape l) := by
  have e : ((phL [] 0 l).map (·.1)).zip ((phL [] 0 l).map fun r => shpH (risL [] 0 l) r.1 r.2) = phL [] 0 (renL (shpH (risL [] 0 l)) [] 0 l) := by
    rw [phL_ren]
    generalize phL [] 0 l = rows
    rw [List.zip_map']
  unfold nestD shape
  rw [e, nest_all]
  intro y hy
  obtain ⟨x, hx, q, rfl⟩ := renL_mem hy
  exact hi_ren (holdH_shp _) (hi x hx) q
end K1
set_option maxHeartbeats 4000000
/-! _law_shape -/
namespace K1
open PySem L2
abbrev NLs : List Str := ["_law_rows_here", "_law_items", "_law_path", "_law_lets", "_law_found", "_law_at", "_law_own", "_law_item_here", "_law_one_here"]
abbrev ttSh (K : PySem.W.Frag) : TT := tTest (tOp rEq (tOp (rIxT K) (tVar 7) (tC (.int 0))) (tC (.str "let")))
/-- every use of these rows is seen -/
def SeenR (U : List Int → It → Bool) (rs : List (List Int × It)) : Prop := ∀ r ∈ rs, U r.1 r.2 = false
theorem lawM_let {rs : List (List Int × It)} {nm : Str} : ∀ {n : Nat} {p q : List Int}, lawM rs nm n p = some q → q ∈ letPs rs
  | 0, p, q, h => by cases h
  | n + 1, p, q, h => by
    have unf : lawM rs nm (n + 1) p = (match ((rs.filter (aheadB p)).filter fun r => letB nm r.2).getLast? with
      | some r => some r.1
      | none => lawM rs nm n p.dropLast) := rfl
    rw [unf] at h
    cases e : ((rs.filter (aheadB p)).filter fun r => letB nm r.2).getLast? with
    | none =>
      rw [e] at h
      exact lawM_let h
    | some r =>
      rw [e] at h
      cases h
      have hm := List.mem_of_getLast? e
      rw [List.mem_filter, List.mem_filter] at hm
      refine List.mem_map.mpr ⟨r, List.mem_filter.mpr ⟨hm.1.1, ?_⟩, rfl⟩
      cases z : isLetI r.2 with
      | true => rfl
      | false =>
        have := letI_no r.2 z nm
        rw [hm.2] at this
        cases this
theorem ris_mem : ∀ {l : List It} {p : List Int} {k i : Nat} {x : It}, l[i]? = some x → ∀ r ∈ x.ris (p ++ [((k + i : Nat) : Int)]), r ∈ risL p k l
  | [], p, k, i, x, h, r, hr => by cases h
  | y :: l, p, k, 0, x, h, r, hr => by
    cases h
    rw [risL]
    exact List.mem_append_left _ hr
  | y :: l, p, k, i + 1, x, h, r, hr => by
    rw [risL]
    refine List.mem_append_right _ (ris_mem (k := k + 1) (i := i) h r ?_)
    rw [show k + 1 + i = k + (i + 1) by omega]
    exact hr
theorem shp_use (rs : List (List Int × It)) (p : List Int) (nm : Str) : shpH rs p [.str "use", .str nm] = [.str "use", .int (numOf rs (lawM rs nm p.length p))] := by
  show (if (("use" : Str) == "use") = true then [PyData.str "use", .int (numOf rs (lawM rs nm p.length p))] else (if (("use" : Str) == "let") = true then [PyData.str "let"] else [.str "use", .str nm])) = _
  exact if_pos (by decide +kernel)
theorem LfK.shp {h : List PyData} {w : List Nat} (k : LfK h w) (rs : List (List Int × It)) (p : List Int) {kn : Str} {t : List PyData} (e : h = .str kn :: t) (ne : kn ≠ "use") : shpH rs p h = h := by
  cases k with
  | num m _ => rfl
  | lost => rfl
  | use w _ =>
    have := (List.cons.inj e).1
    cases this
    exact absurd rfl ne
theorem NdK.shp {h : List PyData} {o : List Nat} {b : Bool} (k : NdK h o b) (rs : List (List Int × It)) (p : List Int) : ∃ kn t, h = .str kn :: t ∧ shpH rs p h = [.str kn] := by
  cases k with
  | block => exact ⟨_, _, rfl, rfl⟩
  | sum => exact ⟨_, _, rfl, rfl⟩
  | product => exact ⟨_, _, rfl, rfl⟩
  | let_ w hw =>
    refine ⟨_, _, rfl, ?_⟩
    show (if (("let" : Str) == "use") = true then [PyData.str "use", .int (numOf rs (lawM rs (sO w) p.length p))] else (if (("let" : Str) == "let") = true then [PyData.str "let"] else [.str "let", .str (sO w)])) = _
    rw [if_neg (by decide +kernel), if_pos (by decide +kernel)]
theorem shp_flat {rs : List (List Int × It)} {p : List Int} {h : List PyData} (f : Flats h) : Flats (shpH rs p h) := by
  unfold shpH
  split
  · split
    · exact .cons (.str _) (.cons (.int _) .nil)
    · split
      · exact .cons (.str _) .nil
      · exact f
  · exact f
theorem Dr.flat_ren {n : Nat} {x : It} (d : Dr n x) (rs : List (List Int × It)) : ∀ p, Flat (x.ren (shpH rs) p).dat := by
  induction d with
  | @leaf n h w k =>
    intro p
    rw [It.ren, It.dat]
    exact .tup (shp_flat k.flat)
  | @node n h o b l k hl _ ih =>
    intro p
    rw [It.ren, It.dat, datL_map]
    refine .tup ((shp_flat k.flat).app (.cons (.tup (Flats.of fun e he => ?_)) .nil))
    obtain ⟨y, hy, rfl⟩ := List.mem_map.mp he
    obtain ⟨z, hz, q, rfl⟩ := renL_mem hy
    exact ih z hz q
theorem Dr.rowI {n : Nat} {x : It} (d : Dr n x) : ∃ (kn : Str) (t : List PyData), x.dat = .tuple (.str kn :: t) ∧ isLetI x = decide (kn = "let") := by
  cases d with
  | @leaf _ h w k =>
    have hl : isLetI (.leaf h w) = false := k.let'
    cases k with
    | num m _ => exact ⟨_, _, rfl, by rw [hl]; decide +kernel⟩
    | lost => exact ⟨_, _, rfl, by rw [hl]; decide +kernel⟩
    | use w _ => exact ⟨_, _, rfl, by rw [hl]; decide +kernel⟩
  | @node _ h o b l k _ _ =>
    cases k with
    | block => exact ⟨_, _, rfl, by show (("block" : Str) == "let") = _; decide +kernel⟩
    | sum => exact ⟨_, _, rfl, by show (("sum" : Str) == "let") = _; decide +kernel⟩
    | product => exact ⟨_, _, rfl, by show (("product" : Str) == "let") = _; decide +kernel⟩
    | let_ w hw => exact ⟨_, _, rfl, by show (("let" : Str) == "let") = _; decide +kernel⟩
theorem letPs_step {rs : List (List Int × It)} {i : Nat} {r : List Int × It} (er : rs[i]? = some r) : letPs (rs.take (i + 1)) = letPs (rs.take i) ++ (if isLetI r.2 = true then [r.1] else []) := by
  unfold letPs
  rw [List.take_succ, er, Option.toList_some, List.filter_append, List.map_append]
  congr 1
  by_cases h : isLetI r.2 = true
  · rw [if_pos h, List.filter_cons_of_pos (p := fun r : List Int × It => isLetI r.2) h, List.filter_nil]
    rfl
  · rw [if_neg h, List.filter_cons_of_neg (p := fun r : List Int × It => isLetI r.2) h, List.filter_nil]
    rfl
theorem letPs_len (rs : List (List Int × It)) : (letPs rs).length ≤ rs.length := by
  unfold letPs
  rw [List.length_map]
  exact List.length_filter_le _ _
theorem letPs_lc {K : PySem.W.Frag} {H1 : Hp} {a : Addr} {xs : List V} {rs : List (List Int × It)} {z1 z2 z3 z4 z5 z6 z7 z8 : Option V} {R : VK} (ha : SqL K H1 a xs) (dx : DQs K H1 xs (rs.map rowX)) (ok : RowsOk rs)
    (k : ∀ H2 D vs, Same H1 H2 → H1 D = none → H2 D = some (.lst vs) → DQs K H1 vs ((letPs rs).map pathD) → R (.ref D) H2) :
    tLc (iList K (tVar 0)) (gTup K 2 (gCons (gName 8) (gCons (gName 7) gNil))) (ttSh K) (tVar 8) [8, 7] [some (.ref a), z1, z2, z3, z4, z5, z6, z7, z8] H1 R := by
  have lx : xs.length = rs.length := by rw [dx.len, List.length_map]
  have few := ok.1
  refine ⟨_, rfl, a, rfl, ⟨xs, ha⟩, fun D nD => ?_⟩
  refine lc_list (K := K) (a := a) (xs := xs) (fun i H' => i ≤ xs.length ∧ Same H1 H' ∧ ∃ vs, H' D = some (.lst vs) ∧ DQs K H1 vs ((letPs (rs.take i)).map pathD)) ⟨Nat.zero_le _, K0.same_upd nD, [], upd_same, .nil⟩ (fun i H' _ ⟨_, s, _⟩ => s.seq ha) ?_ (fun H' ⟨_, s, vs, h1, h2⟩ => k H' D vs s nD h1 (by
    rw [lx, List.take_length] at h2
    exact h2))
  intro i x H' hi ⟨hle, s, vs, hD, dv⟩
  have hlt := (List.getElem?_eq_some_iff.mp hi).1
  have er : rs[i]? = some (rs[i]'(by omega)) := List.getElem?_eq_getElem (by omega)
  have hm : (rs[i]'(by omega)) ∈ rs := List.getElem_mem _
  generalize (rs[i]'(by omega)) = r at er hm
  obtain ⟨_, _, nr, hdr⟩ := ok.2 r hm
  obtain ⟨kn, t, ed, hk⟩ := hdr.rowI
  obtain ⟨x', ex, dx'⟩ := dx.get (i := i) (d := rowX r) (by rw [List.getElem?_map, er]; rfl)
  rw [hi] at ex
  cases ex
  obtain ⟨b, y0, y1, rfl, hT, dy0, dy1⟩ : ∃ b y0 y1, x = .ref b ∧ SqT K H1 b [y0, y1] ∧ DQ K H1 y0 (pathD r.1) ∧ DQ K H1 y1 r.2.dat := by
    cases dx' with
    | tup g1 g2 =>
      cases g2 with
      | cons g3 g4 =>
        cases g4 with
        | cons g5 g6 =>
          cases g6
          exact ⟨_, _, _, rfl, g1, g3, g5⟩
  rw [ed] at dy1
  obtain ⟨c, ys, rfl, hc, hY⟩ : ∃ c ys, y1 = .ref c ∧ SqT K H1 c ys ∧ DQs K H1 ys (.str kn :: t) := by
    cases dy1 with
    | tup g1 g2 => exact ⟨_, _, rfl, g1, g2⟩
  obtain ⟨w0, hw0, dw0⟩ := hY.get (i := 0) (d := .str kn) rfl
  cases dw0
  have lvs : vs.length ≤ 1000 := by
    rw [dv.len, List.length_map]
    refine Nat.le_trans (letPs_len _) ?_
    rw [List.length_take]
    omega
  have hst := letPs_step er
  refine ⟨b, _, rfl, K0.seqT_same s hT, rfl, _, _, rfl, _, _, rfl, rfl, rfl, ?_⟩
  refine ⟨_, rfl, c, ys, _, _, rfl, rfl, K0.seqT_same s hc, atI_nat hw0, rfl, _, rfl, ?_⟩
  rw [dec_str, ← hk]
  cases hb : isLetI r.2 with
  | true =>
    refine iteT ⟨_, rfl, vs, hD, by rw [sizeLine_eq]; omega, hlt, K0.same_over s nD, vs ++ [y0], upd_same, ?_⟩
    rw [hst, hb, if_pos rfl, List.map_append]
    exact dv.app (.cons dy0 .nil)
  | false =>
    refine iteF ⟨hlt, s, vs, hD, ?_⟩
    rw [hst, hb, if_neg Bool.false_ne_true, List.append_nil]
    exact dv
theorem layP : ∀ ps : List (List Int), PyData.canLayAll0 (ps.map pathD) = true
  | [] => by simp [PyData.canLayAll0]
  | p :: ps => by
    have h1 := layI p
    have h2 := layP ps
    unfold pathD at h2 ⊢
    simp [PyData.canLayAll0, PyData.canLay0, h1, h2]
theorem deepP : ∀ ps : List (List Int), PyData.depthAll (ps.map pathD) ≤ 2
  | [] => by simp [PyData.depthAll]
  | p :: ps => by
    have h1 := deepI p
    have h2 := deepP ps
    unfold pathD at h2 ⊢
    simp [PyData.depthAll, PyData.depth]
    omega
theorem dictP : ∀ ps : List (List Int), PyData.hasDictAll (ps.map pathD) = false
  | [] => by simp [PyData.hasDictAll]
  | p :: ps => by
    rw [List.map_cons]
    simp [PyData.hasDictAll, noDict_path p, dictP ps]
theorem shaped_paths (ps : List (List Int)) : SeqAt.shaped (.list (ps.map pathD)) = true := by
  have h1 := layP ps
  have h2 := deepP ps
  unfold SeqAt.shaped
  rw [Bool.and_eq_true, decide_eq_true_eq]
  refine ⟨by simpa [PyData.canLay0] using h1, ?_⟩
  simp [PyData.depth]
  omega
theorem noDict_paths (ps : List (List Int)) : (PyData.list (ps.map pathD)).hasDict = false := by
  have := dictP ps
  simp [PyData.hasDict, this]
theorem index_of {K : PySem.W.Frag} {H : Hp} {D : Addr} {vs : List V} {ps : List (List Int)} {y : V} {q : List Int} {Q : VK} (hD : SqL K H D vs) (dv : DQs K H vs (ps.map pathD)) (dy : DQ K H y (pathD q)) (hq : q ∈ ps) (k : Q (.int ((ps.idxOf q : Nat) : Int)) H) : rIndexD K (.ref D) [y] H Q := by
  have hlt := List.idxOf_lt_length_of_mem hq
  refine ⟨D, y, pathD q, ps.map pathD, ps.idxOf q, pathD q, rfl, rfl, DQ.dp _ _ (noDict_paths ps) (.lst hD dv), DQ.dp _ _ (noDict_path q) dy, shaped_paths ps, shaped_path q, ?_, by rw [eqv_path, decide_eq_true rfl], fun m z hm hz => ?_, k⟩
  · rw [List.getElem?_map, List.getElem?_eq_getElem hlt, List.getElem_idxOf]
    rfl
  · rw [List.getElem?_map, List.getElem?_eq_getElem (by omega)] at hz
    cases hz
    rw [eqv_path]
    refine decide_eq_false fun e => ?_
    have h := List.not_of_lt_findIdx (p := (· == q)) (xs := ps) (i := m) hm
    rw [e] at h
    simp at h
def spLS (K : PySem.W.Frag) (m : Nat) : Sp := fun vs H Q _ => ∃ (n : Nat) (a : Addr) (xs : List V) (rs : List (List Int × It)) (v pw : V) (pth : List Int) (l : List It), m = n + 1 ∧ vs = [.ref a, v, pw] ∧ SqL K H a xs ∧ DQs K H xs (rs.map rowX) ∧ RowsOk rs ∧ SeenR (unsB rs) (risL pth 0 l) ∧ l.length ≤ 4 ∧ (∀ x ∈ l, Dr n x) ∧ pth.length + n ≤ 10 ∧ DQ K H v (.tuple (datL l)) ∧ DQ K H pw (pathD pth) ∧
  ∀ H' u, Same H H' → DQ K H' u (.tuple (datL (renL (shpH rs) pth 0 l))) → Q u H'
def tLetPs (K : PySem.W.Frag) : TE := fun σ H Q => ∃ (a : Addr) (xs : List V) (rs : List (List Int × It)) (z1 z2 z3 z4 z5 z6 z7 z8 : Option V), σ = [some (.ref a), z1, z2, z3, z4, z5, z6, z7, z8] ∧ SqL K H a xs ∧ DQs K H xs (rs.map rowX) ∧ RowsOk rs ∧
  ∀ H2 D vs, Same H H2 → H D = none → H2 D = some (.lst vs) → DQs K H vs ((letPs rs).map pathD) → Q (.ref D) H2
def PvS5 (K : PySem.W.Frag) (HL : Hp) (a ta : Addr) (pw : V) (Dl : Addr) (G : List Int → List PyData → List PyData) (pth : List Int) (l : List It) : Nat → St → Hp → Prop := fun i σ H' => i ≤ l.length ∧ Same HL H' ∧ ∃ (q : Addr) (vs : List V) (o5 o6 o7 o8 : Option V),
  σ = [some (.ref a), some (.ref ta), some pw, some (.ref Dl), some (.ref q), o5, o6, o7, o8] ∧ HL q = none ∧ H' q = some (.lst vs) ∧ DQs K (hid q H') vs (datL (renL G pth 0 (l.take i)))
section
variable {P : Program} {w : World} {K : PySem.W.Frag} {mg : Str → Option Value} {base : Heap}
theorem sc_shape : FnScope NLs ["_law_rows_here", "_law_items", "_law_path"] (defScope (top 38)) := ⟨rfl, rfl, rfl, by decide +kernel, rfl, by decide +kernel, by decide +kernel⟩
theorem cl_lshape (T : All K mg) (hrange : mg "range" = none) : ∀ m : Nat, m ≤ 3 → ClG P w K mg base (m + 1) "_law_shape" ["_law_rows_here", "_law_items", "_law_path"] (spLS K m) := by
  obtain ⟨g, fd, D⟩ := T.dn 38 _ _ rfl
  intro m
  induction m with
  | zero => exact fun _ => clG_no T (i := 38) rfl fun vs H Q E ⟨n, _, _, _, _, _, _, _, e, _⟩ => by omega
  | succ m ih =>
    intro hm
    have IH := ih (by omega)
    refine ⟨g, fd, okG D.fn sc_shape (fun vs H Q E h => ?_) (fun cdv A outer s H vs Q E hgd hr h => ?_), D.mg, D.fn.kp, D.bn⟩
    · obtain ⟨n, a, xs, rs, v, pw, pth, l, _, rfl, _⟩ := h
      rfl
    · obtain ⟨n, a, xs, rs, v, pw, pth, l, en, rfl, ha, dx, hrs, seen, hl, hc, hpl, hd, hp, k⟩ := h
      have hrn : Room (m + 1) _ := hr
      obtain rfl : n = m := by omega
      have hu65 : (cxOf CX0 P w K mg base NLs "_law_shape" (defScope (top 38)) g cdv A outer s H E).nox.A.units + 65 < cLine := by
        have := hr.un
        show (A.deeper _).units + 65 < cLine
        omega
      refine ⟨_, (pss_cons (ps_par (i := 3) (j := 4) rfl sc_shape.nd rfl rfl (by decide) rfl rfl (pa_cons (K0.pe_imp (t' := tLetPs K) (pe_lc (own := [("_law_one_here", 8), ("_law_item_here", 7)]) (g := gTup K 2 (gCons (gName 8) (gCons (gName 7) gNil))) (tt := ttSh K) (te := tVar 8) rfl sc_shape.nd (pi_list (pv 0)) (blkOk_by (own := [("_law_one_here", 8), ("_law_item_here", 7)]) (N := NLs) (sc := defScope (top 38)) (by decide +kernel)) (fun _ _ _ _ _ => pg_tup rfl (pgs_cons (pg_name (i := 8) sc_shape.nd rfl (Or.inl rfl)) (pgs_cons (pg_name (i := 7) sc_shape.nd rfl (Or.inl rfl)) pgs_nil))) (fun _ _ _ _ _ => (pts_one (pt_cmpR op_eq (pe_ix ix_tup (pv 7) pe_int (fun _ _ => rfl)) pe_str (nomark _)))) (fun _ _ _ _ _ => (pv 8))) (fun σ2 H2 Q2 hh => ?_)) (pa_cons (pe_lst pa_nil) pa_nil)) (by rfl))
      (pss_cons (ps_for PassesOwn.never rfl (pi_range1 rfl hrange (pa_cons (pe_callB call_len_seq (by rfl) T.bi.len PySem.boot_len (pa_cons (pv 1) pa_nil)) pa_nil)) (pg_name (i := 5) sc_shape.nd rfl (Or.inl rfl)) (pss_cons (ps_par (i := 6) (j := 7) rfl sc_shape.nd rfl rfl (by decide) rfl rfl (pa_cons (pe_op op_catA (pv 2) (pe_tup (pa_cons (pv 5) pa_nil))) (pa_cons (pe_ix ix_tup (pv 1) (pv 5) (fun _ _ => rfl)) pa_nil)) (by rfl))
      (pss_cons (ps_if (pt_cmpR op_eq (pe_ix ix_tup (pv 7) pe_int (fun _ _ => rfl)) pe_str (nomark _)) (pss_one (ps_set (i := 7) sc_shape.nd rfl (Or.inl rfl) (pe_tup (pa_cons pe_str (pa_cons (pe_bm PySem.F.plainAttrs_list PySem.F.slot_list_index PySem.F.type_list_index (mt_indexD hu65) (pv 3) (pa_cons (pe_clG (cl_lmeant T) hgd hrn (by omega) (pa_cons (pv 0) (pa_cons (pv 6) (pa_cons (pe_ix ix_tup (pv 7) pe_int (fun _ _ => rfl)) pa_nil)))) pa_nil)) pa_nil))))) (pss_one (ps_if (pt_cmpR op_in_seq (pe_ix ix_tup (pv 7) pe_int (fun _ _ => rfl)) (pe_tup (pa_cons pe_str (pa_cons pe_str (pa_cons pe_str (pa_cons pe_str pa_nil))))) rfl) (pss_one (ps_set (i := 7) sc_shape.nd rfl (Or.inl rfl) (pe_tup (pa_cons (pe_ix ix_tup (pv 7) pe_int (fun _ _ => rfl)) (pa_cons (pe_clG IH hgd hrn (Nat.le_refl _) (pa_cons (pv 0) (pa_cons (pe_ix ix_tup (pv 7) (pe_un un_neg pe_int) (fun _ _ => rfl)) (pa_cons (pv 6) pa_nil)))) pa_nil))))) pss_nil)))
      (pss_one (ps_expr (pe_bm PySem.F.plainAttrs_list PySem.F.slot_list_append PySem.F.type_list_append mt_append (pv 4) (pa_cons (pv 7) pa_nil)))))))
      (pss_one (ps_ret (pe_callTy call_tuple_of (by rfl) T.bi.tuple (by decide +kernel) (pa_cons (pv 4) pa_nil)))))), ?_⟩
      · obtain ⟨a, xs, rs, z1, z2, z3, z4, z5, z6, z7, z8, rfl, ha, dx, ok, kk⟩ := hh
        exact letPs_lc ha dx ok kk
      obtain ⟨ta, txs, rfl, hT, hD⟩ : ∃ ta txs, v = .ref ta ∧ SqT K H ta txs ∧ DQs K H txs (datL l) := by
        cases hd with
        | tup h1 h2 => exact ⟨_, _, rfl, h1, h2⟩
      have ltx : txs.length = l.length := by rw [hD.len, datL_map, List.length_map]
      refine ⟨a, xs, rs, _, _, _, _, _, _, _, _, rfl, ha, dx, hrs, fun HL Dl lv sL nDl hDl dlv0 => ?_⟩
      have dlv := dlv0.to sL
      refine ⟨Nat.zero_le _, fun q0 nq0 => ⟨_, _, rfl, ?_⟩⟩
      have s0 := K0.same_upd (o := .lst []) nq0
      have haL := sL.seq ha
      have dxL := dx.to sL
      have hTL := K0.seqT_same sL hT
      have hDL := hD.to sL
      have hpL := hp.to sL
      refine ⟨_, rfl, ta, txs, rfl, .inr (K0.seqT_same s0 hTL), _, rfl, by omega, by omega, ?_⟩
      rw [Int.toNat_natCast, ltx]
      refine for_range (lo := 0) (n := l.length) (PvS5 K HL a ta pw Dl (shpH rs) pth l) ⟨Nat.zero_le _, s0, q0, [], _, _, _, _, rfl, nq0, upd_same, by rw [List.take_zero, renL, datL]; exact .nil⟩ ?_ ?_
      · rintro i σ H1 hi ⟨hle, s1, q, vs, o5, o6, o7, o8, rfl, nq, hq, dv⟩
        have ei : l[i]? = some l[i] := List.getElem?_eq_getElem hi
        have hdr := hc l[i] (List.getElem_mem hi)
        generalize l[i] = x at ei hdr
        have htk : l.take (i + 1) = l.take i ++ [x] := by rw [List.take_succ, ei]; rfl
        have lti : (l.take i).length = i := by rw [List.length_take]; omega
        have hsx : SeenR (unsB rs) (x.ris (pth ++ [(i : Int)])) := fun r hr => seen r (ris_mem ei r (by rw [Nat.zero_add]; exact hr))
        have hren : datL (renL (shpH rs) pth 0 (l.take (i + 1))) = datL (renL (shpH rs) pth 0 (l.take i)) ++ [(x.ren (shpH rs) (pth ++ [(i : Int)])).dat] := by
          rw [htk, renL_snoc, lti, Nat.zero_add, datL_map, List.map_append, ← datL_map]
          rfl
        obtain ⟨u, hu, du⟩ := hDL.get (i := i) (d := x.dat) (by rw [datL_map, List.getElem?_map, ei]; rfl)
        have lvs : vs.length ≤ 4 := by rw [dv.len, datL_map, List.length_map, renL_len]; omega
        have app : ∀ (D : Ends) (J : Hp) (y : V) (o5 o6 o8 : Option V), Same HL J → J q = some (.lst vs) → DQs K (hid q J) vs (datL (renL (shpH rs) pth 0 (l.take i))) → DQ K J y (x.ren (shpH rs) (pth ++ [(i : Int)])).dat → D.nx = PvS5 K HL a ta pw Dl (shpH rs) pth l (i + 1) → tAppH K D [some (.ref a), some (.ref ta), some pw, some (.ref Dl), some (.ref q), o5, o6, some y, o8] J := by
          intro D J y o5 o6 o8 sJ hqJ dvJ hy hD'
          refine ⟨_, rfl, .inl ⟨rfl, _, SqL.of hqJ⟩, _, rfl, q, vs, _, rfl, rfl, hqJ, by rw [sizeLine_eq]; omega, ?_⟩
          show D.nx _ _
          rw [hD']
          have hy2 : DQ K (hid q J) y (x.ren (shpH rs) (pth ++ [(i : Int)])).dat := Flat.hide hqJ _ _ (hdr.flat_ren rs _) hy
          refine ⟨hi, fun b w e => ?_, q, vs ++ [y], _, _, _, _, rfl, nq, upd_same, ?_⟩
          · rw [upd_ne (ne_of_none e nq)]
            exact sJ _ _ e
          · rw [hid_put, hren]
            exact dvJ.app (.cons hy2 .nil)
        refine ⟨_, rfl, _, rfl, sizeL (m := 1) (Nat.le_refl _), fun t nt => ?_⟩
        have s2 := K0.same_upd (o := .tup [V.int (0 + (i : Int))]) nt
        rw [Int.zero_add] at s2 ⊢
        have hq2 := s2 _ _ hq
        have dv2 := dv.to (hid_mono (p := q) s2)
        have s12 := s1.trans s2
        have dT : DQ K (upd H1 t (.tup [V.int (i : Int)])) (.ref t) (pathD [(i : Int)]) := .tup (.inl (.inl upd_same)) (.cons (.int _) .nil)
        generalize upd H1 t (.tup [V.int (i : Int)]) = H2 at s12 hq2 dv2 dT ⊢
        refine path_cat (hpL.to s12) dT (by omega) fun H3 ov s3 dov => ?_
        have s13 := s12.trans s3
        have hq3 := s3 _ _ hq2
        have dv3 := dv2.to (hid_mono (p := q) s3)
        refine ⟨_, rfl, _, rfl, ta, txs, _, u, rfl, rfl, K0.seqT_same s13 hTL, atI_nat hu, _, _, rfl, ?_⟩
        have du3 := du.to s13
        cases hdr with
        | @leaf _ h wd hk =>
          rw [It.dat] at du3
          rw [It.ren, It.dat] at app
          obtain ⟨kn0, kr0, eh0, hin⟩ := hk.kindIn
          rcases hk.uns rs (pth ++ [(i : Int)]) with ⟨kn, kr, eh, hne, _⟩ | ⟨nm, eh, lnm, hun⟩
          · rw [hk.shp rs _ eh hne] at app
            have du3' := du3
            rw [eh] at du3'
            obtain ⟨a1, xs1, u1, rfl, hT1, hi1, hu1⟩ := du3'.item (i := 0) rfl
            cases hu1
            have ek : kn0 = kn := by
              rw [eh0] at eh
              have := (List.cons.inj eh).1
              cases this
              rfl
            subst ek
            refine ⟨_, rfl, a1, xs1, _, _, rfl, rfl, hT1, hi1, rfl, _, rfl, ?_⟩
            rw [dec_str, decide_eq_false hne]
            refine iteF ⟨_, rfl, a1, xs1, _, _, rfl, rfl, hT1, hi1, sizeL (m := 4) (Nat.le_refl _), fun t3 nt3 => ⟨t3, _, rfl, .inr (.inl (.inl upd_same)), rfl, rfl, _, rfl, ?_⟩⟩
            have s6 := K0.same_upd (o := .tup [V.str "block", V.str "sum", V.str "product", V.str "let"]) nt3
            rw [hin]
            exact iteF (app _ _ _ _ _ _ (s13.trans s6) (s6 _ _ hq3) (dv3.to (hid_mono s6)) (du3.to s6) rfl)
          · have hs := hsx (pth ++ [(i : Int)], .leaf h wd) (by rw [It.ris]; exact List.mem_cons_self)
            dsimp only at hs
            rw [hun] at hs
            obtain ⟨qq, eL⟩ : ∃ qq, lawM rs nm (pth ++ [(i : Int)]).length (pth ++ [(i : Int)]) = some qq := by
              cases e : lawM rs nm (pth ++ [(i : Int)]).length (pth ++ [(i : Int)]) with
              | none => rw [e] at hs; cases hs
              | some qq => exact ⟨qq, rfl⟩
            rw [eh, shp_use, eL] at app
            have du3' := du3
            rw [eh] at du3'
            obtain ⟨a1, xs1, u1, rfl, hT1, hi1, hu1⟩ := du3'.item (i := 0) rfl
            cases hu1
            obtain ⟨a2, xs2, u2, e2, hT2, hi2, hu2⟩ := du3'.item (i := 1) rfl
            cases e2
            cases hu2
            refine ⟨_, rfl, a1, xs1, _, _, rfl, rfl, hT1, hi1, rfl, _, rfl, ?_⟩
            rw [dec_str, decide_eq_true rfl]
            refine iteT ⟨_, rfl, .inl ⟨rfl, _, SqL.of (s13 _ _ hDl)⟩, _, rfl, _, rfl, _, rfl, a1, xs2, _, _, rfl, rfl, hT2, hi2, a, xs, ov, rs, pth ++ [(i : Int)], nm, rfl, s13.seq haL, dxL.to s13, dov, by rw [List.length_append, List.length_singleton]; omega, hrs.1, hrs.k, fun H4 z s4 dz => ?_⟩
            rw [eL] at dz
            have s14 := s13.trans s4
            unfold tNil
            dsimp only
            refine index_of (SqL.of (s14 _ _ hDl)) (dlv.to s14) dz (lawM_let eL) ?_
            refine ⟨sizeL (m := 2) (Nat.le_refl 2), fun t5 nt5 => ?_⟩
            have s5 := K0.same_upd (o := .tup [V.str "use", .int (((letPs rs).idxOf qq : Nat) : Int)]) nt5
            exact app _ _ _ _ _ _ (s14.trans s5) (s5 _ _ (s4 _ _ hq3)) (dv3.to (hid_mono (s4.trans s5))) (.tup (.inl (.inl upd_same)) (.cons (.str _ (by decide +kernel)) (.cons (.int _) .nil))) rfl
        | @node n' h o b lc hk hlc hcc =>
          rw [It.dat] at du3
          rw [It.ren, It.dat] at app
          obtain ⟨kn, kr, eh, hin⟩ := hk.kindIn
          obtain ⟨kn', kr', eh', esh⟩ := hk.shp rs (pth ++ [(i : Int)])
          have ek : kn' = kn := by
            rw [eh'] at eh
            have := (List.cons.inj eh).1
            cases this
            rfl
          subst ek
          rw [esh] at app
          have hlen2 : h.length ≤ 2 := hk.kind.choose_spec.choose_spec.2.2.2.2
          have kne : kn' ≠ "use" := fun e => by
            rw [e] at hin
            exact absurd hin (by decide +kernel)
          have kl : kn'.length ≤ 1000 := by
            have du3' := du3
            rw [eh] at du3'
            obtain ⟨a1, xs1, u1, _, _, _, hu1⟩ := du3'.item (i := 0) rfl
            cases hu1
            assumption
          have du3' := du3
          rw [eh] at du3'
          obtain ⟨a1, xs1, u1, rfl, hT1, hi1, hu1⟩ := du3'.item (i := 0) rfl
          cases hu1
          refine ⟨_, rfl, a1, xs1, _, _, rfl, rfl, hT1, hi1, rfl, _, rfl, ?_⟩
          rw [dec_str, decide_eq_false kne]
          refine iteF ⟨_, rfl, a1, xs1, _, _, rfl, rfl, hT1, hi1, sizeL (m := 4) (Nat.le_refl _), fun t3 nt3 => ⟨t3, _, rfl, .inr (.inl (.inl upd_same)), rfl, rfl, _, rfl, ?_⟩⟩
          have s6 := K0.same_upd (o := .tup [V.str "block", V.str "sum", V.str "product", V.str "let"]) nt3
          rw [hin]
          have s16 := s13.trans s6
          have hq6 := s6 _ _ hq3
          have dv6 := dv3.to (hid_mono (p := q) s6)
          have du6 := du3.to s6
          have dov6 := dov.to s6
          have hT6 := K0.seqT_same s6 hT1
          generalize upd H3 t3 (.tup [V.str "block", V.str "sum", V.str "product", V.str "let"]) = H6 at s16 hq6 dv6 du6 dov6 hT6 ⊢
          obtain ⟨a8, xs8, u8, ea8, hT8, hi8, hu8⟩ := du6.last (by omega)
          cases ea8
          refine iteT ⟨_, rfl, a1, xs1, _, _, rfl, rfl, hT6, hi1, _, rfl, _, rfl, 1, rfl, a1, xs8, _, _, rfl, rfl, hT8, hi8, _, rfl, n', a, xs, rs, u8, ov, pth ++ [(i : Int)], lc, rfl, rfl, s16.seq haL, dxL.to s16, hrs, fun r hr => hsx r (by rw [It.ris]; exact List.mem_cons_of_mem _ hr), Nat.le_trans hlc (by decide), hcc, by rw [List.length_append, List.length_singleton]; omega, hu8, dov6, fun H7 u7 s7 du7 => ⟨sizeL (m := 2) (Nat.le_refl 2), fun t8 nt8 => ?_⟩⟩
          have s8 := K0.same_upd (o := .tup [V.str kn', u7]) nt8
          exact app _ _ _ _ _ _ ((s16.trans s7).trans s8) (s8 _ _ (s7 _ _ hq6)) (dv6.to (hid_mono (s7.trans s8))) (.tup (.inl (.inl upd_same)) (.cons (.str _ kl) (.cons (du7.to s8) .nil))) rfl
      · rintro σ H1 ⟨_, s1, q, vs, o5, o6, o7, o8, rfl, nq, hq, dv⟩
        rw [List.take_length] at dv
        refine ⟨_, rfl, q, vs, rfl, .inl ⟨SqL.of hq, fun q2 nq2 => ?_⟩⟩
        have s2 := K0.same_upd (o := .tup vs) nq2
        exact k _ _ ((sL.trans s1).trans s2) (.tup (.inl (.inl upd_same)) ((dv.to (hid_same q _)).to s2))
end
end K1
set_option maxHeartbeats 4000000
/-! meant_lets -/
namespace K1
open PySem L2
theorem same_made {H : Hp} {x dx : Addr} {o1 o2 : HO} (nx : H x = none) (nd : H dx = none) : Same H (hidS [x] (upd (upd H dx o1) x o2)) := fun b u e => by
  have hx : b ≠ x := ne_of_none e nx
  refine hidS_of (by simp [hx]) ?_
  rw [upd_ne hx, upd_ne (ne_of_none e nd)]
  exact e
theorem DQ.made {K : PySem.W.Frag} {H : Hp} {v : V} {d : PyData} {x dx : Addr} {o1 o2 : HO} (h : DQ K H v d) (nx : H x = none) (nd : H dx = none) : DQ K (upd (upd H dx o1) x o2) v d := h.to fun b u e => by
  rw [upd_ne (ne_of_none e nx), upd_ne (ne_of_none e nd)]
  exact e
def errPost (B : Addr) (H : Hp) (E : XK) (told : V) : Prop := ∀ H' d, Same H H' → H' d = some (.xd [("told", told)]) → E (.ref B) (some d) H'
/-- a value that is a tracked thing is held from now on: it is read, and not written -/
def tHold (t : TE) : TE := fun σ H Q => t σ H fun x H1 => ∃ d u, x = .ref d ∧ H1 d = some u ∧ Mut (some u) ∧ ∀ od, Q x (upd H1 d (.frz od u))
theorem pe_hold {X : Cx} {e : Expr} {t : TE} (h : PE X e t) : PE X e (tHold t) := by
  refine ⟨fun pins s σ H Q I hw => thn (h.run pins s σ H _ I hw) fun v s1 ⟨x, H1, I1, r, d, u, ex, hd, mu, q⟩ => ?_⟩
  obtain ⟨od, I2⟩ := I1.lock hd mu
  exact ⟨x, _, I2, r, q od⟩
def ShOk (rows : List (List Int × List PyData)) : Prop := ∀ r ∈ rows, ∃ (x : Str) (t : List PyData), r.2 = .str x :: t ∧ t.length ≤ 10 ∧ Flats r.2 ∧ (x = "let" → ∃ nm, t = [.str nm])
abbrev RdD := List (List Int × List PyData) → List (List Nat) → PyData
def readPost (K : PySem.W.Frag) (B BN : Addr) (H : Hp) (Q : VK) (E : XK) (D : RdD) : Nat ⊕ Sc → Prop
  | .inl e => errPost B H E (natV e)
  | .inr S' => ∃ rows es, MeanOk S' rows es ∧ ShOk rows ∧ (∀ i, Unseen rows es i → errPost BN H E (.int (S'.firsts.getD i 0))) ∧ ((∀ i < rows.length, useAt rows es i ≠ some none) → ∀ H' u, Same H H' → DQ K H' u (D rows es) → Q u H')
def spRd (K : PySem.W.Frag) (B BN : Addr) (D : RdD) : Sp := fun vs H Q E => ∃ v, vs = [v] ∧ srcPost K H v (errPost B H E (natV 0)) (fun _ r => readPost K B BN H Q E D r)
def pairD (rows : List (List Int × List PyData)) (ij : Nat × Nat) : PyData := .tuple [pathD (pathOf rows ij.1), pathD (pathOf rows ij.2)]
def lets_D : RdD := fun rows es => .list ((meantN rows es rows.length).map (pairD rows))
abbrev tPairL (K : PySem.W.Frag) : TE := tTup (tCons (tOp (rIxL K) (tFld K (tVar 1) "paths") (tVar 2)) (tCons (tOp (rIxL K) (tFld K (tVar 1) "paths") (tVar 3)) tNil))
section
variable {P : Program} {w : World} {K : PySem.W.Frag} {mg : Str → Option Value} {base : Heap}
theorem sc_mlets : FnScope ["text", "scan", "use", "let"] ["text"] (defScope (top 24)) := ⟨rfl, rfl, rfl, by decide +kernel, rfl, by decide +kernel, by decide +kernel⟩
theorem cl_mlets {C B BN fI fN : Addr} (T : All K mg) (W : ScC K mg C) (R : Er K mg "BadText" B fI) (RV : Er K mg "NotVisible" BN fN) (henum : mg "enumerate" = none) : ClX P w K mg base 10 "meant_lets" ["text"] (spRd K B BN lets_D) := by
  obtain ⟨g, fd, D⟩ := T.dn 24 _ _ rfl
  obtain ⟨f0, fd0, F0, b0, M0⟩ := W.ini
  have G0 : FnOk P w K mg base (L2.CX P w) 8 f0 fd0 ["self", "text"] (spIniS K C B) := ok_inis F0 T W R
  refine D.clX (D.fn.okX sc_mlets (fun vs H Q E h => ?_) (fun cdv A outer s H vs Q E hr h => ?_))
  · obtain ⟨v, rfl, _⟩ := h
    rfl
  · obtain ⟨v, rfl, hv⟩ := h
    refine ⟨_, (pss_cons (ps_set (i := 1) sc_mlets.nd rfl (Or.inr rfl) (pe_makeS M0 G0 hr rfl W.mg b0 .nil (fun σ => passAt (takes_of rfl rfl rfl rfl) σ) (pa_cons (pv 0) pa_nil)))
      (pss_one (ps_ret (pe_lc (own := [("use", 2), ("let", 3)]) (g := gTup K 2 (gCons (gName 2) (gCons (gName 3) gNil))) (tt := tYes) (te := tPairL K) rfl sc_mlets.nd (pi_items (pe_hold (pe_clX (cl_meant T W RV henum) hr (takes_of rfl rfl rfl rfl) (by decide) (pa_cons (pv 1) pa_nil)))) (blkOk_by (own := [("use", 2), ("let", 3)]) (N := ["text", "scan", "use", "let"]) (sc := defScope (top 24)) (by decide +kernel)) (fun _ _ _ _ _ => pg_tup rfl (pgs_cons (pg_name (i := 2) sc_mlets.nd rfl (Or.inl rfl)) (pgs_cons (pg_name (i := 3) sc_mlets.nd rfl (Or.inl rfl)) pgs_nil))) (fun _ _ _ _ _ => pts_nil) (fun _ _ _ _ _ => (pe_tup (pa_cons (pe_ix ix_list (pe_fld (pv 1) rfl) (pv 2) (fun _ _ => rfl)) (pa_cons (pe_ix ix_list (pe_fld (pv 1) rfl) (pv 3) (fun _ _ => rfl)) pa_nil)))))))), ?_⟩
    refine ⟨_, rfl, fun x dx nx ndx ne => ⟨x, dx, v, rfl, upd_same, ?_⟩⟩
    have sm : Same H (hidS [x] (upd (upd H dx (.own x)) x (.ins C dx []))) := same_made nx ndx
    rcases hv with ⟨⟨d, hd, hk⟩, k⟩ | ⟨z, r, rfl, hz, hR, k⟩
    · exact .inl ⟨⟨d, hd.made nx ndx, hk⟩, fun H' d s1 hd => k H' d (sm.trans s1) hd⟩
    · refine .inr ⟨z, r, rfl, hz, hR, ?_⟩
      cases r with
      | inl e => exact fun H' d s1 hd => k H' d (sm.trans s1) hd
      | inr S' =>
        obtain ⟨rows, es, ok, sh, kE, kQ⟩ := k
        intro H' a ea At s1
        refine ⟨rfl, ?_⟩
        subst ea
        have sH' := sm.trans s1
        refine ⟨_, rfl, a, z, S', rows, es, rfl, At, ok, fun i H2 d un s2 hd => kE i un H2 d (sH'.trans s2) hd, fun seen H2 q s2 nq hq => ?_⟩
        refine ⟨q, _, rfl, hq, by trivial, fun od => ⟨q, od, _, rfl, upd_same, fun Dd nD => ?_⟩⟩
        have s3 : Same H' (upd H2 q (.frz od (.dK (meantK rows es rows.length)))) := fun b u e => by
          rw [upd_ne (ne_of_none e nq)]
          exact s2 _ _ e
        have hq3 := @upd_same H2 q (.frz od (.dK (meantK rows es rows.length)))
        generalize upd H2 q (.frz od (.dK (meantK rows es rows.length))) = H3 at s3 hq3 nD ⊢
        obtain ⟨dx1, hob⟩ := At.ob
        obtain ⟨vp, h1, d1⟩ := At.l1
        have few := ok.near.few
        have d1' : DQs K H' vp (rows.map fun r => pathD r.1) := by
          have := d1.to (hidS_in _ _)
          rw [ok.near.p, List.map_map] at this
          exact this
        have lmn : (meantN rows es rows.length).length ≤ rows.length := by
          have := @meantK_len rows es rows.length
          rw [meantK_N, List.length_map] at this
          exact this
        have fld : ∀ J', Same H3 J' → J' a.p = some (.ins C dx1 (scF a z S'.pos)) := fun J' s => s _ _ (s3 _ _ hob)
        have at1 : ∀ J', Same H3 J' → SqL K J' a.a1 vp := fun J' s => SqL.of (s _ _ (s3 _ _ h1))
        have lkv : (meantK rows es rows.length).length = (meantN rows es rows.length).length := by rw [meantK_N, List.length_map]
        refine lc_it (walk_items (d := q) (o := od) (kvs := meantK rows es rows.length)) (fun i J => i ≤ (meantN rows es rows.length).length ∧ Same H3 J ∧ ∃ vs, J Dd = some (.lst vs) ∧ DQs K (hid Dd J) vs (((meantN rows es rows.length).take i).map (pairD rows))) ⟨Nat.zero_le _, K0.same_upd nD, [], upd_same, .nil⟩ (fun i J _ ⟨_, s, _⟩ => s _ _ hq3) ?_ ?_
        · rintro i x J J1 hi ⟨hle, sJ, vs, hD, dv⟩ ⟨TT, x0, y0, rfl, nT, rfl, e0, e1⟩
          rw [lkv] at hi
          have er : (meantN rows es rows.length)[i]? = some (meantN rows es rows.length)[i] := List.getElem?_eq_getElem hi
          have hmem : (meantN rows es rows.length)[i] ∈ meantN rows es rows.length := List.getElem_mem hi
          generalize (meantN rows es rows.length)[i] = ij at er hmem
          obtain ⟨i1, j1⟩ := ij
          rw [meantK_N] at e0 e1
          dsimp only at e0 e1
          rw [List.getElem?_map, er] at e0 e1
          cases e0
          cases e1
          have hij : i1 < rows.length ∧ j1 < rows.length := by
            unfold meantN at hmem
            obtain ⟨i2, hi2, e2⟩ := List.mem_filterMap.mp hmem
            split at e2
            · rename_i j2 q2
              cases e2
              exact ⟨List.mem_range.mp hi2, (use_some q2).1⟩
            · cases e2
          have getp : ∀ m < rows.length, ∃ y, vp[m]? = some y ∧ DQ K H' y (pathD (pathOf rows m)) := fun m hm => d1'.get (by
            unfold pathOf
            rw [List.getElem?_map, List.getD_eq_getElem?_getD, List.getElem?_eq_getElem hm]
            rfl)
          obtain ⟨y1, ey1, dy1⟩ := getp i1 hij.1
          obtain ⟨y2, ey2, dy2⟩ := getp j1 hij.2
          have sT := K0.same_upd (o := .tup [kV (.inl (i1 : Int)), V.int (j1 : Int)]) nT
          have s31 := sJ.trans sT
          have hD1 := sT _ _ hD
          have dv1 := dv.to (hid_mono (p := Dd) sT)
          refine ⟨TT, _, rfl, .inl (.inl upd_same), rfl, _, _, rfl, _, _, rfl, rfl, rfl, ?_⟩
          generalize upd J TT (.tup [kV (.inl (i1 : Int)), V.int (j1 : Int)]) = J2 at s31 hD1 dv1 ⊢
          unfold tYes
          dsimp only
          rw [if_pos rfl]
          refine ⟨_, rfl, a.p, C, dx1, _, _, rfl, fld J2 s31, W.cl, W.n1, look1 _ _ _, _, rfl, a.a1, vp, _, _, rfl, rfl, at1 J2 s31, atI_nat ey1, _, rfl, a.p, C, dx1, _, _, rfl, fld J2 s31, W.cl, W.n1, look1 _ _ _, _, rfl, a.a1, vp, _, _, rfl, rfl, at1 J2 s31, atI_nat ey2, sizeL (m := 2) (Nat.le_refl 2), fun t nt => ?_⟩
          have s4 := K0.same_upd (o := .tup [y1, y2]) nt
          have hD4 := s4 _ _ hD1
          have tD : t ≠ Dd := fun z => by rw [z, hD1] at nt; cases nt
          have sH := s3.trans s31
          refine ⟨vs, hD4, by rw [dv.len, List.length_map, List.length_take, sizeLine_eq]; omega, hi, fun b u e => ?_, vs ++ [.ref t], upd_same, ?_⟩
          · rw [upd_ne (ne_of_none e nD)]
            exact (s31.trans s4) _ _ e
          · rw [hid_put, List.take_succ, er, Option.toList_some, List.map_append]
            refine (dv1.to (hid_mono s4)).app (.cons (.tup (.inl (.inl (by rw [hid_ne tD, upd_same]))) (.cons ?_ (.cons ?_ .nil))) .nil)
            · exact Flat.hide hD4 _ _ (Flat.pathX _) (dy1.to (sH.trans s4))
            · exact Flat.hide hD4 _ _ (Flat.pathX _) (dy2.to (sH.trans s4))
        · rintro J ⟨_, sJ, vs, hD, dv⟩
          rw [lkv, List.take_length] at dv
          exact kQ seen J _ (sH'.trans (s3.trans sJ)) (.lst (SqL.of hD) (dv.to (hid_same Dd _)))
end
end K1
set_option maxHeartbeats 4000000
/-! name = {k: v for ..}, keys ints or texts; a walk's dict -/
namespace K1
open PySem L2 PySem.Spec PyProof.Rows
section
variable {X : Cx}
theorem ps_setDk {i : Nat} {y : PySem.Str} {py : Pos} {kx vx tg iter : Expr} {ifs : List Expr} {scope : Scope} {own : List (PySem.Str × Nat)} {pos spos : Pos} {wi : TI} {g : TG} {tt : TT} {tk tv : TE} (hc : X.calm = true) (hN : X.N.Nodup) (hy : X.N[i]? = some y) (hyl : X.env.scope.names.lookup y = some .local)
    (hsw : swapsWith (.DictComp kx vx [⟨tg, iter, ifs, 0⟩] scope pos) (some (.Name y py)) spos.line X.env = pure true) (hi : PI X tg iter wi) (ok : BlkOk X.N X.env.scope scope own)
    (hg : ∀ (s : Shared) (H : Hp) (C : Addr) (cl : List (PySem.Str × Addr)) (fp : List Addr), PG (X.blk s H scope (compEnvC scope cl C X.env) fp) tg g) (ht : ∀ (s : Shared) (H : Hp) (C : Addr) (cl : List (PySem.Str × Addr)) (fp : List Addr), PTs (X.blk s H scope (compEnvC scope cl C X.env) fp) ifs tt)
    (hk : ∀ (s : Shared) (H : Hp) (C : Addr) (cl : List (PySem.Str × Addr)) (fp : List Addr), PE (X.blk s H scope (compEnvC scope cl C X.env) fp) kx tk)
    (he : ∀ (s : Shared) (H : Hp) (C : Addr) (cl : List (PySem.Str × Addr)) (fp : List Addr), PE (X.blk s H scope (compEnvC scope cl C X.env) fp) vx tv) (hs : ∀ x, foldedSetIterable iter X.env x = pure x := by intro _; rfl) :
    PS X (.Assign [.Name y py] (.DictComp kx vx [⟨tg, iter, ifs, 0⟩] scope pos) spos) (tAsg (tDc wi g tt tk tv (own.map (·.2))) (gName i)) := by
  refine ⟨fun pins s σ H D0 I h => ?_⟩
  rw [exec_Assign_Name_used _ _ _ _ hsw]
  refine wpAny_bind (wpAny_standAt (wpAny_bind ?_))
  show wpAny _ X.A (do let _ ← comprehension (.DictComp kx vx [⟨tg, iter, ifs, 0⟩] scope pos) scope X.env (firstIterPos [⟨tg, iter, ifs, 0⟩] pos) newDict false (eval iter X.env) (some (assign (.Name y py) X.env))) _ _ s
  have h : tDc wi g tt tk tv (own.map (·.2)) σ H (fun x H1 => gName i x σ H1 D0.nx) := h
  refine wpAny_bind (thn (dc_core (Qf := fun _ s' => SP X pins D0 .next s') hc hN I hi ok hg ht hk he hs h fun L C s' m H' I' q hn f => ?_) fun _ s' hq => wpAny_pure (wpAny_pure hq))
  show wpAny _ _ (assign (.Name y py) X.env (.ref L)) _ _ _
  refine wpAny_assign_Name (store_ok2 (v := V.ref L) I' hN hy (.inl hyl) rfl (fun s2 I2 ⟨a, sb, ha⟩ => ?_) (.inr hyl))
  obtain ⟨f0, f1, f2, f3, f4, f5⟩ := f
  have haC : C ≠ a := by
    rcases ha with z | z
    · rw [z]; exact f1
    · exact fun e => f4 y a z e.symm
  refine ⟨m, hn.sameBut sb haC, fun h3 sb3 => ?_⟩
  exact ⟨_, H', I2.turned (t' := s2.toks) (fun b o hb e => (sb3.2 b hb).trans e) f0 f1 f3 f4 f5, q⟩
end
theorem swDk_true {kx vx : Expr} {gs : List Comprehension} {scope : Scope} {pos py : Pos} {y : PySem.Str} {l : Nat} {env : Env} (hk : env.scope.kind = .function) (hy : env.scope.names.lookup y = some .local) (hl : (py.line == pos.line) = true)
    (ha : (scope.names.any fun (n, k) => n == y && (k == .local || k == .cell)) = false) : swapsWith (.DictComp kx vx gs scope pos) (some (.Name y py)) l env = pure true := by
  have ky : env.kindOf y = some .local := hy
  have kb : env.blockKind = .function := by unfold Env.blockKind; rw [hk]; rfl
  unfold swapsWith
  simp only [kb, ky, ha, Expr.pos, hl]
  rfl
section
variable {J : L2.It} {n : Nat} {G : Hp → Prop} {Y : Nat → Hp → V → Hp → Prop}
theorem dc_it (w : Walk J n G Y) {g : TG} {tt : TT} {tk tv : TE} {vs : List Nat} {σ : L2.St} {H1 : Hp} {D : Addr} {Qd : Hp → Prop} (Pv : Nat → Hp → Prop) (h0 : Pv 0 (upd H1 D (.dK []))) (hG : ∀ i H, i ≤ n → Pv i H → G H)
    (hs : ∀ i x H H', i < n → Pv i H → Y i H x H' → g x (wipe σ vs) H' fun σ2 H2 => wipe σ2 vs = wipe σ vs ∧ tt σ2 H2 fun b H3 =>
      if b = true then tk σ2 H3 fun y H4 => tv σ2 H4 fun z H5 => ∃ kvs k, y = kV k ∧ H5 D = some (.dK kvs) ∧ kvs.length < sizeLine ∧ Pv (i + 1) (upd H5 D (.dK (putK kvs k z))) else Pv (i + 1) H3) (hd : ∀ H, Pv n H → Qd H) :
    ∃ W : Nat → Nat → Hp → Prop, (∃ m, W 0 m (upd H1 D (.dK []))) ∧ ∀ i m H, W i m H →
      (J.stop i H ∧ Qd H) ∨ (J.go i H ∧ ∃ Nx : Hp → Prop, (∀ H', Nx H' → ∃ m', m' < m ∧ W (i + 1) m' H') ∧ ∀ x H', J.yld i H x H' → g x (wipe σ vs) H' fun σ2 H2 => wipe σ2 vs = wipe σ vs ∧ tt σ2 H2 fun b H3 =>
        if b = true then tk σ2 H3 fun y H4 => tv σ2 H4 fun z H5 => ∃ kvs k, y = kV k ∧ H5 D = some (.dK kvs) ∧ kvs.length < sizeLine ∧ Nx (upd H5 D (.dK (putK kvs k z))) else Nx H3) := by
  refine ⟨fun i m H => m = n - i ∧ i ≤ n ∧ Pv i H, ⟨n, by simp, Nat.zero_le _, h0⟩, ?_⟩
  rintro i m H ⟨rfl, hi, p⟩
  have q := hG i H hi p
  by_cases hlt : i < n
  · refine .inr ⟨w.goes i H hlt q, Pv (i + 1), fun H' p' => ⟨n - (i + 1), by omega, rfl, hlt, p'⟩, fun x H' y => hs i x H H' hlt p (w.yields i H x H' hlt q y)⟩
  · have e : i = n := by omega
    subst e
    exact .inl ⟨w.stops H q, hd H p⟩
end
end K1
set_option maxHeartbeats 4000000
/-! read_shape -/
namespace K1
open PySem L2
abbrev NLrs : List Str := ["text", "scan", "meant", "lets", "numbers", "heads", "at", "head", "number"]
abbrev ttRs (K : PySem.W.Frag) : TT := tTest (tOp rEq (tOp (rIxT K) (tVar 7) (tC (.int 0))) (tC (.str "let")))
def headsP (rows : List (List Int × List PyData)) (es : List (List Nat)) (n : Nat) : List (List PyData) := (List.range n).map fun i => progH rows es i (rows.getD i ([], [])).2
def letIxN (rows : List (List Int × List PyData)) (n : Nat) : List Nat := (List.range n).filter fun i => letH (rows.getD i ([], [])).2
theorem letIxN_succ (rows : List (List Int × List PyData)) (n : Nat) : letIxN rows (n + 1) = letIxN rows n ++ (if letH (rows.getD n ([], [])).2 = true then [n] else []) := by
  unfold letIxN
  rw [List.range_succ, List.filter_append]
  congr 1
  by_cases h : letH (rows.getD n ([], [])).2 = true
  · rw [if_pos h, List.filter_cons_of_pos (p := fun i => letH (rows.getD i ([], [])).2) h, List.filter_nil]
  · rw [if_neg h, List.filter_cons_of_neg (p := fun i => letH (rows.getD i ([], [])).2) h, List.filter_nil]
theorem letIxN_len (rows : List (List Int × List PyData)) (n : Nat) : (letIxN rows n).length ≤ n := by
  unfold letIxN
  refine Nat.le_trans (List.length_filter_le _ _) ?_
  rw [List.length_range]
  exact Nat.le_refl _
theorem letIx_nd (rows : List (List Int × List PyData)) : (letIx rows).Nodup := List.nodup_range.filter _
def numK (L : List Nat) (n : Nat) : List (Key × V) := (List.range n).map fun i => ((.inl ((L.getD i 0 : Nat) : Int) : Key), V.int (i : Int))
theorem numK_put {L : List Nat} (nd : L.Nodup) {i : Nat} (hi : i < L.length) : putK (numK L i) (.inl ((L[i] : Nat) : Int)) (.int (i : Int)) = numK L (i + 1) := by
  have e : L.getD i 0 = L[i] := by
    rw [List.getD_eq_getElem?_getD, List.getElem?_eq_getElem hi]
    rfl
  have hn : ((numK L i).any fun kv => decide (kv.1 = (.inl ((L[i] : Nat) : Int) : Key))) = false := by
    rw [List.any_eq_false]
    intro kv hkv
    obtain ⟨j, hj, rfl⟩ := List.mem_map.mp hkv
    have hj' := List.mem_range.mp hj
    rw [decide_eq_true_eq]
    intro z
    have z2 : ((L.getD j 0 : Nat) : Int) = ((L[i] : Nat) : Int) := Sum.inl.inj z
    have z3 : L[j]'(by omega) = L[i] := by
      rw [List.getD_eq_getElem?_getD, List.getElem?_eq_getElem (by omega : j < L.length)] at z2
      have : (((L[j]'(by omega)) : Nat) : Int) = ((L[i] : Nat) : Int) := z2
      omega
    have := (List.getElem_inj nd).mp z3
    omega
  unfold putK
  rw [hn]
  unfold numK
  rw [List.range_succ, List.map_append]
  show _ ++ [_] = _ ++ [((.inl ((L.getD i 0 : Nat) : Int) : Key), V.int (i : Int))]
  rw [e]
theorem valV_app {κ : Type} [DecidableEq κ] (a b : List (κ × V)) (k : κ) : valV (a ++ b) k = (valV a k).or (valV b k) := by
  unfold valV
  rw [List.find?_append]
  cases a.find? (fun kv => decide (kv.1 = k)) <;> rfl
theorem valV_num {L : List Nat} (nd : L.Nodup) : ∀ {n j : Nat} (_ : n ≤ L.length) (hj : j < n), valV (numK L n) (.inl (((L[j]?).getD 0 : Nat) : Int)) = some (.int (j : Int))
  | 0, j, _, h => by omega
  | n + 1, j, hn, hj => by
    have e : numK L (n + 1) = numK L n ++ [((.inl ((L.getD n 0 : Nat) : Int) : Key), V.int (n : Int))] := by
      unfold numK
      rw [List.range_succ, List.map_append]
      rfl
    rw [e, valV_app]
    by_cases h : j < n
    · rw [valV_num nd (by omega) h]
      rfl
    · have ej : j = n := by omega
      subst ej
      have hno : valV (numK L j) (.inl (((L[j]?).getD 0 : Nat) : Int)) = none := by
        unfold valV
        rw [Option.map_eq_none_iff, List.find?_eq_none]
        intro kv hkv
        obtain ⟨i, hi, rfl⟩ := List.mem_map.mp hkv
        have hi' := List.mem_range.mp hi
        rw [decide_eq_true_eq]
        intro z
        have z2 : ((L.getD i 0 : Nat) : Int) = (((L[j]?).getD 0 : Nat) : Int) := Sum.inl.inj z
        rw [List.getD_eq_getElem?_getD, List.getElem?_eq_getElem (by omega : i < L.length), List.getElem?_eq_getElem (by omega : j < L.length)] at z2
        have z3 : L[i]'(by omega) = L[j]'(by omega) := by
          have : (((L[i]'(by omega)) : Nat) : Int) = (((L[j]'(by omega)) : Nat) : Int) := z2
          omega
        have := (List.getElem_inj nd).mp z3
        omega
      rw [hno, Option.none_or]
      exact valV_pos (by rw [List.getD_eq_getElem?_getD])
theorem valV_numAt {L : List Nat} (nd : L.Nodup) {j : Nat} (hj : j ∈ L) : valV (numK L L.length) (.inl (j : Int)) = some (.int ((L.idxOf j : Nat) : Int)) := by
  have hlt := List.idxOf_lt_length_of_mem hj
  have h := valV_num nd (Nat.le_refl _) hlt
  rw [List.getElem?_eq_getElem hlt, List.getElem_idxOf] at h
  exact h
theorem valV_meant {rows : List (List Int × List PyData)} {es : List (List Nat)} {i j : Nat} (h : useAt rows es i = some (some j)) : ∀ {n : Nat}, i < n → valV (meantK rows es n) (.inl (i : Int)) = some (.int (j : Int))
  | 0, hn => by omega
  | n + 1, hn => by
    rw [meantK_succ, valV_app]
    by_cases hi : i < n
    · rw [valV_meant h hi]
      rfl
    · have e : i = n := by omega
      subst e
      have hno : valV (meantK rows es i) (.inl (i : Int)) = none := by
        unfold valV
        rw [Option.map_eq_none_iff, List.find?_eq_none]
        intro kv hkv
        obtain ⟨i2, hi2, e2⟩ := meantK_keys hkv
        rw [e2, decide_eq_true_eq]
        intro z
        have z2 : (i2 : Int) = (i : Int) := Sum.inl.inj z
        omega
      rw [hno, h, Option.none_or]
      exact valV_pos rfl
theorem progH_use {rows : List (List Int × List PyData)} {es : List (List Nat)} {i j : Nat} (h : useAt rows es i = some (some j)) (nm : Str) : progH rows es i [.str "use", .str nm] = [.str "use", .int (((letIx rows).idxOf j : Nat) : Int)] := by
  have e : progH rows es i [.str "use", .str nm] = [.str "use", .int (match useAt rows es i with
      | some (some j) => (((letIx rows).idxOf j : Nat) : Int)
      | _ => 0)] := by
    unfold progH
    exact if_pos (by decide +kernel)
  rw [e, h]
theorem progH_let {rows : List (List Int × List PyData)} {es : List (List Nat)} {i : Nat} (nm : Str) : progH rows es i [.str "let", .str nm] = [.str "let"] := by
  unfold progH
  exact (if_neg (by decide +kernel)).trans (if_pos (by decide +kernel))
theorem progH_else {rows : List (List Int × List PyData)} {es : List (List Nat)} {i : Nat} {x : Str} {t : List PyData} (h1 : x ≠ "use") (h2 : x ≠ "let") : progH rows es i (.str x :: t) = .str x :: t := by
  unfold progH
  split
  · rename_i y nm e
    cases e
    rw [if_neg (by simpa using h1), if_neg (by simpa using h2)]
  · rfl
theorem headsP_succ (rows : List (List Int × List PyData)) (es : List (List Nat)) (n : Nat) : headsP rows es (n + 1) = headsP rows es n ++ [progH rows es n (rows.getD n ([], [])).2] := by
  unfold headsP
  rw [List.range_succ, List.map_append]
  rfl
theorem headsP_len (rows : List (List Int × List PyData)) (es : List (List Nat)) (n : Nat) : (headsP rows es n).length = n := by
  unfold headsP
  rw [List.length_map, List.length_range]
def shape_D : RdD := fun rows es => nestD (rows.map (·.1)) (headsP rows es rows.length)
section
variable {P : Program} {w : World} {K : PySem.W.Frag} {mg : Str → Option Value} {base : Heap}
theorem sc_rsh : FnScope NLrs ["text"] (defScope (top 23)) := ⟨rfl, rfl, rfl, by decide +kernel, rfl, by decide +kernel, by decide +kernel⟩
theorem cl_rshape {C B BN fI fN : Addr} (T : All K mg) (W : ScC K mg C) (R : Er K mg "BadText" B fI) (RV : Er K mg "NotVisible" BN fN) (henum : mg "enumerate" = none) (hzip : mg "zip" = none) : ClX P w K mg base 10 "read_shape" ["text"] (spRd K B BN shape_D) := by
  obtain ⟨g, fd, D⟩ := T.dn 23 _ _ rfl
  obtain ⟨f0, fd0, F0, b0, M0⟩ := W.ini
  have G0 : FnOk P w K mg base (L2.CX P w) 8 f0 fd0 ["self", "text"] (spIniS K C B) := ok_inis F0 T W R
  refine D.clX (D.fn.okX sc_rsh (fun vs H Q E h => ?_) (fun cdv A outer s H vs Q E hr h => ?_))
  · obtain ⟨v, rfl, _⟩ := h
    rfl
  · obtain ⟨v, rfl, hv⟩ := h
    refine ⟨_, (pss_cons (ps_set (i := 1) sc_rsh.nd rfl (Or.inl rfl) (pe_makeS M0 G0 hr rfl W.mg b0 .nil (fun σ => passAt (takes_of rfl rfl rfl rfl) σ) (pa_cons (pv 0) pa_nil)))
      (pss_cons (ps_set (i := 2) sc_rsh.nd rfl (Or.inl rfl) (pe_clX (cl_meant T W RV henum) hr (takes_of rfl rfl rfl rfl) (by decide) (pa_cons (pv 1) pa_nil)))
      (pss_cons (ps_setLc (i := 3) (own := [("at", 6), ("head", 7)]) (g := gTup K 2 (gCons (gName 6) (gCons (gName 7) gNil))) (te := tVar 6) (tt := ttRs K) rfl sc_rsh.nd rfl rfl (sw_true rfl rfl rfl (by decide +kernel)) (pi_enum rfl henum (pa_cons (pe_fld (pv 1) rfl) pa_nil)) (blkOk_by (own := [("at", 6), ("head", 7)]) (N := NLrs) (sc := defScope (top 23)) (by decide +kernel)) (fun _ _ _ _ _ => pg_tup rfl (pgs_cons (pg_name (i := 6) sc_rsh.nd rfl (Or.inl rfl)) (pgs_cons (pg_name (i := 7) sc_rsh.nd rfl (Or.inl rfl)) pgs_nil))) (fun _ _ _ _ _ => (pts_one (pt_cmpR op_eq (pe_ix ix_tup (pv 7) pe_int (fun _ _ => rfl)) pe_str (nomark _)))) (fun _ _ _ _ _ => (pv 6)))
      (pss_cons (ps_setDk (i := 4) (own := [("number", 8), ("at", 6)]) (g := gTup K 2 (gCons (gName 8) (gCons (gName 6) gNil))) (tt := tYes) (tk := tVar 6) (tv := tVar 8) rfl sc_rsh.nd rfl rfl (swDk_true rfl rfl rfl (by decide +kernel)) (pi_enum rfl henum (pa_cons (pv 3) pa_nil)) (blkOk_by (own := [("number", 8), ("at", 6)]) (N := NLrs) (sc := defScope (top 23)) (by decide +kernel)) (fun _ _ _ _ _ => pg_tup rfl (pgs_cons (pg_name (i := 8) sc_rsh.nd rfl (Or.inl rfl)) (pgs_cons (pg_name (i := 6) sc_rsh.nd rfl (Or.inl rfl)) pgs_nil))) (fun _ _ _ _ _ => pts_nil) (fun _ _ _ _ _ => (pv 6)) (fun _ _ _ _ _ => (pv 8)))
      (pss_cons (ps_set (i := 5) sc_rsh.nd rfl (Or.inl rfl) (pe_lst pa_nil))
      (pss_cons (ps_for (passes_of rfl) rfl (pi_enum rfl henum (pa_cons (pe_fld (pv 1) rfl) pa_nil)) (pg_tup (t := (gCons (gName 6) (gCons (gName 7) gNil))) rfl (pgs_cons (pg_name (i := 6) sc_rsh.nd rfl (Or.inl rfl)) (pgs_cons (pg_name (i := 7) sc_rsh.nd rfl (Or.inl rfl)) pgs_nil))) (pss_one (ps_if (pt_cmpR op_eq (pe_ix ix_tup (pv 7) pe_int (fun _ _ => rfl)) pe_str (nomark _)) (pss_one (ps_expr (pe_bm PySem.F.plainAttrs_list PySem.F.slot_list_append PySem.F.type_list_append mt_append (pv 5) (pa_cons (pe_tup (pa_cons pe_str (pa_cons (pe_dget (hu_of hr) (pv 4) (pe_dget (hu_of hr) (pv 2) (pv 6) (fun _ _ => rfl)) (fun _ _ => rfl)) pa_nil))) pa_nil)))) (pss_one (ps_expr (pe_bm PySem.F.plainAttrs_list PySem.F.slot_list_append PySem.F.type_list_append mt_append (pv 5) (pa_cons (pe_ifExp (pt_cmpR op_eq (pe_ix ix_tup (pv 7) pe_int (fun _ _ => rfl)) pe_str (nomark _)) (pe_tup (pa_cons pe_str pa_nil)) (pv 7)) pa_nil)))))))
      (pss_one (ps_ret (pe_cl (cl_nested T hzip) hr (by decide) (pa_cons (pe_fld (pv 1) rfl) (pa_cons (pv 5) pa_nil))))))))))), ?_⟩
    refine ⟨_, rfl, fun x dx nx ndx ne => ⟨x, dx, v, rfl, upd_same, ?_⟩⟩
    have sm : Same H (hidS [x] (upd (upd H dx (.own x)) x (.ins C dx []))) := same_made nx ndx
    rcases hv with ⟨⟨d, hd, hk⟩, k⟩ | ⟨z, r, rfl, hz, hR, k⟩
    · exact .inl ⟨⟨d, hd.made nx ndx, hk⟩, fun H' d s1 hd => k H' d (sm.trans s1) hd⟩
    · refine .inr ⟨z, r, rfl, hz, hR, ?_⟩
      cases r with
      | inl e => exact fun H' d s1 hd => k H' d (sm.trans s1) hd
      | inr S' =>
        obtain ⟨rows, es, ok, sh, kE, kQ⟩ := k
        intro H' a ea At s1
        refine ⟨rfl, ?_⟩
        subst ea
        have sH' := sm.trans s1
        refine ⟨_, rfl, a, z, S', rows, es, rfl, At, ok, fun i H2 d un s2 hd => kE i un H2 d (sH'.trans s2) hd, fun seen H2 q s2 nq hq => ?_⟩
        obtain ⟨dx1, hob⟩ := At.ob
        obtain ⟨vp, h1, d1⟩ := At.l1
        obtain ⟨vh, h2, d2⟩ := At.l2
        have few := ok.near.few
        have d1' : DQs K H' vp (rows.map fun r => pathD r.1) := by
          have := d1.to (hidS_in _ _)
          rw [ok.near.p, List.map_map] at this
          exact this
        have d2' : DQs K H' vh (rows.map fun r => .tuple r.2) := by
          have := d2.to (hidS_in _ _)
          rw [ok.near.h, List.map_map] at this
          exact this
        have lh : vh.length = rows.length := by rw [d2'.len, List.length_map]
        have fld : ∀ J', Same H2 J' → J' a.p = some (.ins C dx1 (scF a z S'.pos)) := fun J' s => s _ _ (s2 _ _ hob)
        have at1 : ∀ J', Same H2 J' → SqL K J' a.a1 vp := fun J' s => SqL.of (s _ _ (s2 _ _ h1))
        have at2 : ∀ J', Same H2 J' → SqL K J' a.a2 vh := fun J' s => SqL.of (s _ _ (s2 _ _ h2))
        -- a row's head
        have head : ∀ i < rows.length, ∃ (r : List Int × List PyData) (ta : Addr) (txs : List V) (xx : Str) (tt : List PyData), rows[i]? = some r ∧ rows.getD i ([], []) = r ∧ r ∈ rows ∧ vh[i]? = some (.ref ta) ∧ SqT K H' ta txs ∧ DQs K H' txs r.2 ∧ DQ K H' (.ref ta) (.tuple r.2) ∧ r.2 = .str xx :: tt ∧ txs[0]? = some (.str xx) ∧ letH r.2 = decide (xx = ("let" : Str)) := by
          intro i hi
          have er : rows[i]? = some rows[i] := List.getElem?_eq_getElem hi
          have hmem : rows[i] ∈ rows := List.getElem_mem hi
          generalize rows[i] = r at er hmem
          obtain ⟨y, ey, dy⟩ := d2'.get (i := i) (d := .tuple r.2) (by rw [List.getElem?_map, er]; rfl)
          obtain ⟨xx, tt, eh, hl⟩ := ok.near.hd r hmem
          have dy0 := dy
          cases dy with
          | @tup ta txs _ g5 g6 =>
            have g6' := g6
            rw [eh] at g6'
            obtain ⟨u1, hu1, du1⟩ := g6'.get (i := 0) rfl
            cases du1
            exact ⟨r, ta, txs, xx, tt, er, by rw [List.getD_eq_getElem?_getD, er]; rfl, hmem, ey, g5, g6, dy0, eh, hu1, hl⟩
        refine ⟨_, rfl, a.p, C, dx1, _, _, rfl, fld H2 (Same.refl _), W.cl, W.n2, look2 _ _ _, a.a2, vh, rfl, at2 H2 (Same.refl _), fun Dl nDl => ?_⟩
        refine lc_it (walk_enum (K := K) (a := a.a2) (xs := vh)) (fun i J => i ≤ rows.length ∧ Same H2 J ∧ J Dl = some (.lst ((letIxN rows i).map fun (j : Nat) => V.int (j : Int)))) ⟨Nat.zero_le _, K0.same_upd nDl, upd_same⟩ (fun i J _ ⟨_, s, _⟩ => at2 J s) ?_ ?_
        · rintro i x J J1 hi ⟨hle, sJ, hD⟩ ⟨TT, x0, y0, rfl, nT, rfl, e0, e1⟩
          rw [lh] at hi
          cases e0
          obtain ⟨r, ta, txs, xx, tt, er, eg, hmem, ey, hT, hDt, _, eh, hu1, hl⟩ := head i hi
          have e1' : vh[i]? = some y0 := e1
          rw [ey] at e1'
          cases e1'
          have sT := K0.same_upd (o := .tup [V.int (i : Int), .ref ta]) nT
          have s31 := sJ.trans sT
          have hD1 := sT _ _ hD
          refine ⟨TT, _, rfl, .inl (.inl upd_same), rfl, _, _, rfl, _, _, rfl, rfl, rfl, ?_⟩
          generalize upd J TT (.tup [V.int (i : Int), .ref ta]) = J2 at s31 hD1 ⊢
          refine ⟨_, rfl, ta, txs, _, _, rfl, rfl, K0.seqT_same (s2.trans s31) hT, atI_nat hu1, rfl, _, rfl, ?_⟩
          have hst := letIxN_succ rows i
          rw [eg] at hst
          rw [dec_str, ← hl]
          have lL := letIxN_len rows i
          cases hb : letH r.2 with
          | true =>
            refine iteT ⟨_, rfl, _, hD1, by rw [List.length_map, sizeLine_eq]; omega, hi, K0.same_over s31 nDl, ?_⟩
            rw [hst, hb, if_pos rfl, List.map_append, upd_same]
            rfl
          | false =>
            refine iteF ⟨hi, s31, ?_⟩
            rw [hst, hb, if_neg Bool.false_ne_true, List.append_nil]
            exact hD1
        · rintro J1 ⟨_, sJ1, hDl⟩
          rw [lh] at hDl
          have eL : letIxN rows rows.length = letIx rows := rfl
          rw [eL] at hDl
          have nd := letIx_nd rows
          have lL : (letIx rows).length ≤ rows.length := letIxN_len rows rows.length
          have lin : ∀ j, j < rows.length → letH (rows.getD j ([], [])).2 = true → j ∈ letIx rows := fun j => let_in
          have idx : ∀ {i j : Nat}, useAt rows es i = some (some j) → j ∈ letIx rows := fun h => lin _ (use_some h).1 (use_some h).2
          have prog : ∀ {i j : Nat}, useAt rows es i = some (some j) → ∀ nm, progH rows es i [.str "use", .str nm] = [.str "use", .int (((letIx rows).idxOf j : Nat) : Int)] := fun h nm => progH_use h nm
          generalize letIx rows = L at hDl nd lL idx prog
          refine ⟨_, rfl, Dl, _, rfl, SqL.of hDl, fun Dn nDn => ?_⟩
          refine dc_it (walk_enum (K := K) (a := Dl) (xs := L.map fun (j : Nat) => V.int (j : Int))) (fun i J => i ≤ L.length ∧ Same J1 J ∧ J Dn = some (.dK (numK L i))) ⟨Nat.zero_le _, K0.same_upd nDn, upd_same⟩ (fun i J _ ⟨_, s, _⟩ => SqL.of (s _ _ hDl)) ?_ ?_
          · rintro i x J J2 hi ⟨hle, sJ, hD⟩ ⟨TT, x0, y0, rfl, nT, rfl, e0, e1⟩
            rw [List.length_map] at hi
            cases e0
            have e1' : (L.map fun (j : Nat) => V.int (j : Int))[i]? = some y0 := e1
            rw [List.getElem?_map, List.getElem?_eq_getElem hi] at e1'
            cases e1'
            have sT := K0.same_upd (o := .tup [V.int (i : Int), V.int ((L[i] : Nat) : Int)]) nT
            have s31 := sJ.trans sT
            have hD1 := sT _ _ hD
            refine ⟨TT, _, rfl, .inl (.inl upd_same), rfl, _, _, rfl, _, _, rfl, rfl, rfl, ?_⟩
            unfold tYes
            dsimp only
            rw [if_pos rfl]
            refine ⟨_, rfl, _, rfl, numK L i, .inl ((L[i] : Nat) : Int), rfl, hD1, by unfold numK; rw [List.length_map, List.length_range, sizeLine_eq]; omega, hi, K0.same_over s31 nDn, ?_⟩
            rw [upd_same, numK_put nd hi]
          · rintro J2 ⟨_, sJ2, hDn⟩
            rw [List.length_map] at hDn
            have s22 := sJ1.trans sJ2
            have hDl2 := sJ2 _ _ hDl
            have hq2 := s22 _ _ hq
            refine ⟨Nat.zero_le _, fun q5 nq5 => ?_⟩
            have s5 := K0.same_upd (o := .lst []) nq5
            refine ⟨_, rfl, a.p, C, dx1, _, _, rfl, fld _ (s22.trans s5), W.cl, W.n2, look2 _ _ _, a.a2, vh, rfl, at2 _ (s22.trans s5), ?_⟩
            refine for_it (walk_enum (K := K) (a := a.a2) (xs := vh)) (fun i σ J => i ≤ rows.length ∧ Same J2 J ∧ ∃ (vs : List V) (z6 z7 z8 : Option V), σ = [some (.str z), some (.ref a.p), some (.ref q), some (.ref Dl), some (.ref Dn), some (.ref q5), z6, z7, z8] ∧ J q5 = some (.lst vs) ∧ DQs K (hid q5 J) vs ((headsP rows es i).map .tuple)) ⟨Nat.zero_le _, s5, [], _, _, _, rfl, upd_same, .nil⟩ (fun i σ J _ ⟨_, s, _⟩ => at2 J (s22.trans s)) ?_ ?_
            · rintro i x σ J J3 hi ⟨hle, sJ, vs, z6, z7, z8, rfl, hq5, dv⟩ ⟨TT, x0, y0, rfl, nT, rfl, e0, e1⟩
              rw [lh] at hi
              cases e0
              obtain ⟨r, ta, txs, xx, tt, er, eg, hmem, ey, hT, hDt, hDq, eh, hu1, hl⟩ := head i hi
              have e1' : vh[i]? = some y0 := e1
              rw [ey] at e1'
              cases e1'
              have sT := K0.same_upd (o := .tup [V.int (i : Int), .ref ta]) nT
              have s3 := sJ.trans sT
              have hq53 := sT _ _ hq5
              have dv3 := dv.to (hid_mono (p := q5) sT)
              refine ⟨TT, _, rfl, .inl (.inl upd_same), rfl, _, _, rfl, _, _, rfl, rfl, ?_⟩
              generalize upd J TT (.tup [V.int (i : Int), .ref ta]) = J3 at s3 hq53 dv3 ⊢
              have sH3 := (s2.trans s22).trans s3
              have lvs : vs.length < sizeLine := by rw [dv.len, List.length_map, headsP_len, sizeLine_eq]; omega
              have hst := headsP_succ rows es i
              rw [eg] at hst
              have fin : ∀ (J4 : Hp) (y : V) (hd : List PyData), Same J2 J4 → J4 q5 = some (.lst vs) → DQs K (hid q5 J4) vs ((headsP rows es i).map .tuple) → progH rows es i r.2 = hd → Flats hd → DQ K J4 y (.tuple hd) → i + 1 ≤ rows.length ∧ Same J2 (upd J4 q5 (.lst (vs ++ [y]))) ∧ ∃ (vs' : List V) (y6 y7 y8 : Option V), [some (V.str z), some (.ref a.p), some (.ref q), some (.ref Dl), some (.ref Dn), some (.ref q5), some (.int (i : Int)), some (.ref ta), z8] = [some (.str z), some (.ref a.p), some (.ref q), some (.ref Dl), some (.ref Dn), some (.ref q5), y6, y7, y8] ∧ (upd J4 q5 (.lst (vs ++ [y]))) q5 = some (.lst vs') ∧ DQs K (hid q5 (upd J4 q5 (.lst (vs ++ [y])))) vs' ((headsP rows es (i + 1)).map .tuple) := by
                intro J4 y hd s4 hq4 dv4 eprog fl hy
                refine ⟨hi, fun b u e => ?_, vs ++ [y], _, _, _, rfl, upd_same, ?_⟩
                · rw [upd_ne (ne_of_none e nq5)]
                  exact s4 _ _ e
                · rw [hid_put, hst, eprog, List.map_append]
                  exact dv4.app (.cons (Flat.hide hq4 _ _ (.tup fl) hy) .nil)
              obtain ⟨xx', tt', eh2, ltt, fl, hlet⟩ := sh r hmem
              rw [eh] at eh2
              obtain ⟨rfl, rfl⟩ : xx = xx' ∧ tt = tt' := by
                have := List.cons.inj eh2
                exact ⟨by have h3 := this.1; cases h3; rfl, this.2⟩
              refine ⟨_, rfl, ta, txs, _, _, rfl, rfl, K0.seqT_same sH3 hT, atI_nat hu1, rfl, _, rfl, ?_⟩
              rw [dec_str]
              by_cases cu : xx = "use"
              · rw [decide_eq_true cu]
                rcases ok.hd r hmem with ⟨nm, eu, lnm⟩ | ⟨x2, t2, eu, hne⟩
                · have hua : ∃ j, useAt rows es i = some (some j) := by
                    have h0 : useAt rows es i = some (findN rows (es.getD i []) nm) := by
                      unfold useAt
                      rw [er]
                      obtain ⟨p0, h0⟩ := r
                      cases eu
                      rfl
                    cases e : findN rows (es.getD i []) nm with
                    | none =>
                      rw [e] at h0
                      exact absurd h0 (seen i hi)
                    | some j =>
                      rw [e] at h0
                      exact ⟨j, h0⟩
                  obtain ⟨j, hua⟩ := hua
                  have dg1 : DGet J3 q (.int (i : Int)) (some (.int (j : Int))) := by
                    have := DGet.k (k := (.inl (i : Int) : Key)) (s3 _ _ (sJ2 _ _ (sJ1 _ _ hq)))
                    rw [valV_meant hua hi] at this
                    exact this
                  have dg2 : DGet J3 Dn (.int (j : Int)) (some (.int ((L.idxOf j : Nat) : Int))) := by
                    have := DGet.k (k := (.inl (j : Int) : Key)) (s3 _ _ hDn)
                    rw [valV_numAt nd (idx hua)] at this
                    exact this
                  refine iteT ⟨_, rfl, .inl ⟨rfl, _, SqL.of hq53⟩, _, rfl, _, rfl, _, rfl, q, _, rfl, dg1, Dn, _, rfl, dg2, sizeL (m := 2) (Nat.le_refl 2), fun t nt => ⟨q5, vs, _, rfl, rfl, (K0.same_upd nt) _ _ hq53, lvs, ?_⟩⟩
                  have st := K0.same_upd (o := .tup [V.str "use", .int ((L.idxOf j : Nat) : Int)]) nt
                  exact fin _ _ _ (s3.trans st) (st _ _ hq53) (dv3.to (hid_mono st)) (by rw [eu]; exact prog hua nm) (.cons (.str _) (.cons (.int _) .nil)) (.tup (.inl (.inl upd_same)) (.cons (.str _ (by decide +kernel)) (.cons (.int _) .nil)))
                · rw [eu] at eh
                  have := (List.cons.inj eh).1
                  cases this
                  exact absurd cu hne
              · rw [decide_eq_false cu]
                refine iteF ⟨_, rfl, .inl ⟨rfl, _, SqL.of hq53⟩, _, rfl, ta, txs, _, _, rfl, rfl, K0.seqT_same sH3 hT, atI_nat hu1, rfl, _, rfl, ?_⟩
                rw [dec_str]
                by_cases cl : xx = "let"
                · rw [decide_eq_true cl]
                  refine iteT ⟨sizeL (m := 1) (Nat.le_refl 1), fun t nt => ⟨q5, vs, _, rfl, rfl, (K0.same_upd nt) _ _ hq53, lvs, ?_⟩⟩
                  have st := K0.same_upd (o := .tup [V.str "let"]) nt
                  obtain ⟨nm, rfl⟩ := hlet cl
                  subst cl
                  exact fin _ _ _ (s3.trans st) (st _ _ hq53) (dv3.to (hid_mono st)) (by rw [eh]; exact progH_let nm) (.cons (.str _) .nil) (.tup (.inl (.inl upd_same)) (.cons (.str _ (by decide +kernel)) .nil))
                · rw [decide_eq_false cl]
                  exact iteF ⟨_, rfl, q5, vs, _, rfl, rfl, hq53, lvs, fin _ _ r.2 s3 hq53 dv3 (by rw [eh]; exact progH_else cu cl) fl (hDq.to sH3)⟩
            · rintro σ J ⟨_, sJ, vs, z6, z7, z8, rfl, hq5, dv⟩
              rw [lh] at dv
              have s3 := s22.trans sJ
              have d1r : DQs K H' vp ((rows.map (·.1)).map pathD) := by rw [List.map_map]; exact d1'
              refine ⟨_, rfl, a.p, C, dx1, _, _, rfl, fld J s3, W.cl, W.n1, look1 _ _ _, _, rfl, a.a1, q5, vp, vs, rows.map (fun (r : List Int × List PyData) => r.1), headsP rows es rows.length, rfl, at1 J s3, SqL.of hq5, d1r.to (s2.trans s3), dv.to (hid_same q5 J), by rw [List.length_map, headsP_len], by rw [headsP_len]; exact few, fun p hp => ?_, fun h hh => ?_, fun H9 u s9 du => kQ seen H9 u ((sH'.trans (s2.trans s3)).trans s9) du⟩
              · obtain ⟨r, hr, rfl⟩ := List.mem_map.mp hp
                exact ok.near.pth r hr
              · obtain ⟨i, hi, rfl⟩ := List.mem_map.mp hh
                have hi' := List.mem_range.mp hi
                obtain ⟨r, ta, txs, xx, tt, er, eg, hmem, ey, hT, hDt, hDq, eh, hu1, hl⟩ := head i hi'
                obtain ⟨xx', tt', eh2, ltt, fl, hlet⟩ := sh r hmem
                rw [eg, eh2]
                by_cases cu : xx' = "use"
                · rcases ok.hd r hmem with ⟨nm, eu, lnm⟩ | ⟨x2, t2, eu, hne⟩
                  · rw [eu] at eh2
                    rw [← eh2]
                    have e : progH rows es i [.str "use", .str nm] = [.str "use", .int (match useAt rows es i with
                        | some (some j) => (((letIx rows).idxOf j : Nat) : Int)
                        | _ => 0)] := by
                      unfold progH
                      exact if_pos (by decide +kernel)
                    rw [e]
                    exact ⟨_, _, rfl, rfl, by simp⟩
                  · rw [eu] at eh2
                    have := (List.cons.inj eh2).1
                    cases this
                    exact absurd cu hne
                · by_cases cl : xx' = "let"
                  · obtain ⟨nm, rfl⟩ := hlet cl
                    rw [cl, progH_let]
                    exact ⟨_, _, rfl, rfl, by simp⟩
                  · rw [progH_else cu cl]
                    exact ⟨_, _, rfl, rfl, ltt⟩
end
end K1
set_option maxHeartbeats 4000000
/-! _law_told -/
namespace K1
open PySem L2
/-- a local slot holds one of several defs that may raise -/
def tCallLX (i : Nat) (S : Addr → Sp → Prop) (E : L2.St → XK) (t : TA) : TE := fun σ H Q => ∃ f sp, σ[i]? = some (some (.ref f)) ∧ S f sp ∧ t σ H fun vs H1 => sp vs H1 Q (E σ)
structure HeldX (P : Program) (w : World) (K : PySem.W.Frag) (mg : Str → Option Value) (base : Heap) (k : Nat) (f : Addr) (sp : Sp) : Prop where
  ex : ∃ (fd : FuncData) (ps : List Str), FnOk P w K mg base (L2.CX P w) k f fd ps sp ∧ PySem.W.keepIn K (.ref f) = true ∧ Binds K fd ps []
section
open PySem.Spec PyProof.Rows
theorem pe_callLX {X : Cx} {k i : Nat} {W : WX} {x : PySem.Str} {e : Expr} {es : List Expr} {t : TA} {p pos : Pos} {S : Addr → Sp → Prop} (A : ∀ f sp, S f sp → HeldX X.prog X.w X.K X.mg X.base k f sp) (hr : Room k X.A) (tk : Takes X W) (hN : X.N[i]? = some x) (hv : Vis X.env.scope x) (ha : PA X (e :: es) t)
    (hdb : (x == ("__debug__" : PySem.Str)) = false := by decide) (hcd : (x == ("__classdict__" : PySem.Str)) = false := by decide)
    (he : starEach (e :: es) X.env = (false, eval e X.env) :: starEach es X.env := by rfl) (hpl : (backTo pos (starEach es X.env)).any (·.1) = false := by rfl) : PE X (.Call (.Name x p) (e :: es) [] pos) (tCallLX i S (WE W) t) := by
  refine ⟨fun pins s σ H Q I h => ?_⟩
  obtain ⟨f, sp, hs, hS, ht⟩ := h
  obtain ⟨fd, ps, F, hk, hb⟩ := (A f sp hS).ex
  refine wpAny_Call_Name_kw (thn ((pe_var (pos := p) hN hv hdb hcd).run pins s σ H (fun v H1 => v = .ref f ∧ H1 = H) I ⟨.ref f, hs, rfl, rfl⟩) fun u s1 ⟨v, H1, I1, r1, q1⟩ => ?_)
  obtain ⟨rfl, rfl⟩ := q1
  cases r1
  refine PySem.W.callWith_K (h₀ := X.base) I.ok.mod.kin hk (thn (ha.run pos pins s1 σ _ _ I1 ht) fun us s2 ⟨vs, H2, I2, r, q⟩ => ⟨I2.kIn, ?_⟩) he hpl
  exact run_fnS F hr hb (passAt tk σ) I2 r q
end
/-- which function, and what it gives -/
def FnD (mg : Str → Option Value) (f : Addr) (D : RdD) : Prop := (mg "read_shape" = some (.ref f) ∧ D = shape_D) ∨ (mg "meant_lets" = some (.ref f) ∧ D = lets_D)
def FnS (K : PySem.W.Frag) (mg : Str → Option Value) (B BN : Addr) (f : Addr) (sp : Sp) : Prop := ∃ D, FnD mg f D ∧ sp = spRd K B BN D
def tsTold2 (C : Addr) (word : Str) : SuiteT := fun a cls d => lenT 3 (tRet (tLst (tCons (tC (.str word)) (tCons (tXf a cls d C "told" (tVar 2)) tNil))))
def tellPost (K : PySem.W.Frag) (H : Hp) (Q : VK) (x : PyData) : Prop := ∀ H' u, Same H H' → DQ K H' u x → Q u H'
def toldPost (K : PySem.W.Frag) (H : Hp) (Q : VK) (D : RdD) : Nat ⊕ Sc → Prop
  | .inl e => tellPost K H Q (.list [.str "text", .int e])
  | .inr S' => ∃ rows es, MeanOk S' rows es ∧ ShOk rows ∧ (∀ i, Unseen rows es i → tellPost K H Q (.list [.str "unseen", .int (S'.firsts.getD i 0)])) ∧ ((∀ i < rows.length, useAt rows es i ≠ some none) → tellPost K H Q (D rows es))
def spTold (K : PySem.W.Frag) (mg : Str → Option Value) : Sp := fun vs H Q _ => ∃ f v D, vs = [.ref f, v] ∧ FnD mg f D ∧ srcPost K H v (tellPost K H Q (.list [.str "text", .int 0])) (fun _ r => toldPost K H Q D r)
abbrev NTo : List Str := ["_law_function", "_law_text_here", "e"]
section
variable {P : Program} {w : World} {K : PySem.W.Frag} {mg : Str → Option Value} {base : Heap}
theorem sc_told : FnScope NTo ["_law_function", "_law_text_here"] (defScope (top 39)) := ⟨rfl, rfl, rfl, by decide +kernel, rfl, by decide +kernel, by decide +kernel⟩
theorem cl_told {C B BN fI fN : Addr} (T : All K mg) (W : ScC K mg C) (R : Er K mg "BadText" B fI) (RV : Er K mg "NotVisible" BN fN) (eBN : PySem.W.exmOne K (.ref B) (.ref BN) = some false) (henum : mg "enumerate" = none) (hzip : mg "zip" = none) : ClG P w K mg base 12 "_law_told" ["_law_function", "_law_text_here"] (spTold K mg) := by
  obtain ⟨g, fd, D⟩ := T.dn 39 _ _ rfl
  have held : ∀ f sp, FnS K mg B BN f sp → HeldX P w K mg base 11 f sp := by
    rintro f sp ⟨D, hf, rfl⟩
    rcases hf with ⟨hm, rfl⟩ | ⟨hm, rfl⟩
    · obtain ⟨g2, fd2, F2, hm2, hk2, hb2⟩ := cl_rshape (P := P) (w := w) (base := base) T W R RV henum hzip
      rw [hm] at hm2
      cases hm2
      exact ⟨_, _, F2.mono (by decide), hk2, hb2⟩
    · obtain ⟨g2, fd2, F2, hm2, hk2, hb2⟩ := cl_mlets (P := P) (w := w) (base := base) T W R RV henum
      rw [hm] at hm2
      cases hm2
      exact ⟨_, _, F2.mono (by decide), hk2, hb2⟩
  refine ⟨g, fd, okG D.fn sc_told (fun vs H Q E h => ?_) (fun cdv A outer s H vs Q E hgd hr h => ?_), D.mg, D.fn.kp, D.bn⟩
  · obtain ⟨f, v, d, rfl, _⟩ := h
    rfl
  · obtain ⟨f, v, d, rfl, hf, hv⟩ := h
    refine ⟨_, pss_one (ps_try_each (X := (cxOf CX0 P w K mg base NTo "_law_told" (defScope (top 39)) g cdv A outer s H E).nox) (n := "e") (i := 2) rfl rfl sc_told.nd rfl rfl takes_none5 (fun W' pn xe tk _ => pss_one (ps_ret (pe_callLX (i := 0) (S := FnS K mg B BN) held hr tk rfl (.inl rfl) (pa_cons (pv 1) pa_nil))))
      (.cons (c := .ref BN) (ts := tsTold2 BN "unseen") ⟨(by rfl), (by decide), .inl RV.mg⟩ (fun a oe cls d pn hz hf => pss_len (pss_one (ps_ret (pe_lst (pa_cons pe_str (pa_cons (pe_xf RV.xf RV.noN hz hf (pv 2)) pa_nil))))) rfl)
      (.cons (c := .ref B) (ts := tsTold2 B "text") ⟨(by rfl), (by decide), .inl R.mg⟩ (fun a oe cls d pn hz hf => pss_len (pss_one (ps_ret (pe_lst (pa_cons pe_str (pa_cons (pe_xf R.xf R.noN hz hf (pv 2)) pa_nil))))) rfl)
      .nil))), ?_⟩
    have suite : ∀ (C0 : Addr) (word : Str) (a dd : Addr) (v0 : V) (x : PyData) (σ' : St) (H' : Hp) (D' : Ends), D'.rt = Q → word.length ≤ 1000 → Same H H' → H' dd = some (.xd [("told", v0)]) → DQ K H v0 x → tellPost K H Q (.list [.str word, x]) →
        tsTold2 C0 word a (.ref C0) (some dd) (gone 2 D') (σ'.set 2 (some (.ref a))) H' := by
      intro C0 word a dd v0 x σ' H' D' hD hw s1 hx dv ht hlen
      rw [List.length_set] at hlen
      have get : (σ'.set 2 (some (V.ref a)))[2]? = some (some (V.ref a)) := by
        rw [List.getElem?_set_self (by omega)]
      refine ⟨_, get, rfl, rfl, dd, _, v0, rfl, hx, by simp [List.lookup], (by show 2 ≤ sizeLine; rw [sizeLine_eq]; decide), fun p new => ?_⟩
      show D'.rt _ _
      rw [hD]
      have s2 := K0.same_upd (o := .lst [.str word, v0]) new
      exact ht _ _ (s1.trans s2) (.lst (SqL.of upd_same) (.cons (.str _ hw) (.cons (dv.to (s1.trans s2)) .nil)))
    refine ⟨f, _, rfl, ⟨d, hf, rfl⟩, _, rfl, v, rfl, ?_⟩
    rcases hv with ⟨hn, k⟩ | ⟨z, r, rfl, hz, hR, k⟩
    · refine .inl ⟨hn, fun H' dd s1 hx => ?_⟩
      exact ⟨false, eBN, fun z => Bool.noConfusion z, fun _ => ⟨true, R.te, fun _ a na => suite B "text" a dd _ _ _ H' _ rfl (by decide) s1 hx (.int 0) k, fun z => Bool.noConfusion z⟩⟩
    · refine .inr ⟨z, r, rfl, hz, hR, ?_⟩
      cases r with
      | inl e =>
        intro H' dd s1 hx
        exact ⟨false, eBN, fun z => Bool.noConfusion z, fun _ => ⟨true, R.te, fun _ a na => suite B "text" a dd _ _ _ H' _ rfl (by decide) s1 hx (.int _) k, fun z => Bool.noConfusion z⟩⟩
      | inr S' =>
        obtain ⟨rows, es, ok, sh, kE, kQ⟩ := k
        refine ⟨rows, es, ok, sh, fun i un H' dd s1 hx => ?_, fun seen H' u s1 du => kQ seen H' u s1 du⟩
        exact ⟨true, RV.te, fun _ a na => suite BN "unseen" a dd _ _ _ H' _ rfl (by decide) s1 hx (.int _) (kE i un), fun z => Bool.noConfusion z⟩
end
end K1
set_option maxHeartbeats 4000000
/-! what law needs of data -/
namespace K1
open PySem L2
/-! data that is compared -/
structure Lay (k : Nat) (d : PyData) : Prop where
  lay : d.canLay0 = true
  dp : d.depth ≤ k
  nd : d.hasDict = false
theorem Lay.mono {k m : Nat} {d : PyData} (h : Lay k d) (hm : k ≤ m) : Lay m d := ⟨h.lay, Nat.le_trans h.dp hm, h.nd⟩
theorem Lay.sh {k : Nat} {d : PyData} (h : Lay k d) (hk : k ≤ 64) : SeqAt.shaped d = true := by
  unfold SeqAt.shaped
  rw [h.lay, decide_eq_true (Nat.le_trans h.dp hk)]
  rfl
theorem lay_all {k : Nat} : ∀ {ds : List PyData}, (∀ d ∈ ds, Lay k d) → PyData.canLayAll0 ds = true ∧ PyData.depthAll ds ≤ k ∧ PyData.hasDictAll ds = false
  | [], _ => ⟨by simp [PyData.canLayAll0], by simp [PyData.depthAll], by simp [PyData.hasDictAll]⟩
  | d :: ds, h => by
    have h0 := h d List.mem_cons_self
    obtain ⟨a, b, c⟩ := lay_all fun e he => h e (List.mem_cons_of_mem _ he)
    have h1 := h0.lay
    have h2 := h0.dp
    have h3 := h0.nd
    refine ⟨by simp [PyData.canLayAll0, h1, a], ?_, by simp [PyData.hasDictAll, h3, c]⟩
    simp only [PyData.depthAll]
    omega
theorem lay_tup {k : Nat} {ds : List PyData} (h : ∀ d ∈ ds, Lay k d) : Lay (k + 1) (.tuple ds) := by
  obtain ⟨a, b, c⟩ := lay_all h
  refine ⟨by simpa [PyData.canLay0] using a, ?_, by simpa [PyData.hasDict] using c⟩
  simp only [PyData.depth]
  omega
theorem lay_lst {k : Nat} {ds : List PyData} (h : ∀ d ∈ ds, Lay k d) : Lay (k + 1) (.list ds) := by
  obtain ⟨a, b, c⟩ := lay_all h
  refine ⟨by simpa [PyData.canLay0] using a, ?_, by simpa [PyData.hasDict] using c⟩
  simp only [PyData.depth]
  omega
theorem lay_int (i : Int) : Lay 0 (.int i) := ⟨by simp [PyData.canLay0], by simp [PyData.depth], by simp [PyData.hasDict]⟩
theorem lay_str {x : Str} (h : PyData.strOk x = true) : Lay 0 (.str x) := ⟨by simp only [PyData.canLay0]; exact h, by simp [PyData.depth], by simp [PyData.hasDict]⟩
theorem lay_path (p : List Int) : Lay 1 (pathD p) := lay_tup fun d hd => by
  obtain ⟨i, _, rfl⟩ := List.mem_map.mp hd
  exact lay_int i
theorem LfK.layS {h : List PyData} {w : List Nat} (k : LfK h w) (rs : List (List Int × It)) (p : List Int) : ∀ d ∈ shpH rs p h, Lay 0 d := by
  cases k with
  | num m _ =>
    intro d hd
    have hd' : d ∈ [PyData.str "number", .int (m : Int)] := hd
    simp only [List.mem_cons, List.not_mem_nil, or_false] at hd'
    rcases hd' with rfl | rfl
    · exact lay_str (by decide +kernel)
    · exact lay_int _
  | lost =>
    intro d hd
    have hd' : d ∈ [PyData.str "lost"] := hd
    rw [List.mem_singleton.mp hd']
    exact lay_str (by decide +kernel)
  | use w _ =>
    rw [shp_use]
    intro d hd
    simp only [List.mem_cons, List.not_mem_nil, or_false] at hd
    rcases hd with rfl | rfl
    · exact lay_str (by decide +kernel)
    · exact lay_int _
theorem NdK.layS {h : List PyData} {o : List Nat} {b : Bool} (k : NdK h o b) (rs : List (List Int × It)) (p : List Int) : ∀ d ∈ shpH rs p h, Lay 0 d := by
  obtain ⟨kn, t, e, es⟩ := k.shp rs p
  have ok : PyData.strOk kn = true := by
    cases k with
    | block => cases (List.cons.inj e).1; decide +kernel
    | sum => cases (List.cons.inj e).1; decide +kernel
    | product => cases (List.cons.inj e).1; decide +kernel
    | let_ w _ => cases (List.cons.inj e).1; decide +kernel
  rw [es]
  intro d hd
  rw [List.mem_singleton.mp hd]
  exact lay_str ok
theorem Dr.layS {n : Nat} {x : It} (d : Dr n x) (rs : List (List Int × It)) : ∀ p, Lay (2 * n + 1) (x.ren (shpH rs) p).dat := by
  induction d with
  | @leaf n h w k =>
    intro p
    rw [It.ren, It.dat]
    exact (lay_tup (k.layS rs p)).mono (by omega)
  | @node n h o b l k hl _ ih =>
    intro p
    rw [It.ren, It.dat, datL_map]
    refine (lay_tup (k := 2 * n + 2) fun e he => ?_).mono (by omega)
    rcases List.mem_append.mp he with he | he
    · exact (k.layS rs p e he).mono (by omega)
    · rw [List.mem_singleton.mp he]
      refine lay_tup fun e he => ?_
      obtain ⟨y, hy, rfl⟩ := List.mem_map.mp he
      obtain ⟨z, hz, q, rfl⟩ := renL_mem hy
      exact ih z hz q
theorem shape_lay {n : Nat} {l : List It} (d : ∀ x ∈ l, Dr n x) : Lay (2 * n + 2) (.tuple (shape l)) := by
  unfold shape
  rw [datL_map]
  refine lay_tup fun e he => ?_
  obtain ⟨y, hy, rfl⟩ := List.mem_map.mp he
  obtain ⟨z, hz, q, rfl⟩ := renL_mem hy
  exact (d z hz).layS _ q
theorem lets_lay (rows : List (List Int × List PyData)) (es : List (List Nat)) : Lay 3 (lets_D rows es) := by
  refine lay_lst fun d hd => ?_
  obtain ⟨ij, _, rfl⟩ := List.mem_map.mp hd
  refine lay_tup fun e he => ?_
  simp only [List.mem_cons, List.not_mem_nil, or_false] at he
  rcases he with rfl | rfl
  · exact lay_path _
  · exact lay_path _
theorem told_lay {x : Str} (h : PyData.strOk x = true) (i : Int) : Lay 1 (.list [.str x, .int i]) := by
  refine lay_lst fun e he => ?_
  simp only [List.mem_cons, List.not_mem_nil, or_false] at he
  rcases he with rfl | rfl
  · exact lay_str h
  · exact lay_int _
/-! the rows of a drawn text -/
theorem Dr.mono {n : Nat} {x : It} (d : Dr n x) : ∀ {m : Nat}, n ≤ m → Dr m x := by
  induction d with
  | leaf k => intro m _; exact .leaf k
  | @node n h o b l k hl hc ih =>
    intro m hm
    cases m with
    | zero => omega
    | succ m => exact .node k hl fun y hy => ih y hy (by omega)
theorem Dr.ris {n : Nat} {x : It} (d : Dr n x) : ∀ p, ∀ r ∈ x.ris p, ∃ m, Dr m r.2 := by
  induction d with
  | @leaf n h w k =>
    intro p r hr
    rw [It.ris] at hr
    rw [List.mem_singleton.mp hr]
    exact ⟨n, .leaf k⟩
  | @node n h o b l k hl hc ih =>
    intro p r hr
    rw [It.ris] at hr
    rcases List.mem_cons.mp hr with rfl | hr
    · exact ⟨n + 1, .node k hl hc⟩
    · have : ∀ {l' : List It} (k' : Nat), (∀ x ∈ l', ∀ p, ∀ r ∈ x.ris p, ∃ m, Dr m r.2) → ∀ r ∈ risL p k' l', ∃ m, Dr m r.2 := by
        intro l'
        induction l' with
        | nil => intro k' _ r hr; rw [risL] at hr; cases hr
        | cons y t ih2 =>
          intro k' hy r hr
          rw [risL] at hr
          rcases List.mem_append.mp hr with hr | hr
          · exact hy y List.mem_cons_self _ r hr
          · exact ih2 (k' + 1) (fun z hz => hy z (List.mem_cons_of_mem _ hz)) r hr
      exact this 0 ih r hr
theorem risL_dr {n : Nat} : ∀ {l : List It} {p : List Int} {k : Nat}, (∀ x ∈ l, Dr n x) → ∀ r ∈ risL p k l, ∃ m, Dr m r.2
  | [], p, k, _, r, hr => by rw [risL] at hr; cases hr
  | x :: l, p, k, h, r, hr => by
    rw [risL] at hr
    rcases List.mem_append.mp hr with hr | hr
    · exact (h x List.mem_cons_self).ris _ r hr
    · exact risL_dr (fun y hy => h y (List.mem_cons_of_mem _ hy)) r hr
theorem ris_len52 {l : List It} (hl : l.length ≤ 4) (d : ∀ x ∈ l, Dr 2 x) : (risL [] 0 l).length ≤ 52 := by
  have h1 := ris_few (Nat.le_refl 2) d [] 0
  have h2 : l.length * 13 ≤ 4 * 13 := Nat.mul_le_mul_right _ hl
  omega
theorem rows_ok {l : List It} (hl : l.length ≤ 4) (d : ∀ x ∈ l, Dr 2 x) : RowsOk (risL [] 0 l) := by
  refine ⟨by have := ris_len52 hl d; omega, fun r hr => ?_⟩
  have h := list_rowsD d [] 0 (r.1, headI r.2) (by
    rw [phL_ris]
    exact List.mem_map_of_mem hr)
  have h2 := h.2.2
  refine ⟨h.2.1, ?_, risL_dr d r hr⟩
  have h3 : r.1.length ≤ ([] : List Int).length + 1 + 2 := h2
  rw [List.length_nil] at h3
  omega
theorem rows_flat {n : Nat} {l : List It} {p : List Int} {k : Nat} (d : ∀ x ∈ l, Dr n x) : Flats ((risL p k l).map rowX) := Flats.of fun e he => by
  obtain ⟨r, hr, rfl⟩ := List.mem_map.mp he
  obtain ⟨m, hm⟩ := risL_dr d r hr
  exact .tup (.cons (Flat.pathX _) (.cons hm.flat .nil))
theorem Dr.sh {n : Nat} {x : It} (d : Dr n x) : ∃ (kn : Str) (t : List PyData), headI x = .str kn :: t ∧ t.length ≤ 10 ∧ Flats (headI x) ∧ (kn = "let" → ∃ nm, t = [.str nm]) := by
  cases d with
  | @leaf _ h w k =>
    have f := k.flat
    cases k with
    | num m _ => exact ⟨_, _, rfl, by simp, f, fun e => absurd e (by decide +kernel)⟩
    | lost => exact ⟨_, _, rfl, by simp, f, fun e => absurd e (by decide +kernel)⟩
    | use w _ => exact ⟨_, _, rfl, by simp, f, fun e => absurd e (by decide +kernel)⟩
  | @node _ h o b l k _ _ =>
    have f := k.flat
    cases k with
    | block => exact ⟨_, _, rfl, by simp, f, fun e => absurd e (by decide +kernel)⟩
    | sum => exact ⟨_, _, rfl, by simp, f, fun e => absurd e (by decide +kernel)⟩
    | product => exact ⟨_, _, rfl, by simp, f, fun e => absurd e (by decide +kernel)⟩
    | let_ w _ => exact ⟨_, _, rfl, by simp, f, fun _ => ⟨_, rfl⟩⟩
theorem sh_ok {n : Nat} {l : List It} (d : ∀ x ∈ l, Dr n x) : ShOk (phL [] 0 l) := by
  intro r hr
  rw [phL_ris] at hr
  obtain ⟨r', hr', rfl⟩ := List.mem_map.mp hr
  obtain ⟨m, hm⟩ := risL_dr d r' hr'
  exact hm.sh
theorem mean_its {l : List It} (hl : l.length ≤ 4) (d : ∀ x ∈ l, Dr 2 x) : MeanOk (endM l) (phL [] 0 l) (envsL [] 0 l) := by
  refine mean_ok (by decide) d ?_
  rw [phL_ris, List.length_map]
  have := ris_len52 hl d
  omega
theorem unseen_one {rows : List (List Int × List PyData)} {es : List (List Nat)} {i j : Nat} (hi : Unseen rows es i) (hj : Unseen rows es j) : i = j := by
  rcases Nat.lt_trichotomy i j with h | h | h
  · exact absurd hi.1 (hj.2 i h)
  · exact h
  · exact absurd hj.1 (hi.2 j h)
/-! what is due -/
def dueR (rs l : List (List Int × It)) : List PyData := l.filterMap fun r => (useNm (r.1, headI r.2)).map fun nm => PyData.tuple [pathD r.1, optP (lawM rs nm r.1.length r.1)]
theorem due_its {n : Nat} {l : List It} (d : ∀ x ∈ l, Dr n x) (seen : ∀ i, useAt (phL [] 0 l) (envsL [] 0 l) i ≠ some none) : PyData.list (dueR (risL [] 0 l) (risL [] 0 l)) = lets_D (phL [] 0 l) (envsL [] 0 l) := by
  have h := due_law d seen
  have e : dueR (risL [] 0 l) (risL [] 0 l) = (dueL (risL [] 0 l) (phL [] 0 l)).map fun z => PyData.tuple [pathD z.1, optP z.2] := by
    unfold dueR dueL
    rw [phL_ris, List.filterMap_map, List.map_filterMap]
    refine filterMap_eq fun r _ => ?_
    show _ = ((useNm (r.1, headI r.2)).map fun nm => (r.1, lawM (risL [] 0 l) nm r.1.length r.1)).map _
    rw [Option.map_map]
    rfl
  rw [e, h, List.map_map]
  rfl
/-! the texts -/
theorem scan_its {l : List It} (d : ∀ x ∈ l, Dr 2 x) : ScanR (textM l) (.inr (endM l)) := by
  cases l with
  | nil => exact .inl ⟨rfl, rfl⟩
  | cons x r =>
    have g : ∀ y ∈ x :: r, Gd 3 y := fun y hy => ((d y hy).mono (by decide)).gd
    obtain ⟨S1, m, h1, h2⟩ := runs_ok x r g
    refine .inr ⟨?_, .inr ⟨S1, m, h1, h2⟩⟩
    obtain ⟨c, t, e, _⟩ := (g x List.mem_cons_self).st
    unfold textM
    rw [gapped, e]
    simp
theorem text_len {l : List It} (hl : l.length ≤ 4) (d : ∀ x ∈ l, Dr 2 x) : (textM l).length ≤ 1008 := by
  have h1 := gapped_len (B := 251) fun x hx => Nat.le_trans (d x hx).len (wB_le (by decide))
  have h2 : l.length * (251 + 1) ≤ 4 * 252 := Nat.mul_le_mul_right _ hl
  unfold textM
  rw [List.length_drop]
  omega
theorem scan_bad2 : ScanR (("(a" : Str)).cps.toList (.inl 2) := by
  have e : (("(a" : Str)).cps.toList = [40, 97] := by decide +kernel
  rw [e]
  refine .inr ⟨by decide, .inr ⟨sc0.add [.str "block"] 1, 1, rfl, ?_⟩⟩
  have h2 : stepS [40, 97] (sc0.add [.str "block"] 1) = .inr ((sc0.add [.str "block"] 1).add [.str "use", .str (sO [97])] 1) := rfl
  refine .go (by decide) h2 ?_
  have f := Runs.fin (T := [40, 97]) (S := (sc0.add [.str "block"] 1).add [.str "use", .str (sO [97])] 1) (by decide)
  exact f
end K1
set_option maxHeartbeats 8000000
/-! law -/
namespace K1
open PySem L2
theorem pe_clN {X : Cx} {k m : Nat} {x : Str} {ps : List Str} {sp : Sp} {e : Expr} {es : List Expr} {t : TA} {p pos : Pos} (C : ClX X.prog X.w X.K X.mg X.base k x ps sp) (hr : Room m X.A) (hk : k ≤ m) (ha : PA X (e :: es) t) (hg : Gl X x := by rfl) (hdb : (x == ("__debug__" : Str)) = false := by decide)
    (he : starEach (e :: es) X.env = (false, eval e X.env) :: starEach es X.env := by rfl) (hpl : (backTo pos (starEach es X.env)).any (·.1) = false := by rfl) : PE X (.Call (.Name x p) (e :: es) [] pos) (tCallS sp (fun _ => E0) t) := by
  obtain ⟨g, fd, F, hm, hk', hb⟩ := C
  exact pe_callS F (hr.mono hk) hg hm hk' hb (fun σ => passN) ha hdb he hpl
abbrev NLaw : List Str := ["_law_script", "_law_k", "_law_pool_here", "_law_plain", "_law_program_here", "_law_rows_here", "_law_text_here", "_law_unseen", "_law_function", "_law_due", "_law_path", "_law_item_here"]
abbrev ttDue (K : PySem.W.Frag) : TT := tTest (tOp rEq (tOp (rIxT K) (tVar 11) (tC (.int 0))) (tC (.str "use")))
abbrev teDue (K : PySem.W.Frag) : TE := tTup (tCons (tVar 10) (tCons (tCall (spLM K) [] E0 (tCons (tVar 5) (tCons (tVar 10) (tCons (tOp (rIxT K) (tVar 11) (tC (.int 1))) tNil)))) tNil))
theorem optP_flat (o : Option (List Int)) : Flat (optP o) := by
  cases o with
  | none => exact .non
  | some p => exact Flat.pathX p
theorem Dr.rowU {n : Nat} {x : It} (d : Dr n x) : ∃ (kn : Str) (t : List PyData), x.dat = .tuple (.str kn :: t) ∧ ((kn ≠ "use" ∧ ∀ p : List Int, useNm (p, headI x) = none) ∨ (kn = "use" ∧ ∃ nm : Str, t = [.str nm] ∧ ∀ p : List Int, useNm (p, headI x) = some nm)) := by
  cases d with
  | @leaf _ h w k =>
    cases k with
    | num m _ => exact ⟨_, _, rfl, .inl ⟨by decide +kernel, fun p => rfl⟩⟩
    | lost => exact ⟨_, _, rfl, .inl ⟨by decide +kernel, fun p => rfl⟩⟩
    | use w _ => exact ⟨_, _, rfl, .inr ⟨rfl, _, rfl, fun p => by
        show (if (("use" : Str) == "use") = true then some (sO w) else none) = _
        exact if_pos (by decide +kernel)⟩⟩
  | @node _ h o b l k _ _ =>
    cases k with
    | block => exact ⟨_, _, rfl, .inl ⟨by decide +kernel, fun p => rfl⟩⟩
    | sum => exact ⟨_, _, rfl, .inl ⟨by decide +kernel, fun p => rfl⟩⟩
    | product => exact ⟨_, _, rfl, .inl ⟨by decide +kernel, fun p => rfl⟩⟩
    | let_ w _ => exact ⟨_, _, rfl, .inl ⟨by decide +kernel, fun p => by
        show (if (("let" : Str) == "use") = true then some (sO w) else none) = _
        exact if_neg (by decide +kernel)⟩⟩
theorem dueR_step {rs0 rs : List (List Int × It)} {i : Nat} {r : List Int × It} (er : rs[i]? = some r) : dueR rs0 (rs.take (i + 1)) = dueR rs0 (rs.take i) ++ ((useNm (r.1, headI r.2)).map fun nm => PyData.tuple [pathD r.1, optP (lawM rs0 nm r.1.length r.1)]).toList := by
  unfold dueR
  rw [List.take_succ, er, Option.toList_some, List.filterMap_append]
  congr 1
theorem dueR_len (rs0 rs : List (List Int × It)) : (dueR rs0 rs).length ≤ rs.length := List.length_filterMap_le _ _
theorem due_lc {K : PySem.W.Frag} {H1 : Hp} {a : Addr} {xs : List V} {rs : List (List Int × It)} {z0 z1 z2 z3 z4 z6 z7 z8 z9 z10 z11 : Option V} {Rr : VK} (ha : SqL K H1 a xs) (dx : DQs K H1 xs (rs.map rowX)) (ok : RowsOk rs)
    (k : ∀ H2 D, Same H1 H2 → DQ K H2 (.ref D) (.list (dueR rs rs)) → Rr (.ref D) H2) :
    tLc (iList K (tVar 5)) (gTup K 2 (gCons (gName 10) (gCons (gName 11) gNil))) (ttDue K) (teDue K) [10, 11] [z0, z1, z2, z3, z4, some (.ref a), z6, z7, z8, z9, z10, z11] H1 Rr := by
  have lx : xs.length = rs.length := by rw [dx.len, List.length_map]
  have few := ok.1
  refine ⟨_, rfl, a, rfl, ⟨xs, ha⟩, fun D nD => ?_⟩
  refine lc_list (K := K) (a := a) (xs := xs) (fun i H' => i ≤ xs.length ∧ Same H1 H' ∧ ∃ vs, H' D = some (.lst vs) ∧ DQs K (hid D H') vs (dueR rs (rs.take i))) ⟨Nat.zero_le _, K0.same_upd nD, [], upd_same, .nil⟩ (fun i H' _ ⟨_, s, _⟩ => s.seq ha) ?_ (fun H' ⟨_, s, vs, h1, h2⟩ => k H' D s (by
    rw [lx, List.take_length] at h2
    exact .lst (SqL.of h1) (h2.to (hid_same D H'))))
  intro i x H' hi ⟨hle, s, vs, hD, dv⟩
  have hlt := (List.getElem?_eq_some_iff.mp hi).1
  have er : rs[i]? = some (rs[i]'(by omega)) := List.getElem?_eq_getElem (by omega)
  have hm : (rs[i]'(by omega)) ∈ rs := List.getElem_mem _
  generalize (rs[i]'(by omega)) = r at er hm
  obtain ⟨rne, rl, nr, hdr⟩ := ok.2 r hm
  obtain ⟨kn, t, ed, hk⟩ := hdr.rowU
  obtain ⟨x', ex, dx'⟩ := dx.get (i := i) (d := rowX r) (by rw [List.getElem?_map, er]; rfl)
  rw [hi] at ex
  cases ex
  obtain ⟨b, y0, y1, rfl, hT, dy0, dy1⟩ : ∃ b y0 y1, x = .ref b ∧ SqT K H1 b [y0, y1] ∧ DQ K H1 y0 (pathD r.1) ∧ DQ K H1 y1 r.2.dat := by
    cases dx' with
    | tup g1 g2 =>
      cases g2 with
      | cons g3 g4 =>
        cases g4 with
        | cons g5 g6 =>
          cases g6
          exact ⟨_, _, _, rfl, g1, g3, g5⟩
  rw [ed] at dy1
  obtain ⟨c, ys, rfl, hc, hY⟩ : ∃ c ys, y1 = .ref c ∧ SqT K H1 c ys ∧ DQs K H1 ys (.str kn :: t) := by
    cases dy1 with
    | tup g1 g2 => exact ⟨_, _, rfl, g1, g2⟩
  obtain ⟨w0, hw0, dw0⟩ := hY.get (i := 0) (d := .str kn) rfl
  cases dw0
  have lvs : vs.length ≤ 1000 := by
    rw [dv.len]
    refine Nat.le_trans (dueR_len _ _) ?_
    rw [List.length_take]
    omega
  have hst := @dueR_step rs rs i r er
  refine ⟨b, _, rfl, K0.seqT_same s hT, rfl, _, _, rfl, _, _, rfl, rfl, rfl, ?_⟩
  refine ⟨_, rfl, c, ys, _, _, rfl, rfl, K0.seqT_same s hc, atI_nat hw0, rfl, _, rfl, ?_⟩
  rw [dec_str]
  rcases hk with ⟨hne, hno⟩ | ⟨rfl, nm, rfl, hyes⟩
  · rw [decide_eq_false hne]
    refine iteF ⟨hlt, s, vs, hD, ?_⟩
    rw [hst, hno]
    show DQs K _ vs (dueR rs (rs.take i) ++ [])
    rw [List.append_nil]
    exact dv
  · rw [decide_eq_true rfl]
    obtain ⟨w1, hw1, dw1⟩ := hY.get (i := 1) (d := .str nm) rfl
    cases dw1
    refine iteT ⟨_, rfl, _, rfl, _, rfl, _, rfl, c, ys, _, _, rfl, rfl, K0.seqT_same s hc, atI_nat hw1, a, xs, y0, rs, r.1, nm, rfl, s.seq ha, dx.to s, dy0.to s, rl, few, ok.k, fun H2 z s2 dz => ⟨sizeL (m := 2) (Nat.le_refl 2), fun t nt => ?_⟩⟩
    have s3 := K0.same_upd (o := .tup [y0, z]) nt
    have s02 := s.trans s2
    have hD3 := s3 _ _ (s2 _ _ hD)
    have dv3 := dv.to (hid_mono (p := D) (s2.trans s3))
    have tD : t ≠ D := fun e => by rw [e, s2 _ _ hD] at nt; cases nt
    refine ⟨vs, hD3, by rw [sizeLine_eq]; omega, hlt, K0.same_over (s02.trans s3) nD, vs ++ [.ref t], upd_same, ?_⟩
    rw [hid_put, hst, hyes]
    refine dv3.app (.cons (.tup (.inl (.inl (by rw [hid_ne tD, upd_same]))) (.cons ?_ (.cons ?_ .nil))) .nil)
    · exact Flat.hide hD3 _ _ (Flat.pathX _) (dy0.to (s02.trans s3))
    · exact Flat.hide hD3 _ _ (optP_flat _) (dz.to s3)
theorem headsP_its {n : Nat} {l : List It} (d : ∀ x ∈ l, Dr n x) : headsP (phL [] 0 l) (envsL [] 0 l) (phL [] 0 l).length = (phL [] 0 l).map fun r => shpH (risL [] 0 l) r.1 r.2 := by
  have e : (phL [] 0 l).map (fun r => shpH (risL [] 0 l) r.1 r.2) = ((List.range (phL [] 0 l).length).map (fun i => (phL [] 0 l).getD i ([], []))).map fun r => shpH (risL [] 0 l) r.1 r.2 := by rw [range_all]
  rw [e, List.map_map]
  unfold headsP
  refine List.map_congr_left fun i hi => ?_
  have hlt := List.mem_range.mp hi
  refine prog_shp d ?_
  rw [List.getD_eq_getElem?_getD, List.getElem?_eq_getElem hlt]
  rfl
theorem shapeD_its {n : Nat} {l : List It} (d : ∀ x ∈ l, Dr n x) : shape_D (phL [] 0 l) (envsL [] 0 l) = .tuple (shape l) := by
  unfold shape_D
  rw [headsP_its d]
  exact nest_shape fun x hx => (d x hx).hi
theorem seenR_its {n : Nat} {l : List It} (d : ∀ x ∈ l, Dr n x) (seen : ∀ i, useAt (phL [] 0 l) (envsL [] 0 l) i ≠ some none) : SeenR (unsB (risL [] 0 l)) (risL [] 0 l) := by
  intro r hr
  obtain ⟨i, hi⟩ := List.mem_iff_getElem?.mp hr
  cases e : unsB (risL [] 0 l) r.1 r.2 with
  | false => rfl
  | true => exact absurd ((uns_iff d hi).mp e) (seen i)
theorem list12 {σ : St} (h : σ.length = 12) : ∃ z0 z1 z2 z3 z4 z5 z6 z7 z8 z9 z10 z11, σ = [z0, z1, z2, z3, z4, z5, z6, z7, z8, z9, z10, z11] := by
  match σ, h with
  | [z0, z1, z2, z3, z4, z5, z6, z7, z8, z9, z10, z11], _ => exact ⟨_, _, _, _, _, _, _, _, _, _, _, _, rfl⟩
def spLaw (K : PySem.W.Frag) : Sp := fun vs H Q _ => ∃ (a : Addr) (ns : List Int), vs = [.ref a] ∧ SqL K H a (ns.map V.int) ∧ ∀ H', Q (.bl true) H'
section
variable {P : Program} {w : World} {K : PySem.W.Frag} {mg : Str → Option Value} {base : Heap}
theorem sc_law : FnScope NLaw ["_law_script"] (defScope (top 41)) := ⟨rfl, rfl, rfl, by decide +kernel, rfl, by decide +kernel, by decide +kernel⟩
theorem cl_law {C B BN fI fN : Addr} (T : All K mg) (N : Nms mg) (W : ScC K mg C) (R : Er K mg "BadText" B fI) (RV : Er K mg "NotVisible" BN fN) (eBN : PySem.W.exmOne K (.ref B) (.ref BN) = some false) (hrange : mg "range" = none) (hmin : mg "min" = none) (henum : mg "enumerate" = none) (hzip : mg "zip" = none) : ClG P w K mg base 13 "law" ["_law_script"] (spLaw K) := by
  obtain ⟨g, fd, D⟩ := T.dn 41 _ _ rfl
  have TOLD : ClG P w K mg base 12 "_law_told" ["_law_function", "_law_text_here"] (spTold K mg) := cl_told T W R RV eBN henum hzip
  have TEXT : ClG P w K mg base 5 "_law_text" ["_law_program_here"] (spText K) := cl_text T
  have ROWS : ClG P w K mg base 3 "_law_rows" ["_law_items", "_law_path"] (spLR K 2) := cl_lrows T hrange 2 (Nat.le_refl _)
  have HEAL : ClG P w K mg base 6 "_law_healed" ["_law_pool_here", "_law_rows_here", "_law_items", "_law_path"] (spHl K 3) := cl_heal T N hrange 3 (Nat.le_refl _)
  have FIRST : ClG P w K mg base 4 "_law_first" ["_law_rows_here", "_law_items", "_law_path", "_law_first_here"] (spLF K 3) := cl_lfirst T hrange 3 (Nat.le_refl _)
  have SHAPE : ClG P w K mg base 4 "_law_shape" ["_law_rows_here", "_law_items", "_law_path"] (spLS K 3) := cl_lshape T hrange 3 (Nat.le_refl _)
  have MLETS : ClX P w K mg base 10 "meant_lets" ["text"] (spRd K B BN lets_D) := cl_mlets T W R RV henum
  have RSHAPE : ClX P w K mg base 10 "read_shape" ["text"] (spRd K B BN shape_D) := cl_rshape T W R RV henum hzip
  have hR' : ∃ gR, mg "read_shape" = some (.ref gR) := by
    obtain ⟨g, _, _, h, _⟩ := RSHAPE
    exact ⟨g, h⟩
  have hM' : ∃ gM, mg "meant_lets" = some (.ref gM) := by
    obtain ⟨g, _, _, h, _⟩ := MLETS
    exact ⟨g, h⟩
  obtain ⟨gR, hR⟩ := hR'
  obtain ⟨gM, hM⟩ := hM'
  refine ⟨g, fd, okG D.fn sc_law (fun vs H Q E h => ?_) (fun cdv A outer s H vs Q E hgd hr h => ?_), D.mg, D.fn.kp, D.bn⟩
  · obtain ⟨a, ns, rfl, _⟩ := h
    rfl
  · obtain ⟨a, ns, rfl, ha, k⟩ := h
    refine ⟨_, (pss_cons (ps_for PassesOwn.never rfl (pi_range1 rfl hrange (pa_cons (pe_callB (call_max2 rfl) (by rfl) N.max (by decide +kernel) (pa_cons pe_int (pa_cons (pe_callB (call_min2 rfl) (by rfl) hmin (by decide +kernel) (pa_cons pe_int (pa_cons (pe_callB call_len_seq (by rfl) T.bi.len PySem.boot_len (pa_cons (pv 0) pa_nil)) pa_nil))) pa_nil))) pa_nil)) (pg_name (i := 1) sc_law.nd rfl (Or.inl rfl)) (pss_cons (ps_set (i := 2) sc_law.nd rfl (Or.inl rfl) (pe_cl (cl_pool T N) hr (by decide) (pa_cons (pv 0) (pa_cons (pv 1) pa_nil))))
      (pss_cons (ps_set (i := 3) sc_law.nd rfl (Or.inl rfl) (pe_cl (cl_program T N hrange) hr (by decide) (pa_cons (pv 2) (pa_cons (pe_lst (pa_cons pe_str (pa_cons pe_str (pa_cons pe_str pa_nil)))) pa_nil))))
      (pss_cons (ps_for PassesOwn.never rfl (pi_list (pe_lst (pa_cons (pv 3) (pa_cons (pe_clG HEAL hgd hr (by decide) (pa_cons (pv 2) (pa_cons (pe_clG ROWS hgd hr (by decide) (pa_cons (pv 3) (pa_cons (pe_tup pa_nil) pa_nil))) (pa_cons (pv 3) (pa_cons (pe_tup pa_nil) pa_nil))))) pa_nil)))) (pg_name (i := 4) sc_law.nd rfl (Or.inl rfl)) (pss_cons (ps_asg (pe_tup (pa_cons (pe_clG ROWS hgd hr (by decide) (pa_cons (pv 4) (pa_cons (pe_tup pa_nil) pa_nil))) (pa_cons (pe_clG TEXT hgd hr (by decide) (pa_cons (pv 4) pa_nil)) pa_nil))) (pg_tup (t := gCons (gName 5) (gCons (gName 6) gNil)) rfl (pgs_cons (pg_name (i := 5) sc_law.nd rfl (Or.inr rfl)) (pgs_cons (pg_name (i := 6) sc_law.nd rfl (Or.inl rfl)) pgs_nil))))
      (pss_cons (ps_set (i := 7) sc_law.nd rfl (Or.inl rfl) (pe_clG FIRST hgd hr (by decide) (pa_cons (pv 5) (pa_cons (pv 4) (pa_cons (pe_tup pa_nil) (pa_cons pe_int pa_nil))))))
      (pss_cons (ps_if (pt_cmpR op_notN (pv 7) pe_non (nomark _)) (pss_cons (ps_for PassesOwn.never rfl (pi_list (pe_lst (pa_cons (pe_glob (v := .ref gR) rfl hR rfl) (pa_cons (pe_glob (v := .ref gM) rfl hM rfl) pa_nil)))) (pg_name (i := 8) sc_law.nd rfl (Or.inl rfl)) (pss_one (ps_if (pt_cmpR (op_neD hr.units) (pe_clG TOLD hgd hr (by decide) (pa_cons (pv 8) (pa_cons (pv 6) pa_nil))) (pe_lst (pa_cons pe_str (pa_cons (pv 7) pa_nil))) (nomark _)) (pss_one (ps_ret pe_bl)) pss_nil)))
      (pss_one ps_continue)) pss_nil)
      (pss_cons (ps_setLc (i := 9) (own := [("_law_path", 10), ("_law_item_here", 11)]) (g := gTup K 2 (gCons (gName 10) (gCons (gName 11) gNil))) (te := teDue K) (tt := ttDue K) rfl sc_law.nd rfl rfl (sw_true rfl rfl rfl (by decide +kernel)) (pi_list (pv 5)) (blkOk_by (own := [("_law_path", 10), ("_law_item_here", 11)]) (N := NLaw) (sc := defScope (top 41)) (by decide +kernel)) (fun _ _ _ _ _ => pg_tup rfl (pgs_cons (pg_name (i := 10) sc_law.nd rfl (Or.inl rfl)) (pgs_cons (pg_name (i := 11) sc_law.nd rfl (Or.inl rfl)) pgs_nil))) (fun _ _ _ _ _ => (pts_one (pt_cmpR op_eq (pe_ix ix_tup (pv 11) pe_int (fun _ _ => rfl)) pe_str (nomark _)))) (fun _ _ _ _ _ => (pe_tup (pa_cons (pv 10) (pa_cons (pe_clG (cl_lmeant T) hgd hr (by decide) (pa_cons (pv 5) (pa_cons (pv 10) (pa_cons (pe_ix ix_tup (pv 11) pe_int (fun _ _ => rfl)) pa_nil)))) pa_nil)))))
      (pss_one (ps_if (PW.pt (pw_or (pt_cmpR (op_neD hr.units) (pe_clN MLETS hr (by decide) (pa_cons (pv 6) pa_nil)) (pv 9) (nomark _)) (pw_or1 (pt_cmpR (op_neD hr.units) (pe_clN RSHAPE hr (by decide) (pa_cons (pv 6) pa_nil)) (pe_clG SHAPE hgd hr (by decide) (pa_cons (pv 5) (pa_cons (pv 4) (pa_cons (pe_tup pa_nil) pa_nil)))) (nomark _))))) (pss_one (ps_ret pe_bl)) pss_nil)))))))
      (pss_one (ps_for PassesOwn.never rfl (pi_list (pe_lst (pa_cons (pe_glob (v := .ref gM) rfl hM rfl) (pa_cons (pe_glob (v := .ref gR) rfl hR rfl) pa_nil)))) (pg_name (i := 8) sc_law.nd rfl (Or.inl rfl)) (pss_one (ps_if (PW.pt (pw_or (pt_cmpR (op_neD hr.units) (pe_clG TOLD hgd hr (by decide) (pa_cons (pv 8) (pa_cons pe_str pa_nil))) (pe_lst (pa_cons pe_str (pa_cons pe_int pa_nil))) (nomark _)) (pw_or1 (pt_cmpR (op_neD hr.units) (pe_clG TOLD hgd hr (by decide) (pa_cons (pv 8) (pa_cons pe_int pa_nil))) (pe_lst (pa_cons pe_str (pa_cons pe_int pa_nil))) (nomark _))))) (pss_one (ps_ret pe_bl)) pss_nil))))))))
      (pss_one (ps_ret pe_bl))), ?_⟩
    refine ⟨_, rfl, a, _, rfl, .inl ha, _, _, rfl, _, _, rfl, ?_⟩
    rw [List.length_map]
    generalize hm : (if (if (ns.length : Int) < 3 then (ns.length : Int) else 3) > 1 then (if (ns.length : Int) < 3 then (ns.length : Int) else 3) else 1) = m
    have hm3 : 1 ≤ m ∧ m ≤ 3 := by
      rw [← hm]
      split <;> split at * <;> omega
    refine ⟨_, rfl, by omega, by omega, ?_⟩
    refine for_range (lo := 0) (n := m.toNat) (fun i σ J => σ.length = 12 ∧ σ[0]? = some (some (V.ref a)) ∧ SqL K J a (ns.map V.int)) ⟨rfl, rfl, ha⟩ ?_ ?_
    · rintro i σ J hi ⟨l12, t0, haJ⟩
      obtain ⟨z0, z1, z2, z3, z4, z5, z6, z7, z8, z9, z10, z11, rfl⟩ := list12 l12
      obtain rfl : z0 = some (V.ref a) := Option.some.inj t0
      refine ⟨_, rfl, _, rfl, a, ns, i, by rw [Int.zero_add]; rfl, by omega, haJ, fun p A0 B0 np b0 b1 => ?_⟩
      have S1 := K0.same_upd (o := .lst [.int A0, .int B0]) np
      have src : Src (upd J p (.lst [.int A0, .int B0])) p := ⟨A0, B0, upd_same, b0, b1⟩
      have haS : SqL K (hid p (upd J p (.lst [.int A0, .int B0]))) a (ns.map V.int) := Same.seq (fun b u e => by
        rw [hid_ne (ne_of_none e np), upd_ne (ne_of_none e np)]
        exact e) haJ
      generalize upd J p (.lst [.int A0, .int B0]) = J1 at S1 src haS ⊢
      refine ⟨_, rfl, sizeL (m := 3) (by decide), fun l nl => ?_⟩
      have bl : Bt p J1 (upd J1 l (.lst nameV)) := (Bt.refl src).new nl
      refine ⟨p, l, rfl, bl.src, ⟨upd_same, fun e => by
        obtain ⟨_, _, e2, _⟩ := src
        rw [← e, nl] at e2
        cases e2⟩, fun J2 u its b2 hl hc hd => ?_⟩
      have b12 := bl.trans b2
      -- its rows, and the healed one
      have ok1 := rows_ok hl hc
      refine ⟨_, rfl, _, rfl, _, rfl, Nat.zero_le _, fun t1 nt1 => ?_⟩
      have s3 := K0.same_upd (o := .tup []) nt1
      have b13 := b12.grow s3
      have hd3 := hd.to (hid_mono (p := p) s3)
      have d0 : DQ K (upd J2 t1 (.tup [])) (.ref t1) (pathD []) := .tup (.inl (.inl upd_same)) .nil
      generalize upd J2 t1 (.tup []) = J3 at s3 b13 hd3 d0 ⊢
      refine ⟨u, .ref t1, [], its, rfl, hl, hc, by decide, hd3.to (hid_same p J3), d0, fun J4 q vs s4 nq hq dv => ?_⟩
      have b14 := b13.grow s4
      have hd4 := hd3.to (hid_mono (p := p) s4)
      refine ⟨_, rfl, Nat.zero_le _, fun t2 nt2 => ?_⟩
      have s5 := K0.same_upd (o := .tup []) nt2
      have b15 := b14.grow s5
      have hd5 := hd4.to (hid_mono (p := p) s5)
      have hq5 := s5 _ _ hq
      have t2p : t2 ≠ p := Bt.ne b14.src nt2
      have qp : q ≠ p := Bt.ne b13.src nq
      have d5 : DQ K (hid p (upd J4 t2 (.tup []))) (.ref t2) (pathD []) := .tup (.inl (.inl (by rw [hid_ne t2p, upd_same]))) .nil
      have dv5 : DQs K (hid p (upd J4 t2 (.tup []))) vs ((risL [] 0 its).map rowX) := by
        obtain ⟨x1, x2, e, _⟩ := b15.src
        exact Flats.hide e _ _ (rows_flat hc) (((dv.to (hid_same q J4))).to s5)
      generalize upd J4 t2 (.tup []) = J5 at b15 hd5 hq5 d5 dv5 ⊢
      refine ⟨2, p, q, vs, risL [] 0 its, u, .ref t2, [], its, rfl, rfl, b15.src, SqL.of (by rw [hid_ne qp]; exact hq5), dv5, ok1, hl, hc, by decide, hd5, d5, fun J6 u2 its2 b6 hl2 hc2 hd6 => ?_⟩
      have b16 := b15.trans b6
      have hdp6 := hd5.to b6.same
      refine ⟨sizeL (m := 2) (Nat.le_refl 2), fun Lp nLp => ?_⟩
      have s7 := K0.same_upd (o := .lst [u, u2]) nLp
      have b17 := b16.grow s7
      have Lpp : Lp ≠ p := Bt.ne b16.src nLp
      have hu7 := hdp6.to (hid_mono (p := p) s7)
      have hv7 := hd6.to (hid_mono (p := p) s7)
      have hLp := @upd_same J6 Lp (.lst [u, u2])
      generalize upd J6 Lp (.lst [u, u2]) = J7 at b17 hu7 hv7 hLp ⊢
      refine ⟨Lp, rfl, ⟨_, SqL.of hLp⟩, ?_⟩
      refine for_list (K := K) (a := Lp) (xs := [u, u2]) (fun m σ J => (∃ y4 y5 y6 y7 y8 y9 y10 y11, σ = [some (.ref a), some (.int (0 + (i : Int))), some (.ref p), some u, y4, y5, y6, y7, y8, y9, y10, y11]) ∧ Same J7 J) ⟨⟨_, _, _, _, _, _, _, _, rfl⟩, Same.refl _⟩ (fun m σ J _ ⟨_, s⟩ => SqL.of (s _ _ hLp)) ?_ ?_
      · rintro mm x σ J8 hx ⟨⟨y4, y5, y6, y7, y8, y9, y10, y11, rfl⟩, s8⟩
        obtain ⟨it, hit, dit, hx7⟩ : ∃ it : List It, it.length ≤ 4 ∧ (∀ y ∈ it, Dr 2 y) ∧ DQ K J7 x (.tuple (datL it)) := by
          have := List.mem_of_getElem? hx
          simp only [List.mem_cons, List.not_mem_nil, or_false] at this
          rcases this with rfl | rfl
          · exact ⟨its, hl, hc, hu7.to (hid_same p J7)⟩
          · exact ⟨its2, by omega, hc2, hv7.to (hid_same p J7)⟩
        clear hx
        have dit3 : ∀ y ∈ it, Dr 3 y := fun y hy => (dit y hy).mono (by decide)
        have ok := rows_ok hit dit
        have hR2 := scan_its dit
        have ltx := text_len hit dit
        have lz : (sO (textM it)).length ≤ 2000 := by rw [sO_len]; omega
        have hRz : ScanR (sO (textM it)).cps.toList (.inr (endM it)) := hR2
        have mok := mean_its hit dit
        have shk := sh_ok dit
        have hx8 := hx7.to s8
        refine ⟨_, rfl, Nat.zero_le _, fun t1 nt1 => ?_⟩
        have s9 := K0.same_upd (o := .tup []) nt1
        have d9 : DQ K (upd J8 t1 (.tup [])) (.ref t1) (pathD []) := .tup (.inl (.inl upd_same)) .nil
        have hx9 := hx8.to s9
        have s79 := s8.trans s9
        generalize upd J8 t1 (.tup []) = J9 at s79 d9 hx9 ⊢
        refine ⟨x, .ref t1, [], it, rfl, hit, dit, by decide, hx9, d9, fun J10 q vs s10 nq hq dv0 => ?_⟩
        have s710 := s79.trans s10
        have dv := dv0.to (hid_same q J10)
        refine ⟨_, rfl, x, it, rfl, hit, dit3, hx9.to s10, fun J11 s11 => ⟨sizeL (m := 2) (Nat.le_refl 2), fun t2 nt2 => ⟨t2, _, rfl, .inl (.inl upd_same), rfl, _, _, rfl, _, _, rfl, rfl, ?_⟩⟩⟩
        have s12 := K0.same_upd (o := .tup [V.ref q, .str (sO (textM it))]) nt2
        have s712 := (s710.trans s11).trans s12
        have hq12 := s12 _ _ (s11 _ _ hq)
        have dv12 := dv.to (s11.trans s12)
        generalize upd J11 t2 (.tup [V.ref q, .str (sO (textM it))]) = J12 at s712 hq12 dv12 ⊢
        refine ⟨_, rfl, _, rfl, Nat.zero_le _, fun t3 nt3 => ?_⟩
        have s13 := K0.same_upd (o := .tup []) nt3
        have d13 : DQ K (upd J12 t3 (.tup [])) (.ref t3) (pathD []) := .tup (.inl (.inl upd_same)) .nil
        have s713 := s712.trans s13
        have hq13 := s13 _ _ hq12
        have dv13 := dv12.to s13
        generalize upd J12 t3 (.tup []) = J13 at s713 d13 hq13 dv13 ⊢
        refine ⟨2, q, vs, risL [] 0 it, x, .ref t3, [], it, 0, rfl, rfl, SqL.of hq13, dv13, ok, hit, dit, by decide, hx7.to s713, d13, fun J14 s14 => ⟨_, rfl, rfl, _, rfl, ?_⟩⟩
        have s714 := s713.trans s14
        have hq14 := s14 _ _ hq13
        have dv14 := dv13.to s14
        clear s13 d13 hq13 dv13 s12 hq12 dv12 nt1 nt2 nt3
        cases eF : fstL (unsB (risL [] 0 it)) [] 0 0 it with
        | some f =>
          obtain ⟨i0, un0, hf0⟩ := first_some dit eF
          have hd0 : ∀ i, Unseen (phL [] 0 it) (envsL [] 0 it) i → (endM it).firsts.getD i 0 = f := fun i un => by
            rw [unseen_one un un0, List.getD_eq_getElem?_getD]
            have e : (endM it).firsts[i0]? = some f := hf0
            rw [e]
            rfl
          rw [show (!decide (optI (some f) = V.non)) = true from by rw [decide_eq_false (fun z => by cases z)]; rfl]
          refine iteT ⟨sizeL (m := 2) (Nat.le_refl 2), fun F nF => ?_⟩
          have sF := K0.same_upd (o := .lst [V.ref gR, .ref gM]) nF
          have hF := @upd_same J14 F (.lst [V.ref gR, .ref gM])
          have s715 := s714.trans sF
          generalize upd J14 F (.lst [V.ref gR, .ref gM]) = J15 at sF hF s715 ⊢
          refine ⟨F, rfl, ⟨_, SqL.of hF⟩, ?_⟩
          refine for_list (K := K) (a := F) (xs := [V.ref gR, .ref gM]) (fun m σ J => (∃ y8, σ = [some (.ref a), some (.int (0 + (i : Int))), some (.ref p), some u, some x, some (.ref q), some (.str (sO (textM it))), some (.int f), y8, y9, y10, y11]) ∧ Same J15 J) ⟨⟨_, rfl⟩, Same.refl _⟩ (fun m σ J _ ⟨_, s⟩ => SqL.of (s _ _ hF)) ?_ ?_
          · rintro m2 fx σ J16 hfx ⟨⟨y8, rfl⟩, s16⟩
            obtain ⟨fa, DD, rfl, hf⟩ : ∃ f DD, fx = .ref f ∧ FnD mg f DD := by
              have := List.mem_of_getElem? hfx
              simp only [List.mem_cons, List.not_mem_nil, or_false] at this
              rcases this with rfl | rfl
              · exact ⟨gR, shape_D, rfl, .inl ⟨hR, rfl⟩⟩
              · exact ⟨gM, lets_D, rfl, .inr ⟨hM, rfl⟩⟩
            have ly := told_lay (x := "unseen") (by decide +kernel) f
            refine ⟨_, rfl, _, rfl, fa, .str (sO (textM it)), DD, rfl, hf, .inr ⟨sO (textM it), .inr (endM it), rfl, lz, hRz, phL [] 0 it, envsL [] 0 it, mok, shk, fun i1 un J17 ut s17 dut => ?_, fun seen => absurd un0.1 (seen i0 ?_)⟩⟩
            · rw [hd0 i1 un] at dut
              refine ⟨_, rfl, sizeL (m := 2) (Nat.le_refl 2), fun l2 nl2 => ?_⟩
              have s18 := K0.same_upd (o := .lst [V.str "unseen", .int f]) nl2
              refine ⟨_, _, DQ.dp _ _ ly.nd (dut.to s18), DQ.dp _ _ ly.nd (.lst (SqL.of upd_same) (.cons (.str _ (by decide +kernel)) (.cons (.int _) .nil))), ly.sh (by decide), ly.sh (by decide), _, rfl, ?_⟩
              rw [K0.eqv_shaped (ly.sh (by decide)), Bool.not_true]
              exact iteF ⟨⟨_, rfl⟩, (s16.trans s17).trans s18⟩
            · obtain ⟨p0, nm0, e0, _⟩ := (unseen_law dit).mp un0.1
              exact (List.getElem?_eq_some_iff.mp e0).1
          · rintro σ J16 ⟨⟨y8, rfl⟩, s16⟩
            exact ⟨⟨_, _, _, _, _, _, _, _, rfl⟩, s715.trans s16⟩
        | none =>
          have seen := first_none dit eF
          rw [show (!decide (optI none = V.non)) = false from by show (!decide (V.non = V.non)) = false; rw [decide_eq_true rfl]; rfl]
          refine iteF ?_
          unfold tNext
          dsimp only
          unfold tSeq tAsg
          change tLc (iList K (tVar 5)) (gTup K 2 (gCons (gName 10) (gCons (gName 11) gNil))) (ttDue K) (teDue K) [10, 11] [some (.ref a), some (.int (0 + (i : Int))), some (.ref p), some u, some x, some (.ref q), some (.str (sO (textM it))), some .non, y8, y9, y10, y11] J14 _
          refine due_lc (SqL.of hq14) dv14 ok fun J15 Du s15 du15 => ?_
          unfold gName
          dsimp only
          have s715 := s714.trans s15
          have lyL := lets_lay (phL [] 0 it) (envsL [] 0 it)
          have lyS := shape_lay dit
          rw [due_its dit seen] at du15
          refine ⟨_, rfl, .str (sO (textM it)), rfl, .inr ⟨sO (textM it), .inr (endM it), rfl, lz, hRz, phL [] 0 it, envsL [] 0 it, mok, shk, fun i1 un => absurd un.1 (seen i1), fun _ J16 u16 s16 d16 => ?_⟩⟩
          refine ⟨_, rfl, _, _, DQ.dp _ _ lyL.nd d16, DQ.dp _ _ lyL.nd (du15.to s16), lyL.sh (by decide), lyL.sh (by decide), _, rfl, ?_⟩
          rw [K0.eqv_shaped (lyL.sh (by decide)), Bool.not_true]
          refine iteF ⟨_, rfl, .str (sO (textM it)), rfl, .inr ⟨sO (textM it), .inr (endM it), rfl, lz, hRz, phL [] 0 it, envsL [] 0 it, mok, shk, fun i1 un => absurd un.1 (seen i1), fun _ J17 u17 s17 d17 => ?_⟩⟩
          rw [shapeD_its dit] at d17
          have s717 := (s715.trans s16).trans s17
          refine ⟨_, rfl, _, rfl, Nat.zero_le _, fun t5 nt5 => ?_⟩
          have s18 := K0.same_upd (o := .tup []) nt5
          have d18 : DQ K (upd J17 t5 (.tup [])) (.ref t5) (pathD []) := .tup (.inl (.inl upd_same)) .nil
          have s718 := s717.trans s18
          have sq := ((s15.trans s16).trans s17).trans s18
          have d178 := d17.to s18
          generalize upd J17 t5 (.tup []) = J18 at s718 d18 sq d178 ⊢
          refine ⟨2, q, vs, risL [] 0 it, x, .ref t5, [], it, rfl, rfl, SqL.of (sq _ _ hq14), dv14.to sq, ok, seenR_its dit seen, hit, dit, by decide, hx7.to s718, d18, fun J19 u19 s19 d19 => ?_⟩
          refine ⟨_, _, DQ.dp _ _ lyS.nd (d178.to s19), DQ.dp _ _ lyS.nd d19, lyS.sh (by decide), lyS.sh (by decide), _, rfl, ?_⟩
          rw [K0.eqv_shaped (lyS.sh (by decide)), Bool.not_true]
          exact iteF ⟨⟨_, _, _, _, _, _, _, _, rfl⟩, s718.trans s19⟩
      · rintro σ J8 ⟨⟨y4, y5, y6, y7, y8, y9, y10, y11, rfl⟩, s8⟩
        have b18 := b17.grow s8
        refine ⟨sizeL (m := 2) (Nat.le_refl 2), fun F nF => ?_⟩
        have sF := K0.same_upd (o := .lst [V.ref gM, .ref gR]) nF
        have hF := @upd_same J8 F (.lst [V.ref gM, .ref gR])
        have b19 := b18.grow sF
        generalize upd J8 F (.lst [V.ref gM, .ref gR]) = J9 at sF hF b19 ⊢
        refine ⟨F, rfl, ⟨_, SqL.of hF⟩, ?_⟩
        refine for_list (K := K) (a := F) (xs := [V.ref gM, .ref gR]) (fun m σ J => (∃ y4 y5 y6 y7 y8 y9 y10 y11, σ = [some (.ref a), some (.int (0 + (i : Int))), some (.ref p), some u, y4, y5, y6, y7, y8, y9, y10, y11]) ∧ Same J9 J) ⟨⟨_, _, _, _, _, _, _, _, rfl⟩, Same.refl _⟩ (fun m σ J _ ⟨_, s⟩ => SqL.of (s _ _ hF)) ?_ ?_
        · rintro mm x σ J10 hx ⟨⟨y4, y5, y6, y7, y8, y9, y10, y11, rfl⟩, s10⟩
          obtain ⟨f, DD, rfl, hf⟩ : ∃ f DD, x = .ref f ∧ FnD mg f DD := by
            have := List.mem_of_getElem? hx
            simp only [List.mem_cons, List.not_mem_nil, or_false] at this
            rcases this with rfl | rfl
            · exact ⟨gM, lets_D, rfl, .inr ⟨hM, rfl⟩⟩
            · exact ⟨gR, shape_D, rfl, .inl ⟨hR, rfl⟩⟩
          have ly2 := told_lay (x := "text") (by decide +kernel) 2
          have ly0 := told_lay (x := "text") (by decide +kernel) 0
          refine ⟨_, rfl, f, .str "(a", DD, rfl, hf, .inr ⟨"(a", .inl 2, rfl, by decide +kernel, scan_bad2, fun J11 ut s11 dut => ?_⟩⟩
          refine ⟨sizeL (m := 2) (Nat.le_refl 2), fun l2 nl2 => ?_⟩
          have s12 := K0.same_upd (o := .lst [V.str "text", .int 2]) nl2
          refine ⟨_, _, DQ.dp _ _ ly2.nd (dut.to s12), DQ.dp _ _ ly2.nd (.lst (SqL.of upd_same) (.cons (.str _ (by decide +kernel)) (.cons (.int _) .nil))), ly2.sh (by decide), ly2.sh (by decide), _, rfl, ?_⟩
          rw [K0.eqv_shaped (ly2.sh (by decide)), Bool.not_true]
          refine iteF ⟨_, rfl, f, .int 7, DD, rfl, hf, .inl ⟨⟨.int 7, .int 7, kit_str _⟩, fun J13 ut3 s13 dut3 => ?_⟩⟩
          refine ⟨sizeL (m := 2) (Nat.le_refl 2), fun l4 nl4 => ?_⟩
          have s14 := K0.same_upd (o := .lst [V.str "text", .int 0]) nl4
          refine ⟨_, _, DQ.dp _ _ ly0.nd (dut3.to s14), DQ.dp _ _ ly0.nd (.lst (SqL.of upd_same) (.cons (.str _ (by decide +kernel)) (.cons (.int _) .nil))), ly0.sh (by decide), ly0.sh (by decide), _, rfl, ?_⟩
          rw [K0.eqv_shaped (ly0.sh (by decide)), Bool.not_true]
          exact iteF ⟨⟨_, _, _, _, _, _, _, _, rfl⟩, (((s10.trans s11).trans s12).trans s13).trans s14⟩
        · rintro σ J10 ⟨⟨y4, y5, y6, y7, y8, y9, y10, y11, rfl⟩, s10⟩
          exact ⟨rfl, rfl, (hid_same p _).seq (Same.seq (b19.grow s10).same haS)⟩
    · rintro σ J ⟨l12, t0, haJ⟩
      exact k _
end
end K1
set_option maxHeartbeats 4000000
/-! the head's facts -/
namespace K1
open PySem L2
theorem dn_mk {K : PySem.W.Frag} {mg : Str → Option Value} {h : Heap} {x : Str} {ps : List Str} {st : Stmt} {g : Addr} {oc : Value} {od an : Option Addr} {osl : Array (Option Value)} {kV doc pm cdv ct : Value} (X : K.In h) (G : h.Ns mainGlobals mg) (a : PySem.W.nsIn K mainGlobals x = some (some (.ref g)))
    (l : K.lookup g = some ⟨oc, od, .func (PySem.W.fnOf x x (defArgs st) (defBody st) (defScope st) .none kV doc pm an cdv ct), osl⟩) (cc : PySem.W.codeIn K cdv x = true) (k : PySem.W.keepIn K (.ref g) = true)
    (b : ∀ (kV doc pm : Value) (an : Option Addr) (cdv ct : Value) (us : List Value), us.length = ps.length → bindArgs (PySem.W.fnOf x x (defArgs st) (defBody st) (defScope st) .none kV doc pm an cdv ct) ⟨us, []⟩ = pure (ps.zip us)) :
    ∃ g fd, Dn K mg x ps st g fd := by
  have F := fun_mk (st := st) l cc k
  exact ⟨_, _, F, F.binds b, PySem.W.mg_of X G a⟩
theorem dn_nil {K : PySem.W.Frag} {mg : Str → Option Value} : ∀ i x ps, ([] : List (Nat × Str × List Str)).lookup i = some (x, ps) → ∃ g fd, Dn K mg x ps (top i) g fd := fun _ _ _ e => by cases e
theorem dn_cons {K : PySem.W.Frag} {mg : Str → Option Value} {i : Nat} {x : Str} {ps : List Str} {r : List (Nat × Str × List Str)} (d : ∃ g fd, Dn K mg x ps (top i) g fd) (h : ∀ i x ps, r.lookup i = some (x, ps) → ∃ g fd, Dn K mg x ps (top i) g fd) :
    ∀ j y qs, ((i, x, ps) :: r).lookup j = some (y, qs) → ∃ g fd, Dn K mg y qs (top j) g fd := fun j y qs e => by
  rw [List.lookup_cons] at e
  cases q : j == i with
  | true =>
    rw [q] at e
    cases e
    rw [eq_of_beq q]
    exact d
  | false =>
    rw [q] at e
    exact h j y qs e
/-- a class's facts, all but its own object -/
def erB (K : PySem.W.Frag) (C fI : Addr) : Bool :=
  decide (PySem.W.findIn K (.ref C) "__setattr__" = some (some (.builtin "object.__setattr__"))) && (decide (PySem.W.subIn K (.ref C) (.type "BaseException") = some true) && (decide (PySem.W.typeIn K (.ref C) = some (.type "type")) && (PySem.W.keepIn K (.ref C) &&
  (xfB K C && (decide (PySem.W.findIn K (.ref C) "told" = some none) && (decide (PySem.W.findIn K (.ref C) "__init__" = some (some (.ref fI))) && (decide (PySem.W.typeIn K (.ref fI) = some (.type "function")) && decide (PySem.W.exmOne K (.ref C) (.ref C) = some true))))))))
theorem er_mk {K : PySem.W.Frag} {mg : Str → Option Value} {h : Heap} {x : Str} {C fI : Addr} {nm q : Str} {N : Addr} {bs bm : List Value} {sn : List Str} {sub : List Value} {ab : Bool} {col : Option Bool} {dd : Option Addr} {k0 k1 k2 k3 k5 : Option Value} (X : K.In h) (G : h.Ns mainGlobals mg)
    (a : PySem.W.nsIn K mainGlobals x = some (some (.ref C)))
    (l : K.lookup C = some (excClassObj nm q C N bs bm true sn sub ab col dd k0 k1 k2 k3 k5 "ValueError.__new__")) (r : PySem.HandSPX.refsVE bm = true) (b : erB K C fI = true) (ini : ∃ fd, Fun K "__init__" "ScopeError.__init__" s_init fI fd ∧ Binds K fd ["self", "told"] []) : Er K mg x C fI := by
  unfold erB at b
  simp only [Bool.and_eq_true, decide_eq_true_eq] at b
  obtain ⟨h1, h2, h3, h4, h5, h6, h7, h8, h9⟩ := b
  exact ⟨PySem.W.mg_of X G a, ⟨⟨nm, q, N, bs, bm, sn, sub, ab, col, dd, k0, k1, k2, k3, k5, l, r⟩, h1, h2, h3, h4⟩, xfB_ok h5, h6, h7, h8, h9, ini⟩
theorem mf_mk {K : PySem.W.Frag} {x q : Str} {st : Stmt} {ps : List Str} {f : Addr} {oc : Value} {od an : Option Addr} {osl : Array (Option Value)} {kV doc pm cdv ct : Value}
    (l : K.lookup f = some ⟨oc, od, .func (PySem.W.fnOf x q (defArgs st) (defBody st) (defScope st) .none kV doc pm an cdv ct), osl⟩) (cc : PySem.W.codeIn K cdv q = true) (k : PySem.W.keepIn K (.ref f) = true)
    (b : ∀ (kV doc pm : Value) (an : Option Addr) (cdv ct : Value) (us : List Value), us.length = ps.length → bindArgs (PySem.W.fnOf x q (defArgs st) (defBody st) (defScope st) .none kV doc pm an cdv ct) ⟨us, []⟩ = pure (ps.zip us)) :
    ∃ fd, Fun K x q st f fd ∧ Binds K fd ps [] := by
  have F := fun_mk (st := st) l cc k
  exact ⟨_, F, F.binds b⟩
theorem sqt_four {K : PySem.W.Frag} {a : Addr} {x y z v : Str} {t u t' u' : Tok} {d : Option Addr} {n : Nat} {sl : Array (Option Value)} (l : K.lookup a = some ⟨.type "tuple", d, .seq #[.str x t, .str y u, .str z t', .str v u'] n, sl⟩) : ∀ H, SqT K H a [.str x, .str y, .str z, .str v] :=
  fun H => .inr ⟨_, _, _, l, rfl, rfl, (by show 4 ≤ sizeLine; rw [sizeLine_eq]; decide), .cons ⟨t, rfl⟩ (.cons ⟨u, rfl⟩ (.cons ⟨t', rfl⟩ (.cons ⟨u', rfl⟩ .nil)))⟩

/-- the built-in names that the text does not name anew -/
def namesB (K : PySem.W.Frag) : Bool := [("isinstance" : Str), "int", "bool", "str", "tuple", "len", "all", "max", "min", "list", "range", "zip", "enumerate"].all fun x => decide (PySem.W.nsIn K mainGlobals x = some none)
theorem names_of {K : PySem.W.Frag} {h : Heap} {mg : Str → Option Value} (X : K.In h) (G : h.Ns mainGlobals mg) (hb : namesB K = true) : Bi mg ∧ Nms mg ∧ mg "range" = none ∧ mg "min" = none ∧ mg "zip" = none ∧ mg "list" = none ∧ mg "enumerate" = none := by
  unfold namesB at hb
  simp only [Bool.and_eq_true, List.all_cons, List.all_nil, decide_eq_true_eq] at hb
  obtain ⟨e1, e2, e3, e4, e5, e6, e7, e8, e9, e10, e11, e12, e13, _⟩ := hb
  have n : ∀ {x : Str}, PySem.W.nsIn K mainGlobals x = some none → mg x = none := fun e => PySem.W.mg_none_of X G e
  exact ⟨⟨n e1, n e2, n e3, n e4, n e5, n e6, n e7⟩, ⟨n e6, n e8, n e2⟩, n e11, n e9, n e12, n e10, n e13⟩
theorem cn_mk {K : PySem.W.Frag} {h : Heap} {mg : Str → Option Value} {t1 t2 t3 t4 : Tok} {a : Addr} (X : K.In h) (G : h.Ns mainGlobals mg) (ho : PySem.W.nsIn K mainGlobals "_HOLDERS" = some (some (.ref a)))
    (sh : ∀ H, SqT K H a [.str "block", .str "let", .str "sum", .str "product"]) (le : PySem.W.nsIn K mainGlobals "_LETTERS" = some (some (.str "abcdefghijklmnopqrstuvwxyz" t1))) (fi : PySem.W.nsIn K mainGlobals "_FIGURES" = some (some (.str "0123456789" t2)))
    (ff : PySem.W.nsIn K mainGlobals "_FIRST_FIGURES" = some (some (.str "123456789" t3))) (mo : PySem.W.nsIn K mainGlobals "_MOST_LETTERS" = some (some (.int 4 t4))) : Cn K mg :=
  ⟨⟨a, PySem.W.mg_of X G ho, sh⟩, ⟨_, PySem.W.mg_of X G le⟩, ⟨_, PySem.W.mg_of X G fi⟩, ⟨_, PySem.W.mg_of X G ff⟩, ⟨_, PySem.W.mg_of X G mo⟩⟩
/-- Scan as the top has made it, all that is told by a look -/
def scB (K : PySem.W.Frag) (C fI f1 f2 f3 f4 : Addr) : Bool :=
  (PySem.W.plainGet K C Str.empty && (PySem.W.hasDictIn K C && (PySem.W.plainOver K C && decide (PySem.W.findIn K (.ref C) "__setattr__" = some (some (.builtin "object.__setattr__")))))) &&
  (([("paths" : Str), "heads", "firsts", "behinds", "_text", "_at", "_around", "_counts"].all fun x => decide (PySem.W.findIn K (.ref C) x = some none)) &&
  ((PySem.W.makesIn K C && (decide (PySem.W.findIn K (.ref C) "__init__" = some (some (.ref fI))) && (PySem.W.isFn K (.ref fI) && PySem.W.keepIn K (.ref C)))) &&
  ([(("_run" : Str), f1), ("_is_in_new_block", f2), ("_begin", f3), ("_close", f4)].all fun p => decide (PySem.W.findIn K (.ref C) p.1 = some (some (.ref p.2))) && (PySem.W.isFn K (.ref p.2) && PySem.W.keepIn K (.ref p.2)))))
theorem sc_mk {K : PySem.W.Frag} {mg : Str → Option Value} {h : Heap} {C fI f1 f2 f3 f4 : Addr} (X : K.In h) (G : h.Ns mainGlobals mg) (a : PySem.W.nsIn K mainGlobals "Scan" = some (some (.ref C))) (b : scB K C fI f1 f2 f3 f4 = true)
    (m0 : ∃ fd, Fun K "__init__" "Scan.__init__" (inClass (top 17) 0) fI fd ∧ Binds K fd ["self", "text"] []) (m1 : ∃ fd, Fun K "_run" "Scan._run" (inClass (top 17) 1) f1 fd ∧ Binds K fd ["self"] [])
    (m2 : ∃ fd, Fun K "_is_in_new_block" "Scan._is_in_new_block" (inClass (top 17) 2) f2 fd ∧ Binds K fd ["self"] []) (m3 : ∃ fd, Fun K "_begin" "Scan._begin" (inClass (top 17) 3) f3 fd ∧ Binds K fd ["self"] [])
    (m4 : ∃ fd, Fun K "_close" "Scan._close" (inClass (top 17) 4) f4 fd ∧ Binds K fd ["self"] []) : ScC K mg C := by
  unfold scB at b
  simp only [Bool.and_eq_true, decide_eq_true_eq, List.all_cons, List.all_nil] at b
  obtain ⟨⟨a1, a2, a3, a4⟩, ⟨n1, n2, n3, n4, n5, n6, n7, n8, _⟩, ⟨k1, k2, k3, k4⟩, ⟨r1, r2, r3⟩, ⟨i1, i2, i3⟩, ⟨g1, g2, g3⟩, ⟨c1, c2, c3⟩, _⟩ := b
  obtain ⟨x0, F0, B0⟩ := m0
  obtain ⟨x1, F1, B1⟩ := m1
  obtain ⟨x2, F2, B2⟩ := m2
  obtain ⟨x3, F3, B3⟩ := m3
  obtain ⟨x4, F4, B4⟩ := m4
  exact { cl := ⟨a1, a2, a3, a4⟩, mg := PySem.W.mg_of X G a, n1 := n1, n2 := n2, n3 := n3, n4 := n4, nT := n5, nA := n6, n5 := n7, n6 := n8, ini := ⟨_, _, F0, B0, ⟨k1, k2, k3, k4⟩⟩, run := ⟨_, _, F1, B1, ⟨r1, r2, r3⟩⟩, isn := ⟨_, _, F2, B2, ⟨i1, i2, i3⟩⟩, beg := ⟨_, _, F3, B3, ⟨g1, g2, g3⟩⟩, clo := ⟨_, _, F4, B4, ⟨c1, c2, c3⟩⟩ }
/-- the law, at its call -/
theorem good_all {P : Program} {w : World} {K : PySem.W.Frag} {h : Heap} {mg : Str → Option Value} {fa C B BN fI fN : Addr} (X : K.In h) (G : h.Ns mainGlobals mg) (hfa : mg "law" = some (.ref fa)) (nb : namesB K = true) (cn : Cn K mg)
    (dn : ∀ i x ps, tabL.lookup i = some (x, ps) → ∃ g fd, Dn K mg x ps (top i) g fd) (W : ScC K mg C) (R : Er K mg "BadText" B fI) (RV : Er K mg "NotVisible" BN fN) (eBN : PySem.W.exmOne K (.ref B) (.ref BN) = some false) : GoodAt P w K mg fa 63 := by
  intro base s H a ns hl e0 hO hS
  obtain ⟨b1, b2, b3, b4, b5, b6, b7⟩ := names_of X G nb
  have T : All K mg := ⟨dn, b1, cn⟩
  obtain ⟨g, fd, F, hm, hk, hb⟩ := cl_law (P := P) (w := w) (base := base) T b2 W R RV eBN b3 b4 b7 b5
  have eq := hfa.symm.trans hm
  cases eq
  have hb' := hb s [.ref a] (fun b o e => (e0.bs b o (e0.mod.kin b o e)).1) rfl
  exact F.run callerA [] s H ⟨[.ref a], []⟩ [.ref a] [.ref a] _ _ rfl ⟨rfl, by decide, by decide⟩ e0 hb' (.cons rfl .nil) ⟨a, ns, rfl, hS, fun H' => rfl⟩
end K1
open PySem PySem.W PyProof.Rows
set_option maxRecDepth 100000 in
set_option maxHeartbeats 0 in
theorem PySem.Challenge.cw_sharedscopes_k69_whole_texts_read_holds : PySem.Challenge.rw_sharedscopes_k69_whole_texts_read.Holds := by
  w_on; o_law; k_head; (case hw => w_witness2)
  k_fill
  refine L2.walk_at (n := 63) rfl (by decide) rfl (fun w h Y => PySem.W.kIn_of Y) ?F
  case F =>
    intro w mg fa h KX G hmg
    refine' K1.good_all (C := 139) (B := 44) (BN := 56) (fI := 28) (fN := 28) KX G hmg ?nb ?cn ?dn ?W ?R ?RV ?ne
    (case nb => kernel_rfl)
    (case ne => kernel_rfl)
    case cn =>
      refine' K1.cn_mk KX G ?ho ?sh ?hle ?fi ?ff ?mo
      (case ho => k_is)
      (case sh => refine' K1.sqt_four ?l; (case l => k_is))
      (case hle => k_is)
      (case fi => k_is)
      (case ff => k_is)
      (case mo => k_is)
    case W =>
      refine' K1.sc_mk (C := 139) (fI := 108) (f1 := 115) (f2 := 122) (f3 := 129) (f4 := 136) KX G ?a ?b ?m0 ?m1 ?m2 ?m3 ?m4
      (case a => k_is)
      (case b => kernel_rfl)
      case m0 =>
        refine' K1.mf_mk ?l ?c ?k ?b
        (case l => k_is)
        (case c => k_is)
        (case k => k_is)
        (case b => exact fun _ _ _ _ _ _ us hl => match us, hl with | [_, _], _ => rfl)
      case m1 =>
        refine' K1.mf_mk ?l ?c ?k ?b
        (case l => k_is)
        (case c => k_is)
        (case k => k_is)
        (case b => exact fun _ _ _ _ _ _ us hl => match us, hl with | [_], _ => rfl)
      case m2 =>
        refine' K1.mf_mk ?l ?c ?k ?b
        (case l => k_is)
        (case c => k_is)
        (case k => k_is)
        (case b => exact fun _ _ _ _ _ _ us hl => match us, hl with | [_], _ => rfl)
      case m3 =>
        refine' K1.mf_mk ?l ?c ?k ?b
        (case l => k_is)
        (case c => k_is)
        (case k => k_is)
        (case b => exact fun _ _ _ _ _ _ us hl => match us, hl with | [_], _ => rfl)
      case m4 =>
        refine' K1.mf_mk ?l ?c ?k ?b
        (case l => k_is)
        (case c => k_is)
        (case k => k_is)
        (case b => exact fun _ _ _ _ _ _ us hl => match us, hl with | [_], _ => rfl)
    case R =>
      refine' K1.er_mk KX G ?a ?l ?r ?b ?ini
      (case a => k_is)
      (case l => k_is)
      (case r => kernel_rfl)
      (case b => kernel_rfl)
      case ini =>
        refine' K1.mf_mk ?l ?c ?k ?b
        (case l => k_is)
        (case c => k_is)
        (case k => k_is)
        (case b => exact fun _ _ _ _ _ _ us hl => match us, hl with | [_, _], _ => rfl)
    case RV =>
      refine' K1.er_mk KX G ?a ?l ?r ?b ?ini
      (case a => k_is)
      (case l => k_is)
      (case r => kernel_rfl)
      (case b => kernel_rfl)
      case ini =>
        refine' K1.mf_mk ?l ?c ?k ?b
        (case l => k_is)
        (case c => k_is)
        (case k => k_is)
        (case b => exact fun _ _ _ _ _ _ us hl => match us, hl with | [_, _], _ => rfl)
    case dn =>
      refine' K1.dn_cons ?d ?r
      case d =>
        refine' K1.dn_mk KX G ?a ?l ?c ?k ?b
        (case a => k_is); (case l => k_is); (case c => k_is); (case k => k_is); (case b => exact fun _ _ _ _ _ _ us hl => match us, hl with | [_], _ => rfl)
      case r =>
       refine' K1.dn_cons ?d ?r
       case d =>
         refine' K1.dn_mk KX G ?a ?l ?c ?k ?b
         (case a => k_is); (case l => k_is); (case c => k_is); (case k => k_is); (case b => exact fun _ _ _ _ _ _ us hl => match us, hl with | [_, _], _ => rfl)
       case r =>
        refine' K1.dn_cons ?d ?r
        case d =>
          refine' K1.dn_mk KX G ?a ?l ?c ?k ?b
          (case a => k_is); (case l => k_is); (case c => k_is); (case k => k_is); (case b => exact fun _ _ _ _ _ _ us hl => match us, hl with | [_, _], _ => rfl)
        case r =>
         refine' K1.dn_cons ?d ?r
         case d =>
           refine' K1.dn_mk KX G ?a ?l ?c ?k ?b
           (case a => k_is); (case l => k_is); (case c => k_is); (case k => k_is); (case b => exact fun _ _ _ _ _ _ us hl => match us, hl with | [_, _], _ => rfl)
         case r =>
          refine' K1.dn_cons ?d ?r
          case d =>
            refine' K1.dn_mk KX G ?a ?l ?c ?k ?b
            (case a => k_is); (case l => k_is); (case c => k_is); (case k => k_is); (case b => exact fun _ _ _ _ _ _ us hl => match us, hl with | [_, _, _], _ => rfl)
          case r =>
           refine' K1.dn_cons ?d ?r
           case d =>
             refine' K1.dn_mk KX G ?a ?l ?c ?k ?b
             (case a => k_is); (case l => k_is); (case c => k_is); (case k => k_is); (case b => exact fun _ _ _ _ _ _ us hl => match us, hl with | [_, _], _ => rfl)
           case r =>
            refine' K1.dn_cons ?d ?r
            case d =>
              refine' K1.dn_mk KX G ?a ?l ?c ?k ?b
              (case a => k_is); (case l => k_is); (case c => k_is); (case k => k_is); (case b => exact fun _ _ _ _ _ _ us hl => match us, hl with | [_], _ => rfl)
            case r =>
             refine' K1.dn_cons ?d ?r
             case d =>
               refine' K1.dn_mk KX G ?a ?l ?c ?k ?b
               (case a => k_is); (case l => k_is); (case c => k_is); (case k => k_is); (case b => exact fun _ _ _ _ _ _ us hl => match us, hl with | [_, _], _ => rfl)
             case r =>
              refine' K1.dn_cons ?d ?r
              case d =>
                refine' K1.dn_mk KX G ?a ?l ?c ?k ?b
                (case a => k_is); (case l => k_is); (case c => k_is); (case k => k_is); (case b => exact fun _ _ _ _ _ _ us hl => match us, hl with | [_, _], _ => rfl)
              case r =>
               refine' K1.dn_cons ?d ?r
               case d =>
                 refine' K1.dn_mk KX G ?a ?l ?c ?k ?b
                 (case a => k_is); (case l => k_is); (case c => k_is); (case k => k_is); (case b => exact fun _ _ _ _ _ _ us hl => match us, hl with | [_], _ => rfl)
               case r =>
                refine' K1.dn_cons ?d ?r
                case d =>
                  refine' K1.dn_mk KX G ?a ?l ?c ?k ?b
                  (case a => k_is); (case l => k_is); (case c => k_is); (case k => k_is); (case b => exact fun _ _ _ _ _ _ us hl => match us, hl with | [_], _ => rfl)
                case r =>
                 refine' K1.dn_cons ?d ?r
                 case d =>
                   refine' K1.dn_mk KX G ?a ?l ?c ?k ?b
                   (case a => k_is); (case l => k_is); (case c => k_is); (case k => k_is); (case b => exact fun _ _ _ _ _ _ us hl => match us, hl with | [_], _ => rfl)
                 case r =>
                  refine' K1.dn_cons ?d ?r
                  case d =>
                    refine' K1.dn_mk KX G ?a ?l ?c ?k ?b
                    (case a => k_is); (case l => k_is); (case c => k_is); (case k => k_is); (case b => exact fun _ _ _ _ _ _ us hl => match us, hl with | [_], _ => rfl)
                  case r =>
                   refine' K1.dn_cons ?d ?r
                   case d =>
                     refine' K1.dn_mk KX G ?a ?l ?c ?k ?b
                     (case a => k_is); (case l => k_is); (case c => k_is); (case k => k_is); (case b => exact fun _ _ _ _ _ _ us hl => match us, hl with | [_, _], _ => rfl)
                   case r =>
                    refine' K1.dn_cons ?d ?r
                    case d =>
                      refine' K1.dn_mk KX G ?a ?l ?c ?k ?b
                      (case a => k_is); (case l => k_is); (case c => k_is); (case k => k_is); (case b => exact fun _ _ _ _ _ _ us hl => match us, hl with | [_, _], _ => rfl)
                    case r =>
                     refine' K1.dn_cons ?d ?r
                     case d =>
                       refine' K1.dn_mk KX G ?a ?l ?c ?k ?b
                       (case a => k_is); (case l => k_is); (case c => k_is); (case k => k_is); (case b => exact fun _ _ _ _ _ _ us hl => match us, hl with | [_, _], _ => rfl)
                     case r =>
                      refine' K1.dn_cons ?d ?r
                      case d =>
                        refine' K1.dn_mk KX G ?a ?l ?c ?k ?b
                        (case a => k_is); (case l => k_is); (case c => k_is); (case k => k_is); (case b => exact fun _ _ _ _ _ _ us hl => match us, hl with | [_, _, _], _ => rfl)
                      case r =>
                       refine' K1.dn_cons ?d ?r
                       case d =>
                         refine' K1.dn_mk KX G ?a ?l ?c ?k ?b
                         (case a => k_is); (case l => k_is); (case c => k_is); (case k => k_is); (case b => exact fun _ _ _ _ _ _ us hl => match us, hl with | [_, _], _ => rfl)
                       case r =>
                        refine' K1.dn_cons ?d ?r
                        case d =>
                          refine' K1.dn_mk KX G ?a ?l ?c ?k ?b
                          (case a => k_is); (case l => k_is); (case c => k_is); (case k => k_is); (case b => exact fun _ _ _ _ _ _ us hl => match us, hl with | [_], _ => rfl)
                        case r =>
                         refine' K1.dn_cons ?d ?r
                         case d =>
                           refine' K1.dn_mk KX G ?a ?l ?c ?k ?b
                           (case a => k_is); (case l => k_is); (case c => k_is); (case k => k_is); (case b => exact fun _ _ _ _ _ _ us hl => match us, hl with | [_], _ => rfl)
                         case r =>
                          refine' K1.dn_cons ?d ?r
                          case d =>
                            refine' K1.dn_mk KX G ?a ?l ?c ?k ?b
                            (case a => k_is); (case l => k_is); (case c => k_is); (case k => k_is); (case b => exact fun _ _ _ _ _ _ us hl => match us, hl with | [_, _], _ => rfl)
                          case r =>
                           refine' K1.dn_cons ?d ?r
                           case d =>
                             refine' K1.dn_mk KX G ?a ?l ?c ?k ?b
                             (case a => k_is); (case l => k_is); (case c => k_is); (case k => k_is); (case b => exact fun _ _ _ _ _ _ us hl => match us, hl with | [_, _, _], _ => rfl)
                           case r =>
                            refine' K1.dn_cons ?d ?r
                            case d =>
                              refine' K1.dn_mk KX G ?a ?l ?c ?k ?b
                              (case a => k_is); (case l => k_is); (case c => k_is); (case k => k_is); (case b => exact fun _ _ _ _ _ _ us hl => match us, hl with | [_, _, _, _], _ => rfl)
                            case r =>
                             refine' K1.dn_cons ?d ?r
                             case d =>
                               refine' K1.dn_mk KX G ?a ?l ?c ?k ?b
                               (case a => k_is); (case l => k_is); (case c => k_is); (case k => k_is); (case b => exact fun _ _ _ _ _ _ us hl => match us, hl with | [_, _, _], _ => rfl)
                             case r =>
                              refine' K1.dn_cons ?d ?r
                              case d =>
                                refine' K1.dn_mk KX G ?a ?l ?c ?k ?b
                                (case a => k_is); (case l => k_is); (case c => k_is); (case k => k_is); (case b => exact fun _ _ _ _ _ _ us hl => match us, hl with | [_, _], _ => rfl)
                              case r =>
                               refine' K1.dn_cons ?d ?r
                               case d =>
                                 refine' K1.dn_mk KX G ?a ?l ?c ?k ?b
                                 (case a => k_is); (case l => k_is); (case c => k_is); (case k => k_is); (case b => exact fun _ _ _ _ _ _ us hl => match us, hl with | [_, _, _, _], _ => rfl)
                               case r =>
                                refine' K1.dn_cons ?d ?r
                                case d =>
                                  refine' K1.dn_mk KX G ?a ?l ?c ?k ?b
                                  (case a => k_is); (case l => k_is); (case c => k_is); (case k => k_is); (case b => exact fun _ _ _ _ _ _ us hl => match us, hl with | [_], _ => rfl)
                                case r =>
                                 exact K1.dn_nil
