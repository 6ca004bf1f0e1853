import PyProof.Rows.All
import Wide.All
import OpenK.AllK
import Wide.FinOn
import HandS.ForMost
import HandS.ExcInit
import HandS.IsInst
import HandS.ExcIs
import PyProof.ReprReads
import KE.KDictWalk
import PyProof.CallFns
import KE.KExcInit
import HandS.ExcField
import KE.KExcSuper
import HandS.SetFor
import PyProof.EqKinds
import PySem.Challenge.RW_namechains_k10_errors_and_limits
set_option Elab.async false
set_option linter.all false
set_option maxRecDepth 100000
set_option maxHeartbeats 8000000
/-! A def whose run is told at one surrounding alone (so that what is being shown by repr is known), and a law's call by it. -/
namespace G
open PySem PySem.Spec PyProof.Rows L2
section
variable {P : Program} {w : World} {K : PySem.W.Frag} {mg : Str → Option Value}
/-- the def at f keeps sp, called within A -/
def RunA (P : Program) (w : World) (K : PySem.W.Frag) (mg : Str → Option Value) (A : Around) (f : Addr) (fd : FuncData) (ps : List Str) (sp : Sp) : Prop :=
  ∀ (base : Heap) (outer : List Env) (s : Shared) (H : Hp) (args : Args) (us : List Value) (vs : List V) (Q : VK) (E : XK), K.In base → base.Ns mainGlobals mg →
    Env0 P w K mg base A outer s H → BindsTo s fd args (ps.zip us) → Vals vs us → sp vs H Q E → codeAny (model P w) A (.call (.ref f) args) (CR CX0 outer P w H s Q E) s
theorem runA_of {A : Around} {nm ql : Str} {st : Stmt} {f : Addr} {fd : FuncData} {N ps : List Str} {k : Nat} {sp : Sp} (T : Fun K nm ql st f fd) (S : FnScope N ps (defScope st))
    (hl : ∀ vs H Q E, sp vs H Q E → vs.length = ps.length) (room : Room (k + 1) A)
    (body : ∀ (base : Heap) (cdv : Value) (outer : List Env) (s : Shared) (H : Hp) (vs : List V) (Q : VK) (E : XK), K.In base → base.Ns mainGlobals mg → Room k (A.deeper (envOfC ql (defScope st) s.heap.objs.size f cdv)) → sp vs H Q E →
      ∃ t, PSs (cxOf CX0 P w K mg base N ql (defScope st) f cdv A outer s H E).nox (defBody st) t ∧ t { nx := fun _ G => Q .non G, rt := Q } (start N vs) H) :
    RunA P w K mg A f fd ps sp := by
  intro base outer s H args us vs Q E kb nb env bt rv hp
  obtain ⟨oc, od, kV, doc, pm, an, cdv, ct, osl, rfl, look, code⟩ := T.ex
  have len := hl _ _ _ _ hp
  have inHeap : K.In s.heap := env.mod.kin.keeps fun a o z => (env.bs a o z).1
  have free : s.heap.NoLimit := env.mod.nolimit.keeps fun a o z => (env.bs a o z).1
  refine codeAny_call_function room.depth (inHeap _ _ look) rfl S.co S.gen rfl (PySem.W.codeRec_of inHeap code) (bt _ _ _ _ ?_)
  have kinds : ∀ y ∈ ps.zip us, (defScope st).names.lookup y.1 = some .local ∨ ((defScope st).names.lookup y.1 = some .cell ∧ ((cellsFrom (s.heap.objs.size + 1) (defScope st).names []).lookup y.1).isSome = true) := by
    rintro ⟨n, v⟩ hy
    cases S.par n (List.of_mem_zip hy).1 with
    | inl q => exact Or.inl q
    | inr q => exact Or.inr ⟨q, PySem.W.cellsFrom_some _ _ _ (Or.inl q)⟩
  refine wpAny_newFunctionEnv_cells S.kind kinds fun e2 he s1 into => ?_
  subst he
  obtain ⟨t, pt, q⟩ := body base cdv outer s H vs Q E kb nb (room.deeper _) hp
  refine ⟨free.keeps into.toInCall.keep, codeAny_func ?_⟩
  have I0 : Inv (cxOf CX0 P w K mg base N ql (defScope st) f cdv A outer s H E) [] (start N vs) H s1 := inv_start S room.hd env len rv into
  refine wpAny_mono (pt.nox.run [] s1 _ H _ I0 q) (fun flow s2 z => ?_) (fun _ _ z => z)
  match flow, z with
  | .ret u, ⟨v, σ2, H2, J, r2, z⟩ => exact ⟨v, H2, J.os, J.bare, J.base, J.hok, r2, z⟩
  | .next, ⟨σ2, H2, J, z⟩ => exact ⟨V.non, H2, J.os, J.bare, J.base, J.hok, rfl, z⟩
  | .brk, ⟨_, _, _, z⟩ => exact z.elim
  | .cont, ⟨_, _, _, z⟩ => exact z.elim
end
section
variable {P : Program} {w : World} {K : PySem.W.Frag} {mg mb : Str → Option Value} {fa a : Addr} {fd : FuncData} {x : Str} {sp : Sp} {s1 : Shared} {vs : List Value} {ns : List Int}
/-- what a law's call must give -/
abbrev LawEnd (s1 : Shared) : Result → Shared → Prop := fun r s' => r = .ok (.ret (.bool true)) ∧ OldK s1.heap s'.heap ∧ s'.os = s1.os ∧ AllBare s'.gens
/-- nothing but the script is tracked: H tells of it, or nothing -/
theorem law_from (KX : K.In s1.heap) (gl : s1.heap.Ns mainGlobals mg) (bl : s1.heap.Ns builtinsNs mb) (bb : ∀ x : Str, x ≠ "__name__" → mb x = bootBuiltins x) (lim : s1.heap.NoLimit) (g0 : s1.gens = #[])
    (isL : s1.heap.get? a = some { cls := .type "list", data := .seq vs.toArray }) (R : RunA P w K mg callerA fa fd [x] sp) (bind : ∀ (s : Shared) (u : Value), BindsTo s fd ⟨[u], []⟩ [(x, u)])
    {H : Hp} (only : Only H) (ok : HOk P w H s1.heap) (atA : ∀ b, H b ≠ none → b = a) (notK : H a ≠ none → K.lookup a = none) (h : sp [.ref a] H (fun v _ => v = .bl true) fun _ _ _ => False) :
    codeAny (model P w) callerA (.call (.ref fa) ⟨[.ref a], []⟩) (LawEnd s1) s1 := by
  have untr : ∀ {b : Addr}, b ≠ a → H b = none := fun {b} ne => by
    cases q : H b with
    | none => rfl
    | some u => exact absurd (atA b (by rw [q]; exact fun z => nomatch z)) ne
  have dictsOut : ∀ {b : Addr} {o : Obj} {es : Array DictEntry} {ep : Nat}, s1.heap.get? b = some o → o.data = .dict es ep → H b = none := fun {b o es ep} e d => untr fun z => by
    rw [z, isL] at e
    cases e
    exact nomatch d
  have ns_hid : ∀ {b : Addr} {m : Str → Option Value}, s1.heap.Ns b m → (hidT s1.heap H).Ns b m := by
    rintro b m ⟨o, es, ep, e, d, r⟩
    exact ⟨o, es, ep, hidT_get e (dictsOut e d), d, r⟩
  have kin : K.In (hidT s1.heap H) := fun b o e => hidT_get (KX b o e) (by
    by_cases z : b = a
    · cases q : H b with
      | none => rfl
      | some u =>
        rw [z, notK (by rw [← z, q]; exact fun z => nomatch z)] at e
        cases e
    · exact untr z)
  obtain ⟨mc, c1, c2⟩ := lim
  have env : Env0 P w K mg (hidT s1.heap H) callerA [] s1 H :=
    { frames := rfl, mod := ⟨kin, ns_hid gl, ⟨mb, ns_hid bl, bb⟩, ⟨mc, ns_hid c1, c2⟩⟩, bs := fun b o e => of_hidT e, bsz := Nat.le_of_eq (hidT_size _ _), funs := trivial, frf := fun b hb => (List.not_mem_nil hb).elim, hok := ok, bare := .of_eq g0 }
  refine codeAny_mono (R _ [] s1 H ⟨[.ref a], []⟩ [.ref a] [.ref a] _ _ kin (ns_hid gl) env (bind s1 (.ref a)) (.cons rfl .nil) h) fun r s2 z => ?_
  match r, z with
  | .error _, z => exact z.elim
  | .ok (.ret u), ⟨v, H2, os, bare, un, ok2, rv, q⟩ =>
    obtain rfl : v = V.bl true := q
    obtain rfl : u = Value.bool true := rv
    refine ⟨rfl, OldK.of_keep fun b o e => ?_, os, bare⟩
    cases only b with
    | inl n => exact un.keep b o e n (fun z => (List.not_mem_nil z).elim) (fun z => (List.not_mem_nil z).elim)
    | inr n =>
      obtain ⟨ob, xs, n⟩ := n
      have here := (ok b _ n).1
      have there := (ok2 b _ (un.frzs b ob _ n)).1
      rw [here] at e
      cases e
      exact there
  | .ok .next, z => exact z.elim
  | .ok .brk, z => exact z.elim
  | .ok .cont, z => exact z.elim
theorem law_callA (KX : K.In s1.heap) (gl : s1.heap.Ns mainGlobals mg) (bl : s1.heap.Ns builtinsNs mb) (bb : ∀ x : Str, x ≠ "__name__" → mb x = bootBuiltins x) (lim : s1.heap.NoLimit) (g0 : s1.gens = #[])
    (isL : s1.heap.get? a = some { cls := .type "list", data := .seq vs.toArray }) (hin : IntsAre vs ns) (few : ns.length ≤ sizeLine) (R : RunA P w K mg callerA fa fd [x] sp) (bind : ∀ (s : Shared) (u : Value), BindsTo s fd ⟨[u], []⟩ [(x, u)])
    (h : ∀ H : Hp, Only H → SqL K H a (ns.map V.int) → sp [.ref a] H (fun v _ => v = .bl true) fun _ _ _ => False) :
    codeAny (model P w) callerA (.call (.ref fa) ⟨[.ref a], []⟩) (LawEnd s1) s1 := by
  have rv := vals_ints hin
  cases hk : K.lookup a with
  | some o =>
    have e := KX a o hk
    rw [isL] at e
    cases e
    refine law_from KX gl bl bb lim g0 isL R bind (H := fun _ => none) (fun _ => Or.inl rfl) (fun b u z => nomatch z) (fun b z => absurd rfl z) (fun z => absurd rfl z) (h _ (fun _ => Or.inl rfl) (Or.inr ⟨_, vs.toArray, _, hk, rfl, rfl, rfl, ?_, ?_⟩))
    · rw [List.size_toArray, hin.length]
      exact few
    · simpa using rv
  | none =>
    have only : Only (fun b => if b = a then some (HO.frz { cls := .type "list", data := .seq vs.toArray } (.lst (ns.map V.int))) else none) := fun b => by
      by_cases z : b = a
      · exact Or.inr ⟨_, _, if_pos z⟩
      · exact Or.inl (if_neg z)
    refine law_from KX gl bl bb lim g0 isL R bind only (fun b u z => ?_) (fun b z => ?_) (fun _ => hk) (h _ only (Or.inl (Or.inr ⟨_, if_pos rfl⟩)))
    · by_cases q : b = a
      · rw [if_pos q] at z
        cases z
        subst q
        refine ⟨isL, ?_, vs, _, rv, isL⟩
        rw [List.length_map]
        exact few
      · rw [if_neg q] at z
        cases z
    · by_cases q : b = a
      · exact q
      · exact absurd (if_neg q) z
end
/-- THE END: a law by its run within the caller -/
theorem walkA {l : PySem.W.OpenLaw} {n : Nat} {q : Program} {loose : List Str} {XP : (Str → Option Value) → Heap → Prop} {YP : World → Heap → Prop} {d : DefRec} {K : Params → PySem.W.Frag} {sp : PySem.W.Frag → Sp} {x : Str}
    (hn : l.most = some n) (hn2 : n ≤ sizeLine) (hdf : d.params.defaults = []) (hY : ∀ (w : World) (h : Heap), YP w h → (K w.params).In h)
    (F : ∀ (w : World) (mg : Str → Option Value) (fa : Addr) (h : Heap), (K w.params).In h → h.Ns mainGlobals mg → mg d.name = some (.ref fa) →
      ∃ fd : FuncData, (∀ (s : Shared) (u : Value), BindsTo s fd ⟨[u], []⟩ [(x, u)]) ∧ RunA l.prog w (K w.params) mg callerA fa fd [x] (sp (K w.params)))
    (hsp : ∀ (K : PySem.W.Frag) (H : Hp) (a : Addr) (ns : List Int), ns.length ≤ n → Only H → SqL K H a (ns.map V.int) → sp K [.ref a] H (fun v _ => v = .bl true) fun _ _ _ => False) :
    PySem.W.WalkO q loose XP YP l.row.toRowW d [] (fun f vs => PySem.call f vs) := by
  refine Att.attach_call hn hdf fun w s0 s1 mg mb fa o pm cd doc a vs ns Gr Y ho hd hcd hmg hobj hints hlen hg => ?_
  obtain ⟨fd, hb, R⟩ := F w mg fa _ (hY w _ Y) Gr.T.g hmg
  exact law_callA (hY w _ Y) Gr.T.g Gr.T.b Gr.T.builtins Gr.T.nolimit hg hobj hints (Nat.le_trans hlen hn2) R hb fun H hO hS => hsp _ H a ns hlen hO hS
end G
/-! repr of what is tracked: None, bools, ints, texts, lists, tuples, dicts, nested. -/
namespace G
open PySem PySem.Spec PyProof.Rows L2
mutual
/-- v is the data d in H; no list of it stands where sys.modules does -/
inductive Da (K : PySem.W.Frag) (H : Hp) : V → PyData → Prop
  | non : Da K H .non .none
  | bl (b : Bool) : Da K H (.bl b) (.bool b)
  | int (i : Int) : Da K H (.int i) (.int i)
  | str (x : Str) : Da K H (.str x) (.str x)
  | lst {a : Addr} {xs : List V} {ds : List PyData} : a ≠ sysModules → SqL K H a xs → DaAll K H xs ds → Da K H (.ref a) (.list ds)
  | tup {a : Addr} {xs : List V} {ds : List PyData} : SqT K H a xs → DaAll K H xs ds → Da K H (.ref a) (.tuple ds)
  | dct {a : Addr} {kvs : List (Key × V)} {ds : List (PyData × PyData)} : H a = some (.dK kvs) → DaAll K H (kvs.map fun p => kV p.1) (ds.map (·.1)) → DaAll K H (kvs.map (·.2)) (ds.map (·.2)) → Da K H (.ref a) (.dict ds)
inductive DaAll (K : PySem.W.Frag) (H : Hp) : List V → List PyData → Prop
  | nil : DaAll K H [] []
  | cons {v : V} {vs : List V} {d : PyData} {ds : List PyData} : Da K H v d → DaAll K H vs ds → DaAll K H (v :: vs) (d :: ds)
end
mutual
theorem Da.same {K : PySem.W.Frag} {H G : Hp} (e : Same H G) : ∀ {v : V} {d : PyData}, Da K H v d → Da K G v d
  | _, _, .non => .non
  | _, _, .bl b => .bl b
  | _, _, .int i => .int i
  | _, _, .str x => .str x
  | _, _, .lst n s a => .lst n (e.seq s) (DaAll.same e a)
  | _, _, .tup s a => .tup (by
      rcases s with (s | ⟨o, s⟩) | s
      · exact .inl (.inl (e _ _ s))
      · exact .inl (.inr ⟨o, e _ _ s⟩)
      · exact .inr s) (DaAll.same e a)
  | _, _, .dct h a b => .dct (e _ _ h) (DaAll.same e a) (DaAll.same e b)
theorem DaAll.same {K : PySem.W.Frag} {H G : Hp} (e : Same H G) : ∀ {vs : List V} {ds : List PyData}, DaAll K H vs ds → DaAll K G vs ds
  | _, _, .nil => .nil
  | _, _, .cons h t => .cons (Da.same e h) (DaAll.same e t)
end
theorem keys_vals {κ : Type} {f : κ → V} {g : κ → Value → Bool} (hf : ∀ k u, g k u = true → RelV (f k) u) {prog : Program} {w : World} {knd : κ → Value → Bool} (hk : ∀ k u, knd k u = g k u) :
    ∀ {kvs : List (κ × V)} {vs : List (κ × Value)} {es : List DictEntry}, KV kvs vs → es.length = vs.length → (∀ (i : Nat) (e : DictEntry) (k : κ) (v : Value), es[i]? = some e → vs[i]? = some (k, v) → knd k e.key = true ∧ e.val = v) →
      Vals (kvs.map fun p => f p.1) (es.map (·.key)) ∧ Vals (kvs.map (·.2)) (es.map (·.val))
  | [], [], [], .nil, _, _ => ⟨.nil, .nil⟩
  | (k, x) :: kvs, (k', u) :: vs, e :: es, .cons ⟨ek, r⟩ t, l, h => by
    obtain rfl : k = k' := ek
    obtain ⟨h1, h2⟩ := h 0 e k u rfl rfl
    obtain ⟨i1, i2⟩ := keys_vals hf (prog := prog) (w := w) hk t (by simpa using l) fun i e' k' v' a b => h (i + 1) e' k' v' (by simpa using a) (by simpa using b)
    refine ⟨.cons (hf _ _ (by rw [← hk]; exact h1)) i1, .cons ?_ i2⟩
    show RelV x e.val
    rw [h2]
    exact r
section
variable {X : Cx} {pins : List (Addr × Obj)} {σ : L2.St} {H : Hp} {s : Shared}
theorem dict_vals (I : Inv X pins σ H s) {a : Addr} {kvs : List (Key × V)} (h : H a = some (.dK kvs)) :
    (a == sysModules) = false ∧ ∃ o es n, s.heap.get? a = some o ∧ o.cls = .type "dict" ∧ o.data = .dict es n ∧ Vals (kvs.map fun p => kV p.1) (es.toList.map (·.key)) ∧ Vals (kvs.map (·.2)) (es.toList.map (·.val)) := by
  obtain ⟨_, sm, vs, r, d⟩ := dk_of I.hok h
  obtain ⟨es, ep, ⟨o, ho, ex, hd⟩, hl, hall⟩ := Heap.DictOf.raw d
  refine ⟨sm, o, es, ep, ho, ex.1, hd, ?_⟩
  refine keys_vals (g := keyIs) (knd := keyIs) (prog := X.prog) (w := X.w) (fun k u e => ?_) (fun _ _ => rfl) r (by rw [Array.length_toList]; exact hl) fun i e k v h1 h2 => ?_
  · rcases keyIs_shape e with ⟨i, t, rfl, rfl⟩ | ⟨x, t, rfl, rfl⟩
    · exact ⟨t, rfl⟩
    · exact ⟨t, rfl⟩
  · rw [Array.getElem?_toList] at h1
    obtain ⟨hi, he⟩ := Array.getElem?_eq_some_iff.mp h1
    have q := hall i hi k v h2
    rw [he] at q
    exact q
mutual
theorem Da.reads (I : Inv X pins σ H s) : ∀ {v : V} {d : PyData} {u : Value}, Da X.K H v d → RelV v u → ∃ as, Reads s.heap u d as ∧ sysModules ∉ as
  | _, _, _, .non, r => by
    cases r
    exact ⟨_, .none, fun z => nomatch z⟩
  | _, _, _, .bl b, r => by
    cases r
    exact ⟨_, .bool b, fun z => nomatch z⟩
  | _, _, _, .int i, r => by
    obtain ⟨t, rfl⟩ := r
    exact ⟨_, .int i t, fun z => nomatch z⟩
  | _, _, _, .str x, r => by
    obtain ⟨t, rfl⟩ := r
    exact ⟨_, .str x t, fun z => nomatch z⟩
  | _, _, _, .lst ne q ha, r => by
    cases r
    obtain ⟨its, rv, ⟨o, n, ho, hc, _, hd⟩, _⟩ := I.list q
    obtain ⟨as, hr, hn⟩ := DaAll.reads I ha rv
    exact ⟨_, .list ho hc hd hr, fun z => by
      rcases List.mem_cons.mp z with z | z
      · exact ne z.symm
      · exact hn z⟩
  | _, _, _, .tup q ha, r => by
    cases r
    obtain ⟨its, rv, ⟨o, ho, hc, n, hd⟩, _⟩ := I.tuple q
    obtain ⟨as, hr, hn⟩ := DaAll.reads I ha rv
    exact ⟨_, .tuple ho hc hd hr, hn⟩
  | _, _, _, .dct q ha hb, r => by
    cases r
    obtain ⟨sm, o, es, n, ho, hc, hd, rk, rv⟩ := dict_vals I q
    obtain ⟨as, h1, n1⟩ := DaAll.reads I ha rk
    obtain ⟨bs, h2, n2⟩ := DaAll.reads I hb rv
    exact ⟨_, .dict ho hc hd h1 h2, fun z => by
      rcases List.mem_append.mp z with z | z
      · rcases List.mem_cons.mp z with z | z
        · rw [← z] at sm
          exact absurd sm (by decide)
        · exact n1 z
      · exact n2 z⟩
theorem DaAll.reads (I : Inv X pins σ H s) : ∀ {vs : List V} {ds : List PyData} {us : List Value}, DaAll X.K H vs ds → Vals vs us → ∃ as, ReadsAll s.heap us ds as ∧ sysModules ∉ as
  | _, _, _, .nil, r => by
    cases r
    exact ⟨_, .nil, fun z => nomatch z⟩
  | _, _, _, .cons h t, r => by
    cases r with
    | cons r1 r2 =>
      obtain ⟨as, h1, n1⟩ := Da.reads I h r1
      obtain ⟨bs, h2, n2⟩ := DaAll.reads I t r2
      exact ⟨_, .cons h1 h2, fun z => (List.mem_append.mp z).elim n1 n2⟩
end
end
section
variable {X : Cx}
def rRepr (K : PySem.W.Frag) : List V → Hp → VK → Prop := fun xs H Q => ∃ v d, xs = [v] ∧ Da K H v d ∧ d.showable = true ∧ d.depth ≤ 32 ∧ d.shown.length ≤ sizeLine ∧ Q (.str d.shown) H
theorem call_repr (hg : X.A.guards = some []) (hu : X.A.units + 64 < cLine) : CallR X (.builtin "repr") (rRepr X.K) := by
  rintro pins s σ H xs us Q I r ⟨v, d, rfl, hd, sh, dp, sz, q⟩
  cases r with
  | cons r1 r2 =>
    cases r2
    obtain ⟨as, hr, hn⟩ := Da.reads I hd r1
    cases hd with
    | non =>
      cases r1
      exact PySem.P.repr_of_none ⟨.str _, H, I.tok _, ⟨_, rfl⟩, q⟩
    | bl b =>
      cases r1
      exact PySem.P.repr_of_bool ⟨.str _, H, I.tok _, ⟨_, rfl⟩, q⟩
    | int i =>
      obtain ⟨t, rfl⟩ := r1
      exact PySem.P.repr_of_int (by simpa [PyData.showable] using sh) ⟨.str _, H, I.tok _, ⟨_, rfl⟩, q⟩
    | str x =>
      obtain ⟨t, rfl⟩ := r1
      exact PySem.P.repr_of_str ⟨.str _, H, I.tok _, ⟨_, rfl⟩, q⟩ (by simpa only [PyData.shown] using sz)
    | lst ne a b =>
      cases r1
      exact repr_of_reads' hr sh (fun _ => hn) hg (by omega) (fun _ _ e => e) (fun h' u tk k => ⟨.str _, H, I.kept (t' := tk) k, ⟨_, rfl⟩, q⟩) sz
    | tup a b =>
      cases r1
      exact repr_of_reads' hr sh (fun _ => hn) hg (by omega) (fun _ _ e => e) (fun h' u tk k => ⟨.str _, H, I.kept (t' := tk) k, ⟨_, rfl⟩, q⟩) sz
    | dct a b c =>
      cases r1
      exact repr_of_reads' hr sh (fun _ => hn) hg (by omega) (fun _ _ e => e) (fun h' u tk k => ⟨.str _, H, I.kept (t' := tk) k, ⟨_, rfl⟩, q⟩) sz
/-- [a, b, ..]: a new list, not at the place of sys.modules -/
def tLstS (t : TA) : TE := fun σ H Q => t σ H fun xs H1 => xs.length ≤ sizeLine ∧ ∀ p, H1 p = none → p ≠ sysModules → Q (.ref p) (upd H1 p (.lst xs))
theorem pe_lstS {es : List Expr} {t : TA} {pos : Pos} (h : PA X es t) : PE X (.List es pos) (tLstS t) := by
  constructor
  intro pins s σ H Q I hq
  refine wpAny_List_spliced (wpAny_mono (h.run pos pins s σ H _ I hq) (fun us s1 z => ?_) fun _ _ z => z)
  obtain ⟨xs, H1, J, r, few, q⟩ := z
  have new : H1 s1.heap.objs.size = none := J.hok.fresh (Nat.le_refl _)
  refine ⟨by rw [← r.length]; exact few, .ref s1.heap.objs.size, upd H1 s1.heap.objs.size (.lst xs), J.laid (o := .lst xs) (t' := s1.toks) (fun b u e => Heap.get?_push_of_some _ e) (Nat.le_refl _) ⟨few, us, 0, r, Heap.get?_push_size _ rfl⟩, rfl, q _ new (Nat.ne_of_gt J.big)⟩
end
end G
/-! Own exceptions as plain values: made by a call, their fields read, asked by isinstance; any built-in base. -/
namespace G
open PySem PySem.Spec PyProof.Rows L2
open PySem.W (Frag)
/-- the base T (its mro) of an own exception class at C; its __init__ at fI -/
structure ExK (K : Frag) (C fI : Addr) (T : List Value) : Prop where
  base : ∃ B newId initId, ExcBaseFacts B newId initId T ∧ StoreFacts B T "object.__setattr__" "object" ∧ PySem.W.excInitIn K C T newId = true
  over : PySem.W.excOver K C T = true
  sa : PySem.W.findIn K (.ref C) "__setattr__" = some (some (.builtin "object.__setattr__"))
  ga : PySem.W.findIn K (.ref C) "__getattribute__" = some (some (.builtin "BaseException.__getattribute__"))
  gg : PySem.W.findIn K (.ref C) "__getattr__" = some none
  exC : PySem.W.subIn K (.ref C) (.type "BaseException") = some true
  hd : PySem.W.hasDictIn K C = true
  kp : PySem.W.keepIn K (.ref C) = true
  iC : PySem.W.findIn K (.ref C) "__init__" = some (some (.ref fI))
  iF : PySem.W.isFn K (.ref fI) = true
  cl : PySem.W.findIn K (.ref C) "__class__" = some (some (.builtin "object.__class__"))
  ob : PySem.W.mroIn K C (.type "object") = some true
/-- the library's own descriptors, the same for all classes -/
structure ExD (K : Frag) : Prop where
  hn : PySem.W.specialIn K (.builtin "object.__class__") "__get__" = some (some (.builtin "getset_descriptor.__get__"))
  ht : PySem.W.takesIn K (.builtin "object.__class__") = some true
section
variable {X : Cx} {pins : List (Addr × Obj)} {σ : L2.St} {H : Hp} {s : Shared} {a C fI dx : Addr} {T : List Value} {f : Str} {y : V} {u : Value} {fs : List (Str × V)} {E : Value → Shared → Prop} {A : Around}
/-- what is written at a and (new) at dx -/
theorem inv_two {o : HO} {t' : Nat} {g : HO} {h' : Heap} (I : Inv X pins σ H s) (e : H a = some o) (o1 : ∀ x, o ≠ .own x) (o2 : ∀ xs, o ≠ .tup xs) (o3 : ∀ b v, o ≠ .frz b v) (o4 : ∀ ps, o ≠ .tbl ps) (new : s.heap.objs.size ≤ dx)
    (k : ∀ b u, b ≠ a → s.heap.get? b = some u → h'.get? b = some u) (there : ∃ u, h'.get? a = some u) {oa : HO} (okA : ObjOk X.prog X.w (upd (upd H dx g) a oa) h' a oa) (okD : ObjOk X.prog X.w (upd (upd H dx g) a oa) h' dx g) :
    Inv X pins σ (upd (upd H dx g) a oa) { s with heap := h', toks := t' } := by
  have free : H dx = none := I.hok.fresh new
  have old : ∀ {b : Addr} {w : Obj}, s.heap.get? b = some w → b ≠ dx := fun z => Nat.ne_of_lt (Nat.lt_of_lt_of_le (Heap.lt_size z) new)
  have notA : ∀ {b : Addr}, H b = none → b ≠ a := fun {b} n z => by
    rw [z, e] at n
    exact nomatch n
  have keepO : ∀ {b : Addr} {w : HO}, H b = some w → o ≠ w → upd (upd H dx g) a oa b = some w := fun {b w} z n => by
    rw [upd_ne (at_ne e z n), upd_ne (ne_of_none z free)]
    exact z
  refine I.un (t' := t') ⟨fun b w z n _ _ => k b w (notA n) z, fun b w z n _ _ => ⟨w.slots, k b w (notA n) z⟩, fun b w z n _ => ?_, fun b w z _ => ?_, fun b xs z => keepO z (o2 xs), fun b w v z => keepO z (o3 w v), fun b ps z => ⟨#[], ?_⟩⟩ fun b w z => ?_
  · rw [upd_ne (notA n), upd_ne (old z)]
    exact n
  · by_cases q : b = a
    · rw [q]
      exact there
    · exact ⟨w, k b w q z⟩
  · rw [keepO z (o4 ps), Array.append_empty]
  · by_cases q : b = a
    · subst q
      rw [upd_same] at z
      cases z
      exact okA
    · rw [upd_ne q] at z
      by_cases r : b = dx
      · subst r
        rw [upd_same] at z
        cases z
        exact okD
      · rw [upd_ne r] at z
        exact (I.hok b w z).stay (fun c v hc l => k c v (by
            cases hc with
            | inl hc => rw [hc]; exact q
            | inr hc => exact at_ne e hc (o1 _)) l) (fun c hc => keepO hc (o1 _)) fun c xs hc => keepO hc (o2 xs)
/-- the first field of an exception -/
theorem set_first (R : ExK X.K C fI T) (I : Inv X pins σ H s) (e : H a = some (exo a C none)) (tk : PySem.W.takerIn X.K C f = some none) (ry : RelV y u) {Q : Unit → Shared → Prop}
    (h : ∀ d s', H d = none → d ≠ a → Inv X pins σ (upd (upd H d (exd d [(f, y)])) a (exo a C (some d))) s' → Q () s') : wpAny (model X.prog X.w) A (setAttr (.ref a) f u) Q E s := by
  obtain ⟨t1, ho⟩ := exo_at I.hok e
  obtain ⟨B, newId, initId, F, SF, _⟩ := R.base
  obtain ⟨cd, hc, hdc⟩ := PySem.W.any_some R.hd
  have I0 := I
  obtain ⟨hp, g, d, t, os⟩ := s
  have lt : a < hp.objs.size := Heap.lt_size ho
  refine PySem.W.set_plain I.kIn (od := none) ⟨ho, rfl, rfl, trivial⟩ R.sa (PySem.W.osa_openX (s := ⟨hp, g, d, t + 1, os⟩) (od := none) SF I.kIn ⟨ho, rfl, rfl, trivial⟩ R.over tk fun b => ?_)
  refine wpAny_bind (wpAny_pure (wpAny_bind (PySem.W.instanceDict_exc (c2 := .none) ho (PySem.W.looks_clsIn I.kIn hc) hdc ?_)))
  have he : hp.objs.size ≠ a := Nat.ne_of_gt lt
  refine HandSPX.store_in_new (hp := (hp.push (PySem.W.dictOf [] 0)).update a fun o => { o with dict := some hp.objs.size }) ⟨PySem.W.dictOf [] 0, #[], 0, ?_, rfl, fun e he => absurd he (by simp), fun _ => rfl⟩ fun h' tk' hn' hs => ?_
  · rw [Heap.get?_update_ne _ _ _ _ he]
    exact Heap.get?_push_at rfl rfl
  · have at1 : (hp.push (PySem.W.dictOf [] 0)).get? a = some _ := Heap.get?_push_of_some _ ho
    have hx := (hs.2 a he.symm).trans (Heap.get?_update_self _ at1 rfl)
    refine h hp.objs.size _ (I0.hok.fresh (Nat.le_refl _)) he (inv_two (t' := tk') I0 e (fun _ => exo_own) (fun _ => exo_tup) (fun _ _ => exo_frz) (fun _ => exo_tbl) (Nat.le_refl _) (fun b w hb q => ?_) ⟨_, hx⟩ (exo_ok hx) (exd_ok hn' (relO_put (fs := []) ry fun _ => True.intro)))
    exact (hs.2 b (Nat.ne_of_lt (Heap.lt_size q))).trans ((Heap.get?_update_ne _ _ _ _ hb).trans (Heap.get?_push_of_some _ q))
/-- a further field -/
theorem set_more (R : ExK X.K C fI T) (I : Inv X pins σ H s) (e : H a = some (exo a C (some dx))) (ed : H dx = some (exd dx fs)) (few : fs.length ≤ 900) (tk : PySem.W.takerIn X.K C f = some none) (ry : RelV y u) {Q : Unit → Shared → Prop}
    (h : ∀ s', Inv X pins σ (upd H dx (exd dx ((f, y) :: fs))) s' → Q () s') : wpAny (model X.prog X.w) A (setAttr (.ref a) f u) Q E s := by
  obtain ⟨t1, ho⟩ := exo_at I.hok e
  obtain ⟨mA, hns, rel⟩ := exd_at I.hok ed
  obtain ⟨B, newId, initId, F, SF, _⟩ := R.base
  obtain ⟨cd, hc, hdc⟩ := PySem.W.any_some R.hd
  have wi := within_of rel
  obtain ⟨oD, _, _, hoD, _, _⟩ := hns.count wi
  have I0 := I
  obtain ⟨hp, g, d, t, os⟩ := s
  refine PySem.W.set_plain I.kIn (od := some oD) ⟨ho, rfl, rfl, hoD⟩ R.sa (PySem.W.osa_openX (s := ⟨hp, g, d, t + 1, os⟩) (od := some oD) SF I.kIn ⟨ho, rfl, rfl, hoD⟩ R.over tk fun b => ?_)
  refine wpAny_bind (wpAny_pure (wpAny_bind (wpAny_bind (wpAny_loadPart ho (wpAny_bind ((PySem.W.looks_clsIn I.kIn hc).at ?_))))))
  rw [hdc]
  refine wpAny_pure (a := some dx) ?_
  refine OEX.store_in_old hns wi (by rw [List.length_map]; omega) fun h' tk' hn' hs => ?_
  obtain ⟨o2, es, ep, here, r⟩ := id hn'
  exact h _ (I0.write (t' := tk') (x := dx) (e := dx) (o := exd dx ((f, y) :: fs)) (by rw [ed]; exact True.intro) (.inl rfl) (fun b w hb q => (hs.2 b hb).trans q) ⟨_, here⟩ (exd_ok hn' (relO_put ry rel)))
end
/-- self.f = e, on an exception that is being made -/
def tSet (K : Frag) (f : Str) (to te : TE) : TS := fun D σ H => te σ H fun y H1 => to σ H1 fun x H2 => ∃ (a C fI : Addr) (T : List Value), x = .ref a ∧ ExK K C fI T ∧ PySem.W.takerIn K C f = some none ∧
  ((H2 a = some (exo a C none) ∧ ∀ d, H2 d = none → d ≠ a → D.nx σ (upd (upd H2 d (exd d [(f, y)])) a (exo a C (some d)))) ∨
    ∃ (d : Addr) (fs : List (Str × V)), H2 a = some (exo a C (some d)) ∧ H2 d = some (exd d fs) ∧ fs.length ≤ 900 ∧ D.nx σ (upd H2 d (exd d ((f, y) :: fs))))
/-- C(..) of an exception class, whose __init__ keeps sp -/
def tMk (C : Addr) (sp : Sp) (ta : TA) : TE := fun σ H Q => ta σ H fun vs H1 => vs.length ≤ 1000 ∧ ∀ a, H1 a = none → sp (.ref a :: vs) (upd H1 a (exo a C none)) (fun v H2 => v = .non ∧ Q (.ref a) H2) (fun _ _ _ => False)
/-- e.f of an exception -/
def tGet (K : Frag) (f : Str) (te : TE) : TE := fun σ H Q => te σ H fun x H1 => ∃ (a C fI d : Addr) (T : List Value) (fs : List (Str × V)) (v : V) (at_ : Option Value), x = .ref a ∧ ExK K C fI T ∧ H1 a = some (exo a C (some d)) ∧ H1 d = some (exd d fs) ∧
  PySem.W.findIn K (.ref C) f = some at_ ∧ PySem.W.noGet K at_ = true ∧ fs.lookup f = some v ∧ Q v H1
section
variable {X : Cx} {o e : Expr} {es : List Expr} {to te : TE} {ta : TA} {f x : Str} {p p' pos : Pos}
theorem ps_set_ex (ho : PE X o to) (he : PE X e te) (hs : swapsWith e (some (.Attribute o f p')) pos.line X.env = pure false := by rfl) : PS X (.Assign [.Attribute o f p'] e pos) (tSet X.K f to te) := by
  constructor
  intro pins s σ H D I h
  refine plainObj_wpAny_Assign_Attribute (wpAny_mono (he.run pins s σ H _ I h) (fun v s1 z => ?_) fun _ _ z => z) hs
  obtain ⟨y, H1, I1, r1, q1⟩ := z
  refine wpAny_mono (ho.run pins s1 σ H1 _ I1 q1) (fun u s2 z => ?_) fun _ _ z => z
  obtain ⟨x, H2, I2, r2, a, C, fI, T, rfl, R, tk, q⟩ := z
  cases r2
  cases q with
  | inl q => exact set_first R I2 q.1 tk r1 fun d s' n ne J => ⟨σ, _, J, q.2 d n ne⟩
  | inr q =>
    obtain ⟨d, fs, e1, e2, few, q⟩ := q
    exact set_more R I2 e1 e2 few tk r1 fun s' J => ⟨σ, _, J, q⟩
theorem pe_get_ex (he : PE X e te) (hb : attributeBase e f X.env (eval e X.env) = eval e X.env := by rfl) : PE X (.Attribute e f pos) (tGet X.K f te) := by
  constructor
  intro pins s σ H Q I h
  refine attr_of hb (wpAny_mono (he.run pins s σ H _ I h) (fun u s1 z => ?_) fun _ _ z => z)
  obtain ⟨x, H1, I1, rx, a, C, fI, d, T, fs, v, at_, rfl, R, e1, e2, fa, ng, l, q⟩ := z
  cases rx
  obtain ⟨t1, ho⟩ := exo_at I1.hok e1
  obtain ⟨mA, hns, rel⟩ := exd_at I1.hok e2
  obtain ⟨od, hod, hl⟩ := lookIn_ns hns
  obtain ⟨u, hu, ru⟩ := RelO.some_of (v := v) (o := mA f) (by rw [← l]; exact rel f)
  have J : PySem.W.InstAt s1.heap a _ C (some od) := ⟨ho, rfl, rfl, hod⟩
  exact HandSPX.exc_get I1.kIn J R.ga R.gg R.exC (PySem.W.findObj_own R.hd fa ng (by rw [hl, hu])) (handed_of ru) ⟨v, H1, I1.tok _, ru, q⟩
theorem pe_mk_ex {k : Nat} {C fI : Addr} {T : List Value} {fd : FuncData} {ps : List Str} {sp : Sp} (R : ExK X.K C fI T) (F1 : FnOk X.prog X.w X.K X.mg X.base CX0 k fI fd ps sp) (hr : Room (k + 1) X.A) (hb : Binds X.K fd ps []) (hg : Gl X x) (hm : X.mg x = some (.ref C)) (ha : PA X (e :: es) ta)
    (hdb : (x == ("__debug__" : Str)) = false := by decide) (he : starEach (e :: es) X.env = (false, eval e X.env) :: starEach es X.env := by rfl) (hpl : (backTo pos (starEach es X.env)).any (·.1) = false := by rfl) :
    PE X (.Call (.Name x p) (e :: es) [] pos) (tMk C sp ta) := by
  constructor
  intro pins s σ H Q I h
  obtain ⟨B, newId, initId, F, SF, q0⟩ := R.base
  refine wpAny_Call_Name_kw (ld_glob I hg hm ?_ hdb)
  refine PySem.W.callWith_K (h₀ := X.base) I.ok.mod.kin R.kp (wpAny_mono (ha.run pos pins s σ H _ I h) (fun us s1 z => ?_) fun _ _ z => z) he hpl
  obtain ⟨vs, H1, I1, r1, few, q1⟩ := z
  refine ⟨I1.kIn, ?_⟩
  obtain ⟨nm, N', qn, bs, bm, hdct, sn, sub, ab, col, dd, k0, k1, k2, k3, k5, hC, hT⟩ := PySem.W.excInit_of I1.kIn q0
  obtain ⟨oI, hoI, hcI⟩ := Option.map_eq_some_iff.mp (show (X.K.lookup fI).map (·.cls) = some (.type "function") from beq_iff_eq.mp R.iF)
  have look := PySem.W.looks_findIn (M := model X.prog X.w) I1.kIn R.iC
  have bnd := fun self => PySem.W.exc_bind (M := model X.prog X.w) (I1.kIn _ _ hoI) hcI self
  obtain ⟨hp, g, dr, tk, os⟩ := s1
  have new : H1 (hp.objs.size + 1) = none := I1.hok.fresh (Nat.le_succ _)
  have q2 := q1 _ new
  have I2 : Inv X pins σ (upd H1 (hp.objs.size + 1) (exo (hp.objs.size + 1) C none)) ⟨(hp.push (PySem.W.kdv_tup us)).push (PX.excO C hp.objs.size), g, dr, tk, os⟩ :=
    I1.laid (t' := tk) (o := exo (hp.objs.size + 1) C none) (h' := (hp.push (PySem.W.kdv_tup us)).push (PX.excO C hp.objs.size)) (fun b w q => Heap.get?_push_of_some _ (Heap.get?_push_of_some _ q)) (Nat.le_succ _) (exo_ok (t1 := hp.objs.size) (by heap_get))
  have r2 : Vals (V.ref (hp.objs.size + 1) :: vs) (Value.ref (hp.objs.size + 1) :: us) := .cons rfl r1
  have len : (Value.ref (hp.objs.size + 1) :: us).length = ps.length := by
    rw [← r2.length]
    exact F1.len _ _ _ _ q2
  have size : us.length ≤ sizeLine := by
    rw [← r1.length, sizeLine_eq]
    omega
  have hbd := hb ⟨(hp.push (PySem.W.kdv_tup us)).push (PX.excO C hp.objs.size), g, dr, tk, os⟩ (Value.ref (hp.objs.size + 1) :: us) I2.kIn (by simpa using len)
  rw [List.append_nil] at hbd
  refine wpAny_call (PX.call_own F hT hC look bnd size (codeAny_mono (F1.run _ X.stack _ _ ⟨Value.ref (hp.objs.size + 1) :: us, []⟩ (Value.ref (hp.objs.size + 1) :: us) _ _ (fun _ _ _ => False) (hr.make C us []) (I2.env0.make C us []) hbd r2 q2) fun r s2 z => ?_))
  match r, z with
  | .error _, z => exact z.elim
  | .ok (.ret u), ⟨v, H2, os2, bare, un, ok2, rv, ev, q3⟩ =>
    subst ev
    exact ⟨rv, .ref (hp.objs.size + 1), H2, I2.call' (ch := []) os2 un ok2 bare (fun b z => (List.not_mem_nil z).elim), rfl, q3⟩
  | .ok .next, z => exact z.elim
  | .ok .brk, z => exact z.elim
  | .ok .cont, z => exact z.elim
end
end G
/-! isinstance of an exception that has its dict. -/
namespace G
open PySem PySem.Spec PySem.Calls PyProof.Rows L2
open PySem.W (Frag)
section
variable {prog : Program} {w : World} {A : Around} {E : Value → Shared → Prop} {s : Shared} {K : Frag} {a C fI : Addr} {T : List Value} {ox : Obj} {od : Option Obj}
theorem find_class (R : ExK K C fI T) (D : ExD K) : PySem.W.findObj K C od "__class__" = some (.bind (.builtin "getset_descriptor.__get__") (.builtin "object.__class__")) := by
  obtain ⟨cd, hc, _⟩ := PySem.W.any_some R.hd
  simp only [PySem.W.findObj, hc, Option.bind_some, R.cl, D.hn, D.ht]
theorem ask_class (R : ExK K C fI T) (D : ExD K) (kin : K.In s.heap) (I : PySem.W.InstAt s.heap a ox C od) {Q : Option Value → Shared → Prop} (h : Q (some (.ref C)) { s with toks := s.toks + 1 }) :
    wpAny (model prog w) A (getAttr? (.ref a) "__class__") Q E s := by
  obtain ⟨hp, g, d, t, os⟩ := s
  have ty := I.type (M := model prog w)
  have l1 := PySem.W.looks_findIn (M := model prog w) kin R.ga
  have l2 := PySem.W.looks_findIn (M := model prog w) kin R.gg
  have l3 := PySem.W.looks_find (M := model prog w) kin I (find_class (od := od) R D)
  have isB : PySem.W.Looks (model prog w) hp (isInstance (.ref a) (.type "BaseException")) true := ty.andThen (PySem.W.looks_subIn kin R.exC)
  have other : (Value.builtin "BaseException.__getattribute__" == Value.builtin "object.__getattribute__") = false := by decide +kernel
  have c1 : (onTheHeap (Value.ref C) && Value.builtin "BaseException.__getattribute__" == Value.builtin "object.__getattribute__") = false := by rw [other, Bool.and_false]
  unfold getAttr? getAttrBy? getAttrBy
  refine wpAny_bind (wpAny_mkText (wpAny_bind (wpAny_attempt (wpAny_holding (wpAny_bind (ty.at (wpAny_bind (l1.at ?_))))))))
  show wpAny _ _ (if (onTheHeap (Value.ref C) && Value.builtin "BaseException.__getattribute__" == Value.builtin "object.__getattribute__") = true then _ else _) _ _ _
  rw [if_neg (by rw [c1]; exact Bool.false_ne_true)]
  unfold getAttrByItsOwn hookBefore
  refine wpAny_bind ?_
  rw [if_pos (show onTheHeap (Value.ref C) = true from rfl)]
  refine l2.at (wpAny_bind (wpAny_attempt (wpAny_holding ?_)))
  unfold callGetattribute
  rw [if_neg (show ¬ (false && onTheHeap (Value.builtin "BaseException.__getattribute__")) = true from Bool.false_ne_true)]
  unfold boundAndCalled
  rw [PySem.F.excAttr_ValueError.ga.bind (.ref a)]
  refine wpAny_bind (wpAny_pure ?_)
  show wpAny _ _ (call (.builtin "BaseException.__getattribute__") [.ref a, .str "__class__" t]) _ _ _
  refine wpAny_call (codeAny_call_builtin PySem.F.excAttr_ValueError.ga.plain PySem.F.entry_bexc_ga (@PySem.W.check_slot (model prog w) _ _ ⟨hp, g, d, t + 1, os⟩ "BaseException.__getattribute__" "BaseException" "__getattribute__" (.ref a) [.str "__class__" t] [] _
    (by decide +kernel) (by decide +kernel) isB (PySem.F.args_bexc_ga (.ref a) (.str "__class__" t)) ?_))
  unfold Builtin.«object.__getattribute__»
  refine wpAny_bind (wpAny_of_eq (a := ((Value.ref a : Value), [Value.str "__class__" t])) (by first | rfl | (simp only [slotArgs]; rfl)) ?_)
  refine wpAny_bind (wpAny_pure (wpAny_bind (ty.at (wpAny_bind (l3.at ?_)))))
  show wpAny _ _ (holding [Value.builtin "object.__class__"] (call (.builtin "getset_descriptor.__get__") [.builtin "object.__class__", .ref a, .ref C]) >>= ret) _ _ _
  refine wpAny_bind (wpAny_holding (wpAny_call (PySem.W.class_get (s := ⟨hp, g, d, t + 1, os⟩) (ox := ox) (od := od) kin I R.ob (wpAny_pure ?_))))
  show wpAny _ _ (handedOut (.ref C)) _ _ _
  rw [PySem.W.handedOut_of (v := .ref C) rfl]
  first
    | exact wpAny_pure (wpAny_pure h)
    | exact wpAny_pure h
    | exact wpAny_pure (wpAny_bind (wpAny_pure (wpAny_pure h)))
theorem kit_ex (R : ExK K C fI T) (D : ExD K) : PySem.W.KitX K (.ref a) (.ref C) (fun h => PySem.W.InstAt h a ox C od) := by
  obtain ⟨cd, hc, _⟩ := PySem.W.any_some R.hd
  obtain ⟨c', d', sl', ho⟩ : ∃ c' d' sl', K.lookup C = some ⟨c', d', .cls cd, sl'⟩ := by
    unfold PySem.W.clsIn at hc
    split at hc
    · rename_i c' d' cd' sl' ho
      cases hc
      exact ⟨_, _, _, ho⟩
    · cases hc
  refine ⟨fun _ _ _ I => I.type, fun M h kin _ => ?_, fun h tp dd its n sl kin here => ?_, fun kin I q => ask_class R D kin I q⟩
  · intro A' Q' E' s' k q
    unfold isType loadHead
    exact wpAny_bind (wpAny_loadPart (k _ _ (kin _ _ ho)) (wpAny_pure q))
  · refine Bool.eq_false_iff.mpr fun q => ?_
    have e : C = tp := Value.ref.inj (beq_iff_eq.mp q)
    rw [← e, kin _ _ ho] at here
    cases here
end
/-- at a: an exception of the class at C, with or without a dict -/
def ExAt (H : Hp) (a C : Addr) : Prop := H a = some (exo a C none) ∨ ∃ (d : Addr) (fs : List (Str × V)), H a = some (exo a C (some d)) ∧ H d = some (exd d fs)
section
variable {X : Cx}
/-- isinstance(e, c), e an exception with its dict; c one class, or a tuple of classes just laid -/
def rIsx (K : Frag) : List V → Hp → VK → Prop := fun xs H Q => ∃ (a C fI : Addr) (T : List Value) (c : V) (u : Value) (b : Bool), xs = [.ref a, c] ∧ ExK K C fI T ∧ ExD K ∧ ExAt H a C ∧ ClsV c u ∧ PySem.W.kitOne K (.ref C) u = some b ∧ Q (.bl b) H
def rIsxT (K : Frag) : List V → Hp → VK → Prop := fun xs H Q => ∃ (a C fI tp : Addr) (T : List Value) (cs : List V) (us : List Value) (b : Bool), xs = [.ref a, .ref tp] ∧ ExK K C fI T ∧ ExD K ∧ ExAt H a C ∧
  H tp = some (.tup cs) ∧ Paired ClsV cs us ∧ PySem.W.kitAny K (.ref C) us = some b ∧ Q (.bl b) H
theorem inst_of {pins : List (Addr × Obj)} {σ : L2.St} {H : Hp} {s : Shared} {a C : Addr} (I : Inv X pins σ H s) (e : ExAt H a C) : ∃ ox od, PySem.W.InstAt s.heap a ox C od := by
  rcases e with e1 | ⟨d, fs, e1, e2⟩
  · obtain ⟨t1, ho⟩ := exo_at I.hok e1
    exact ⟨_, none, ho, rfl, rfl, trivial⟩
  obtain ⟨t1, ho⟩ := exo_at I.hok e1
  obtain ⟨mA, hns, _⟩ := exd_at I.hok e2
  obtain ⟨od, hod, _⟩ := lookIn_ns hns
  exact ⟨_, some od, ho, rfl, rfl, hod⟩
theorem call_isx : CallR X (.builtin "isinstance") (rIsx X.K) := by
  rintro pins s σ H xs us Q I r ⟨a, C, fI, T, c, u, b, rfl, R, D, e1, k, kit, q⟩
  obtain ⟨u1, u2, rfl, r1, r2⟩ := vals2 r
  cases r1
  obtain rfl := k.eq r2
  obtain ⟨ox, od, J⟩ := inst_of I e1
  exact PySem.W.kia_one (kit_ex R D) I.kIn J kit (fun z => nomatch z) fun tk => ⟨.bl b, H, I.tok tk, rfl, q⟩
theorem call_isxT : CallR X (.builtin "isinstance") (rIsxT X.K) := by
  rintro pins s σ H xs us Q I r ⟨a, C, fI, tp, T, cs, ws, b, rfl, R, D, e1, et, k, kit, q⟩
  obtain ⟨u1, u2, rfl, r1, r2⟩ := vals2 r
  cases r1
  cases r2
  obtain ⟨ox, od, J⟩ := inst_of I e1
  obtain ⟨_, its, rv, o, h1, h2, n, h3⟩ := (show ObjOk X.prog X.w H s.heap tp (.tup cs) from I.hok tp _ et)
  obtain rfl := ClsV.all k rv
  obtain ⟨oc, od', dt, sl⟩ := o
  dsimp only at h2 h3
  subst h2 h3
  exact PySem.W.kia_tup (kit_ex R D) I.kIn J h1 kit (fun z => nomatch z) fun tk => ⟨.bl b, H, I.tok tk, rfl, q⟩
end
end G
/-! C(k = v, ..) of an own exception class. -/
namespace G
open PySem PySem.Spec PySem.Calls L2
open PySem.W (Frag)
section
variable {prog : Program} {w : World} {A : Around} {E : Value → Shared → Prop} {R : Result → Shared → Prop} {h : Heap} {g : Array GenState} {d : Drawn} {t : Nat} {os : OsState}
variable {nm q : Str} {C N : Addr} {bs bm bmB : List Value} {hdct : Bool} {sn : List Str} {sub : List Value} {ab : Bool} {col : Option Bool} {dd : Option Addr} {k0 k1 k2 k3 k5 : Option Value} {B newId initId : String}
theorem checked_new (F : ExcBaseFacts B newId initId bmB) (same : ∀ X : String, bm.contains (.type X) = bmB.contains (.type X)) {us : List Value} {kw : List (Str × Value)} {Q : Unit → Shared → Prop}
    (at_ : h.get? C = some (excClassObj nm q C N bs bm hdct sn sub ab col dd k0 k1 k2 k3 k5 newId)) (z : Q () ⟨h, g, d, t, os⟩) : wpAny (model prog w) A (checkBuiltinCall newId ⟨.ref C :: us, kw⟩) Q E ⟨h, g, d, t, os⟩ := by
  have isB : (Value.ref C :: bm).contains (.type B) = true := by rw [List.contains_cons, same, F.hasB, Bool.or_true]
  have nostar := F.noStar
  simp only [checkBuiltinCall, F.newKind, F.newSplit, F.newRow]
  repeat (first | refine wpAny_loadPart_at at_ ?_ | (refine wpAny_isSubtype_exc at_ ?_; rw [isB]) | refine wpAny_staticBase_exc at_ ?_ | refine wpAny_madeBy_exc at_ ?_ | simp only [bne_self_eq_false, Bool.false_eq_true, if_false] | wp_step)
  exact z
theorem ran_new (F : ExcBaseFacts B newId initId bmB) (same : ∀ X : String, bm.contains (.type X) = bmB.contains (.type X)) {us : List Value} {kw : List (Str × Value)}
    (at_ : h.get? C = some (excClassObj nm q C N bs bm hdct sn sub ab col dd k0 k1 k2 k3 k5 newId)) (few : us.length ≤ sizeLine)
    (z : R (.ok (.ret (.ref (h.objs.size + 1)))) ⟨(h.push (PySem.W.kdv_tup us)).push (PX.excO C h.objs.size), g, d, t, os⟩) : codeAny (model prog w) A (.builtin newId ⟨.ref C :: us, kw⟩) R ⟨h, g, d, t, os⟩ := by
  have ends := F.ends
  have is1 : (Value.ref C :: bm).contains (.type B) = true := by rw [List.contains_cons, same, F.hasB, Bool.or_true]
  have is2 : (Value.ref C :: bm).contains (.type "AttributeError") = false := by rw [List.contains_cons, same, F.noAttr, Bool.or_false]; rfl
  have is3 : (Value.ref C :: bm).contains (.type "NameError") = false := by rw [List.contains_cons, same, F.noName, Bool.or_false]; rfl
  refine codeAny_builtinAt F.entry ?_
  unfold Builtin.«BaseException.__new__»
  refine wpAt_bind ?_
  show wpAt _ _ _ (stack >>= _) _ _ _
  refine wpAt_bind (wpAt_stack fun _ _ => wpAt_of_wpAny ?_)
  wp_walk
  refine wpAt_of_wpAny ?_
  rw [F.owner]
  repeat (first | with_reducible refine wpAny_madeHere_exc F.canon at_ ?_ | with_reducible refine wpAny_loadPart_at at_ ?_ | (with_reducible refine wpAny_isSubtype_exc at_ ?_; first | rw [is1] | rw [is2] | rw [is3]) | wp_step)
  show R _ _
  rw [Heap.size_push]
  exact z
theorem ran_type (F : ExcBaseFacts B newId initId bmB) (same : ∀ X : String, bm.contains (.type X) = bmB.contains (.type X)) {us : List Value} {kw : List (Str × Value)} {fI : Addr} {Q : Fin → Shared → Prop}
    (at_ : h.get? C = some (excClassObj nm q C N bs bm hdct sn sub ab col dd k0 k1 k2 k3 k5 newId)) (look : PySem.W.Looks (model prog w) h (typeLookup (.ref C) "__init__") (some (.ref fI)))
    (bnd : ∀ self, PySem.W.Looks (model prog w) h (bindSpecial (.ref fI) self) (.ref fI, [self])) (few : us.length ≤ sizeLine)
    (z : codeAny (model prog w) A (.call (.ref fI) ⟨.ref (h.objs.size + 1) :: us, kw⟩) (fun r s' => match r with | .ok (.ret v) => v = .none ∧ Q (.done (.ret (.ref (h.objs.size + 1)))) s' | .ok _ => False | .error e => E e s')
      ⟨(h.push (PySem.W.kdv_tup us)).push (PX.excO C h.objs.size), g, d, t, os⟩) : wpAny (model prog w) A (Builtin.«type.__call__» ⟨.ref C :: us, kw⟩) Q E ⟨h, g, d, t, os⟩ := by
  repeat (first | with_reducible refine wpAny_loadPart_at at_ ?_ | with_reducible refine wpAny_madeBy_exc at_ ?_ | wp_step)
  refine codeAny_call_builtin_code (Code.quiet_builtin _ F.quiet) (checked_new F same at_ ?_)
  refine ran_new F same at_ few ?_
  show wpAny _ _ _ _ _ _
  have old : ∀ b o, h.get? b = some o → ((h.push (PySem.W.kdv_tup us)).push (PX.excO C h.objs.size)).get? b = some o := fun b o e => Heap.get?_push_of_some _ (Heap.get?_push_of_some _ e)
  have at2 := old _ _ at_
  have obj : ((h.push (PySem.W.kdv_tup us)).push (PX.excO C h.objs.size)).get? (h.objs.size + 1) = some (PX.excO C h.objs.size) := by heap_get
  have own : (Value.ref C :: bm).contains (.ref C) = true := by simp
  have look2 := look.keeps old
  have bnd2 := (bnd (.ref (h.objs.size + 1))).keeps old
  unfold isInstance
  repeat (first | with_reducible refine wpAny_loadPart_at obj ?_ | (with_reducible refine wpAny_isSubtype_exc at2 ?_; rw [own]) | wp_step)
  show wpAny _ _ (typeLookup (.ref C) _) _ _ _
  refine look2.at (wpAny_holding (wpAny_bind (bnd2.at (wpAny_bind (wpAny_call (codeAny_mono z fun r s' y => ?_))))))
  rcases r with e | (v | _ | _ | _) <;> first | exact y | exact y.elim | skip
  obtain ⟨rfl, y⟩ := y
  first
    | exact wpAny_pure (wpAny_pure y)
    | (wp_walk; exact y)
theorem ran_class (F : ExcBaseFacts B newId initId bmB) (same : ∀ X : String, bm.contains (.type X) = bmB.contains (.type X)) {us : List Value} {kw : List (Str × Value)} {fI : Addr}
    (at_ : h.get? C = some (excClassObj nm q C N bs bm hdct sn sub ab col dd k0 k1 k2 k3 k5 newId)) (look : PySem.W.Looks (model prog w) h (typeLookup (.ref C) "__init__") (some (.ref fI)))
    (bnd : ∀ self, PySem.W.Looks (model prog w) h (bindSpecial (.ref fI) self) (.ref fI, [self])) (few : us.length ≤ sizeLine)
    (z : codeAny (model prog w) (A.under (.builtin "type.__call__" ⟨.ref C :: us, kw⟩)) (.call (.ref fI) ⟨.ref (h.objs.size + 1) :: us, kw⟩) (PySem.W.InitBack (h.objs.size + 1) R) ⟨(h.push (PySem.W.kdv_tup us)).push (PX.excO C h.objs.size), g, d, t, os⟩) :
    codeAny (model prog w) A (.call (.ref C) ⟨us, kw⟩) R ⟨h, g, d, t, os⟩ := by
  have f1 := tc_lookup
  have f2 := tc_bind (.ref C)
  have ty : (⟨h, g, d, t, os⟩ : Shared).TypeIs (.ref C) "type" := ⟨_, at_, rfl⟩
  refine codeAny_of_tree ?_
  show wpAny _ _ (callAny (.ref C) _) _ _ _
  repeat (any_goals (first | assumption | with_reducible refine wpAny_loadPart_at at_ ?_ | wp_step))
  refine ⟨rfl, ?_⟩
  refine codeAny_call_builtin_at (Code.quiet_builtin _ (by decide +kernel)) entry_typeCall (wpAny_check_type_call_sub at_ (ran_type F same at_ look bnd few (codeAny_mono z fun r s' y => ?_)))
  rcases r with e | (v | _ | _ | _) <;> exact y
end
end G
namespace G
open PySem PySem.Spec PyProof.Rows L2
open PySem.W (Frag)
/-- C(k = v, ..) of an exception class: perm puts the values into the order of the parameters -/
def tMkK (C : Addr) (m : Nat) (perm : {α : Type} → List α → List α) (sp : Sp) (tk : TA) : TE := fun σ H Q => tk σ H fun zs H1 => zs.length = m ∧ ∀ a, H1 a = none → sp (.ref a :: perm zs) (upd H1 a (exo a C none)) (fun v H2 => v = .non ∧ Q (.ref a) H2) (fun _ _ _ => False)
section
variable {X : Cx} {x : Str} {p pos : Pos} {kws : List Keyword} {tk : TA}
theorem pe_mk_exK {k : Nat} {C fI : Addr} {T : List Value} {fd : FuncData} {ps ks : List Str} {sp : Sp} (perm : {α : Type} → List α → List α) (hp : ∀ {zs : List V} {ws : List Value}, Vals zs ws → Vals (perm zs) (perm ws))
    (R : ExK X.K C fI T) (F1 : FnOk X.prog X.w X.K X.mg X.base CX0 k fI fd ps sp) (hr : Room (k + 1) X.A) (hb : ∀ (s : Shared) (u : Value) (ws : List Value), X.K.In s.heap → ws.length = ks.length → BindsTo s fd ⟨[u], ks.zip ws⟩ (ps.zip (u :: perm ws))) (hg : Gl X x) (hm : X.mg x = some (.ref C)) (hkw : PK X kws tk)
    (hall : (backToKw pos (keywordEach kws X.env)).all (·.1.isSome) = true := by rfl) (hks : (backToKw pos (keywordEach kws X.env)).filterMap (·.1) = ks := by rfl) (hdb : (x == ("__debug__" : Str)) = false := by decide)
    (hpl : ((backTo pos (starEach [] X.env)).any (·.1) || (backToKw pos (keywordEach kws X.env)).any (·.1.isNone)) = false := by rfl) :
    PE X (.Call (.Name x p) [] kws pos) (tMkK C ks.length perm sp tk) := by
  constructor
  intro pins s σ H Q I h
  obtain ⟨B, newId, initId, F, SF, q0⟩ := R.base
  refine wpAny_Call_Name_kw (ld_glob I hg hm (PySem.W.callWith_KW0 (h₀ := X.base) I.ok.mod.kin R.kp hall (wpAny_mono (hkw.run pos pins s σ H _ I h) (fun ws s1 z => ?_) fun _ _ z => z) hpl) hdb)
  obtain ⟨zs, H1, I1, r1, len, q1⟩ := z
  refine ⟨I1.kIn, ?_⟩
  rw [hks]
  obtain ⟨nm, N', qn, bs, bm, hdct, sn, sub, ab, col, dd, k0, k1, k2, k3, k5, hC, hT⟩ := PySem.W.excInit_of I1.kIn q0
  obtain ⟨oI, hoI, hcI⟩ := Option.map_eq_some_iff.mp (show (X.K.lookup fI).map (·.cls) = some (.type "function") from beq_iff_eq.mp R.iF)
  have look := PySem.W.looks_findIn (M := model X.prog X.w) I1.kIn R.iC
  have bnd := fun self => PySem.W.exc_bind (M := model X.prog X.w) (I1.kIn _ _ hoI) hcI self
  obtain ⟨hp1, g, dr, tk1, os⟩ := s1
  have new : H1 (hp1.objs.size + 1) = none := I1.hok.fresh (Nat.le_succ _)
  have q2 := q1 _ new
  have I2 : Inv X pins σ (upd H1 (hp1.objs.size + 1) (exo (hp1.objs.size + 1) C none)) ⟨(hp1.push (PySem.W.kdv_tup [])).push (PX.excO C hp1.objs.size), g, dr, tk1, os⟩ :=
    I1.laid (t' := tk1) (o := exo (hp1.objs.size + 1) C none) (h' := (hp1.push (PySem.W.kdv_tup [])).push (PX.excO C hp1.objs.size)) (fun b w q => Heap.get?_push_of_some _ (Heap.get?_push_of_some _ q)) (Nat.le_succ _) (exo_ok (t1 := hp1.objs.size) (by heap_get))
  have r2 : Vals (V.ref (hp1.objs.size + 1) :: perm zs) (Value.ref (hp1.objs.size + 1) :: perm ws) := .cons rfl (hp r1)
  have lw : ws.length = ks.length := by rw [← r1.length]; exact len
  have hbd := hb ⟨(hp1.push (PySem.W.kdv_tup [])).push (PX.excO C hp1.objs.size), g, dr, tk1, os⟩ (Value.ref (hp1.objs.size + 1)) ws I2.kIn lw
  refine wpAny_call (ran_class F hT hC look bnd (by decide) (codeAny_mono (F1.run _ X.stack _ _ ⟨[Value.ref (hp1.objs.size + 1)], ks.zip ws⟩ (Value.ref (hp1.objs.size + 1) :: perm ws) _ _ (fun _ _ _ => False) (hr.make C [] (ks.zip ws)) (I2.env0.make C [] (ks.zip ws)) hbd r2 q2) fun r s2 z => ?_))
  match r, z with
  | .error _, z => exact z.elim
  | .ok (.ret u), ⟨v, H2, os2, bare, un, ok2, rv, ev, q3⟩ =>
    subst ev
    exact ⟨rv, .ref (hp1.objs.size + 1), H2, I2.call' (ch := []) os2 un ok2 bare (fun b z => (List.not_mem_nil z).elim), rfl, q3⟩
  | .ok .next, z => exact z.elim
  | .ok .brk, z => exact z.elim
  | .ok .cont, z => exact z.elim
end
end G
/-! An own exception whose __init__ is «super().__init__()» alone. -/
namespace G
open PySem PySem.Spec PySem.Calls L2
open PySem.W (Frag)
/-- what the written part says of such an __init__, at fI, of the class at C -/
structure ExSup (K : Frag) (mg : Str → Option Value) (C fI : Addr) (T : List Value) (st : Stmt) (fd : FuncData) : Prop where
  base : ∃ B newId initId, ExcBaseFacts B newId initId T ∧ PySem.W.KxsFacts B initId ∧ PySem.W.excInitIn K C T newId = true ∧ PySem.W.subIn K (.ref C) (.type B) = some true ∧ PySem.W.ks_superIn K C C "__init__" = some (some (.builtin initId))
  fn : ∃ (qual : Str) (oc : Value) (od : Option Addr) (kV doc pm : Value) (an : Option Addr) (cda cc : Addr) (ct : Value) (osl : Array (Option Value)), fd = PySem.W.ksFn "__init__" qual (defArgs st) (defBody st) (defScope st) .none kV doc pm an (.ref cda) ct cc ∧
    K.lookup fI = some ⟨oc, od, .func fd, osl⟩ ∧ PySem.W.codeIn K (.ref cda) qual = true ∧ (∃ cl cld csl, K.lookup cc = some ⟨cl, cld, .cell (some (.ref C)), csl⟩) ∧
    ∃ ccl cdd vs ccs file tf, K.lookup cda = some ⟨ccl, cdd, .fields vs, ccs⟩ ∧ vs[2]? = some (.str file tf) ∧ file = "/claim/cut.py"
  clsC : (PySem.W.clsIn K C).isSome = true
  self : PySem.W.mroIn K C (.ref C) = some true
  sup : mg "super" = none
  any : PySem.W.nsIn K cStatics "thirdparty.any" = some none
def spS (C : Addr) : Sp := fun vs H Q _ => ∃ a : Addr, vs = [.ref a] ∧ H a = some (exo a C none) ∧ Q .non H
section
variable {P : Program} {w : World} {K : Frag} {mg : Str → Option Value} {base : Heap}
/-- the arguments of the exception at e are laid anew: the heap behind that -/
theorem anew {outer : List Env} {H : Hp} {s : Shared} {h2 : Heap} {a C t1 : Addr} {A : Around} (e0 : Env0 P w K mg base A outer s H) (ea : H a = some (exo a C none)) (k : ∀ b o, b ≠ a → s.heap.get? b = some o → h2.get? b = some o)
    (here : h2.get? a = some (PX.excO C t1)) : Un (frs outer) [] H H s.heap h2 ∧ HOk P w H h2 := by
  have na : ∀ {b : Addr}, H b = none → b ≠ a := fun {b} n z => by
    rw [z, ea] at n
    exact nomatch n
  refine ⟨⟨fun b o q n _ _ => k b o (na n) q, fun b o q n _ _ => ⟨o.slots, k b o (na n) q⟩, fun b o q n _ => n, fun b o q _ => ?_, fun _ _ q => q, fun _ _ _ q => q, fun b ps q => ⟨#[], by rw [Array.append_empty]; exact q⟩⟩, fun b o q => ?_⟩
  · by_cases z : b = a
    · exact ⟨_, by rw [z]; exact here⟩
    · exact ⟨o, k b o z q⟩
  · by_cases z : b = a
    · subst z
      rw [ea] at q
      cases q
      exact exo_ok here
    · exact (e0.hok b o q).stay (fun c v hc y => k c v (by
          cases hc with
          | inl hc => rw [hc]; exact z
          | inr hc => exact at_ne ea hc exo_own) y) (fun _ hc => hc) fun _ _ hc => hc
theorem ok_super {fI C : Addr} {T : List Value} {st : Stmt} {fd : FuncData} {p0 p1 p2 p3 p4 : Pos} (Y : ExSup K mg C fI T st fd) (hb : defBody st = [.Expr (.Call (.Attribute (.Call (.Name "super" p0) [] [] p1) "__init__" p2) [] [] p3) p4])
    (nm : (defScope st).names = [(PySem.Str.ofString "self", .local), (PySem.Str.ofString "__class__", .free), (PySem.Str.ofString "super", .globalImplicit)]) (k1 : (defScope st).kind = .function) (k2 : (defScope st).isCoroutine = false) (k3 : (defScope st).isGenerator = false)
    (par : ∃ ar : Arg, ((defArgs st).posonlyargs ++ (defArgs st).args).head? = some ar ∧ ar.arg = "self") (file : (P.main.file : Str) = "/claim/cut.py") (top : (P.main.scope.names.lookup ("super" : Str)).isSome = false)
    (hi : ∀ env : Env, env.scope = defScope st → interactive env = false) {pl : Env → Sem Bool} (he : ∀ env : Env, env.scope = defScope st → eval (.Call (.Attribute (.Call (.Name "super" p0) [] [] p1) "__init__" p2) [] [] p3) env = (do
      let ov ← attributeBase (.Call (.Name "super" p0) [] [] p1) "__init__" env (eval (.Call (.Name "super" p0) [] [] p1) env)
      standAt p2.atName
      let (f, first) ← holding [ov] (getMethod ov "__init__" (pl env))
      callWith p3 f first (backTo p3 (starEach [] env)) [])) :
    FnOk P w K mg base CX0 1 fI fd ["self"] (spS C) := by
  refine ⟨fun vs H Q E h => ?_, fun A outer s H args us vs Q E hr e0 bt rv h => ?_⟩
  · obtain ⟨a, rfl, _⟩ := h
    rfl
  obtain ⟨a, rfl, ea, q⟩ := h
  cases rv with
  | cons r1 r2 =>
  cases r2
  cases r1
  obtain ⟨B, newId, initId, F, KF, q0, isB, supI⟩ := Y.base
  obtain ⟨qual, oc, od, kV, doc, pm, an, cda, cc, ct, osl, rfl, lk, code, ⟨cl, cld, csl, hcc⟩, ccl, cdd, vs, ccs, fl, tf, hcd, hv2, rfl⟩ := Y.fn
  obtain ⟨ar, har, hself⟩ := par
  have KX : K.In s.heap := e0.mod.kin.keeps fun b o z => (e0.bs b o z).1
  have lim : s.heap.NoLimit := e0.mod.nolimit.keeps fun b o z => (e0.bs b o z).1
  have gl : s.heap.Ns mainGlobals mg := e0.mod.glob.keeps fun b o z => (e0.bs b o z).1
  obtain ⟨mb, bl, bb⟩ := e0.mod.blt
  have bl2 : s.heap.Ns builtinsNs mb := bl.keeps fun b o z => (e0.bs b o z).1
  obtain ⟨t1, ho⟩ := exo_at e0.hok ea
  obtain ⟨cd, hcl⟩ := Option.isSome_iff_exists.mp Y.clsC
  refine PySem.ks_codeAny_call_defAt (body := defBody st) (binds := [("self", .ref a)]) hr.depth (KX _ _ lk) rfl lim (PySem.W.codeRec_of KX code) rfl bt (fun x hx => ?_) (fun x hx => ?_) (fun h0 ns k0 => ?_) k2 k3 k1
  · have hx2 : x ∈ (defScope st).names := hx
    rw [nm] at hx2
    rcases List.mem_cons.mp hx2 with rfl | hx2
    · exact fun z => nomatch z
    rcases List.mem_cons.mp hx2 with rfl | hx2
    · exact fun z => nomatch z
    rcases List.mem_cons.mp hx2 with rfl | hx2
    · exact fun z => nomatch z
    exact (List.not_mem_nil hx2).elim
  · rcases List.mem_cons.mp hx with rfl | hx
    · show (defScope st).names.lookup _ = _
      rw [nm]
      rfl
    · exact (List.not_mem_nil hx).elim
  have hb2 : (PySem.W.ksFn "__init__" qual (defArgs st) (defBody st) (defScope st) .none kV doc pm an (.ref cda) ct cc).scope.names = (defScope st).names := rfl
  have kf : ∀ L : Addr, (callEnv (PySem.W.ksFn "__init__" qual (defArgs st) (defBody st) (defScope st) .none kV doc pm an (.ref cda) ct cc) L fI) = PySem.W.ksEnv qual (defScope st) L fI (.ref cda) cc := fun L => rfl
  rw [kf, hb]
  have lu1 : (defScope st).names.lookup ("super" : Str) = some .globalImplicit := by rw [nm]; decide +kernel
  have lu2 : (defScope st).names.lookup ("__class__" : Str) = some .free := by rw [nm]; decide +kernel
  have lu3 : (defScope st).names.lookup ar.arg = some .local := by rw [nm, hself]; decide +kernel
  have v1 : (fun x => ([(("self" : Str), Value.ref a)] : List (Str × Value)).reverse.lookup x) ar.arg = some (.ref a) := by rw [hself]; simp [List.lookup]
  have hx := k0 _ _ ho
  have KX0 := KX.keeps k0
  obtain ⟨oD, hD1, hD2⟩ : ∃ oD, h0.get? C = some oD ∧ oD.data = .cls cd := by
    have z := hcl
    unfold PySem.W.clsIn at z
    split at z
    · rename_i c d cd' sl lc
      cases z
      exact ⟨_, KX0 _ _ lc, rfl⟩
    · cases z
  refine PySem.ks_wpAt_execs_cons (PySem.ks_wpAt_Expr_any (PySem.ks_wpAt_MethodCall (pl := pl _) ?_ (he _ rfl)) (hi := hi _ rfl))
  refine PySem.ks_wpAt_super_base (env := PySem.W.ksEnv qual (defScope st) s.heap.objs.size fI (.ref cda) cc) lu1 lu2 (by decide +kernel) rfl (KX0 _ _ lk) rfl har rfl (KX0 _ _ hcd) rfl hv2 (by rw [file]; decide +kernel) top ?_
  refine PySem.W.ks_loadName_global k1 lu1 (loadGlobal_builtin (env := PySem.W.ksEnv qual (defScope st) s.heap.objs.size fI (.ref cda) cc) (gl.keeps k0) Y.sup (bl2.keeps k0) ((bb _ (by decide +kernel)).trans (by decide +kernel)) ⟨rfl, ?_⟩)
  refine wpAny_loadName_free k1 lu2 rfl ⟨_, KX0 _ _ hcc, rfl⟩ ?_
  refine wpAny_loadName_local k1 lu3 ns v1 ?_
  refine PySem.ks_wpAny_isType_cls hD1 hD2 ⟨rfl, ?_⟩
  refine PySem.ks_wpAny_call_super hD1 hD2 hx rfl (fun c z => nomatch z) (PySem.W.looks_mroIn KX0 Y.self) (fun h1 so1 k1' => ?_)
  have in1 := k1' _ _ hx
  have KX1 := KX0.keeps k1'
  have I1 : PySem.W.InstAt h1 a _ C none := ⟨in1, rfl, rfl, trivial⟩
  have supI2 := supI
  unfold PySem.W.ks_superIn at supI2
  rw [hcl, Option.bind_some] at supI2
  refine PySem.W.kxs_getMethod KF so1 (PySem.W.looks_opaque KX1 Y.any) (l₀ := cd.mro) (fun A Q E s k q => wpAny_bind ((PySem.W.looks_clsIn KX1 hcl) A _ E s k (wpAny_pure q))) rfl KX1 supI2 (I1.type.andThen (PySem.W.looks_subIn KX1 isB)) (PySem.W.ks_ne KX1 I1 hcl) (by decide +kernel) ?_
  refine PySem.W.kxs_callWith (i := initId) (x := a) rfl (PyProof.Rows.evalArgs_empty ⟨Heap.get?_push_at rfl rfl, ?_⟩)
  have mw : (h1.push (PySem.W.kxs_mw initId a)).get? h1.objs.size = some (PySem.W.kxs_mw initId a) := Heap.get?_push_at rfl rfl
  have in2 : (h1.push (PySem.W.kxs_mw initId a)).get? a = some (PX.excO C t1) := Heap.get?_push_of_some _ in1
  obtain ⟨nm', N', qn, bs, bm, hdct, sn, sub, ab, col, dd, g0, g1, g2, g3, g5, hC, hT⟩ := PySem.W.excInit_of (KX1.keeps fun b o z => Heap.get?_push_of_some (PySem.W.kxs_mw initId a) z) q0
  refine wpAny_call (codeAny_of_tree ?_)
  show wpAny _ _ (callAny (.ref h1.objs.size) ⟨[], []⟩) _ _ _
  simp only [callAny]
  refine wpAny_bind (wpAny_load mw ?_)
  simp only [PySem.W.kxs_mw, show (Value.type "method-wrapper" == Value.type "method" || Value.type "method-wrapper" == Value.type "builtin_function_or_method" || Value.type "method-wrapper" == Value.type "method-wrapper") = true by decide, if_true]
  refine PySem.W.KFB.if_so (by decide) (wpAny_bind (PySem.W.check_bound_init F.toExcCallFacts hC in2 rfl (wpAny_bind (wpAny_pure (wpAny_pure ⟨plainId_quiet F.init.plain _, codeAny_builtin F.initEntry ?_⟩)))))
  refine PySem.W.exc_init_tree (cls := .ref C) (t0 := t1) (dv := none) (c2 := .none) (c3 := .none) (b4 := .bool false) (rest := []) in2 (by decide) fun h3 k3' in3 _ => ?_
  refine wpAt_of_wpAny (wpAny_execs_nil ?_)
  obtain ⟨un, ok⟩ := anew e0 ea (h2 := h3) (t1 := (h1.push (PySem.W.kxs_mw initId a)).objs.size) (fun b o hb z => k3' b o hb (Heap.get?_push_of_some _ (k1' _ _ (k0 _ _ z)))) in3
  exact ⟨.non, H, rfl, e0.bare, un, ok, rfl, q⟩
end
end G
/-! Readings that make data: what they leave is the datum told, and all that was tracked stays. -/
namespace G
open PySem PySem.Spec L2
open PySem.W (Frag)
def Dt (K : Frag) (te : TE) (d : PyData) : Prop := ∀ (σ : L2.St) (H : Hp) (Q : VK), (∀ v H', Same H H' → Da K H' v d → Q v H') → te σ H Q
def DtAll (K : Frag) (ta : TA) (ds : List PyData) : Prop := ∀ (σ : L2.St) (H : Hp) (Q : List V → Hp → Prop), (∀ xs H', Same H H' → DaAll K H' xs ds → Q xs H') → ta σ H Q
theorem same_new {H : Hp} {p : Addr} {o : HO} (h : H p = none) : Same H (upd H p o) := fun b u e => by
  rw [upd_ne (ne_of_none e h)]
  exact e
theorem DaAll.length {K : Frag} {H : Hp} : ∀ {xs : List V} {ds : List PyData}, DaAll K H xs ds → xs.length = ds.length
  | _, _, .nil => rfl
  | _, _, .cons _ t => congrArg Nat.succ (DaAll.length t)
theorem DaAll.append {K : Frag} {H : Hp} : ∀ {xs ys : List V} {ds es : List PyData}, DaAll K H xs ds → DaAll K H ys es → DaAll K H (xs ++ ys) (ds ++ es)
  | _, _, _, _, .nil, h => h
  | _, _, _, _, .cons a t, h => .cons a (DaAll.append t h)
theorem DaAll.mem {K : Frag} {H : Hp} : ∀ {xs : List V} {ds : List PyData} {x : V}, DaAll K H xs ds → x ∈ xs → ∃ d ∈ ds, Da K H x d
  | _, _, _, .nil, h => (List.not_mem_nil h).elim
  | _, _, _, .cons a t, h => by
    rcases List.mem_cons.mp h with rfl | h
    · exact ⟨_, List.mem_cons_self, a⟩
    · obtain ⟨d, h1, h2⟩ := DaAll.mem t h
      exact ⟨d, List.mem_cons_of_mem _ h1, h2⟩
section
variable {K : Frag} {te : TE} {ta : TA} {d : PyData} {ds : List PyData}
theorem dt_non : Dt K (tC .non) .none := fun σ H Q h => h _ H (Same.refl H) .non
theorem dt_bl {b : Bool} : Dt K (tC (.bl b)) (.bool b) := fun σ H Q h => h _ H (Same.refl H) (.bl b)
theorem dt_int {i : Int} : Dt K (tC (.int i)) (.int i) := fun σ H Q h => h _ H (Same.refl H) (.int i)
theorem dt_str {x : Str} : Dt K (tC (.str x)) (.str x) := fun σ H Q h => h _ H (Same.refl H) (.str x)
theorem dta_nil : DtAll K tNil [] := fun σ H Q h => h [] H (Same.refl H) .nil
theorem dta_cons (a : Dt K te d) (b : DtAll K ta ds) : DtAll K (tCons te ta) (d :: ds) := fun σ H Q h => by
  refine a σ H _ fun v H1 s1 h1 => ?_
  refine b σ H1 _ fun xs H2 s2 h2 => ?_
  exact h _ H2 (s1.trans s2) (.cons (h1.same s2) h2)
theorem dt_tup (a : DtAll K ta ds) (few : ds.length ≤ 1000 := by simp) : Dt K (tTup ta) (.tuple ds) := fun σ H Q h => by
  refine a σ H _ fun xs H1 s1 h1 => ⟨?_, fun p hp => ?_⟩
  · rw [h1.length, sizeLine_eq]
    omega
  · exact h _ _ (s1.trans (same_new hp)) (.tup (Or.inl (Or.inl upd_same)) (h1.same (same_new hp)))
theorem dt_lst (a : DtAll K ta ds) (few : ds.length ≤ 1000 := by simp) : Dt K (tLstS ta) (.list ds) := fun σ H Q h => by
  refine a σ H _ fun xs H1 s1 h1 => ⟨?_, fun p hp np => ?_⟩
  · rw [h1.length, sizeLine_eq]
    omega
  · exact h _ _ (s1.trans (same_new hp)) (.lst np (Or.inl (Or.inl upd_same)) (h1.same (same_new hp)))
end
end G
/-! Data stay when one dict of three entries is written. -/
namespace G
open PySem PySem.Spec L2
open PySem.W (Frag)
mutual
def nd3 : PyData → Bool
  | .none | .bool _ | .int _ | .str _ => true
  | .list xs | .tuple xs => nd3All xs
  | .dict kvs => !decide (kvs.length = 3) && nd3Kv kvs
def nd3All : List PyData → Bool
  | [] => true
  | x :: xs => nd3 x && nd3All xs
def nd3Kv : List (PyData × PyData) → Bool
  | [] => true
  | (k, v) :: r => nd3 k && nd3 v && nd3Kv r
end
theorem nd3Kv_split : ∀ {kvs : List (PyData × PyData)}, nd3Kv kvs = true → nd3All (kvs.map (·.1)) = true ∧ nd3All (kvs.map (·.2)) = true
  | [], _ => by simp [nd3All]
  | (k, v) :: r, h => by
    have h2 : (nd3 k = true ∧ nd3 v = true) ∧ nd3Kv r = true := by simpa [nd3Kv] using h
    obtain ⟨a, b⟩ := nd3Kv_split h2.2
    simp [nd3All, h2.1.1, h2.1.2, a, b]
section
variable {K : Frag} {H H' : Hp} {p : Addr} {kvp : List (Key × V)}
mutual
theorem Da.but (hp : H p = some (.dK kvp)) (n3 : kvp.length = 3) (e : ∀ b o, H b = some o → b ≠ p → H' b = some o) : ∀ {v : V} {d : PyData}, Da K H v d → nd3 d = true → Da K H' v d
  | _, _, .non, _ => .non
  | _, _, .bl b, _ => .bl b
  | _, _, .int i, _ => .int i
  | _, _, .str x, _ => .str x
  | _, _, .lst n s a, h => .lst n (by
      rcases s with (s | ⟨o, s⟩) | s
      · exact .inl (.inl (e _ _ s (ne_of s hp (by intro z; cases z))))
      · exact .inl (.inr ⟨o, e _ _ s (ne_of s hp (by intro z; cases z))⟩)
      · exact .inr s) (DaAll.but hp n3 e a (by simpa [nd3] using h))
  | _, _, .tup s a, h => .tup (by
      rcases s with (s | ⟨o, s⟩) | s
      · exact .inl (.inl (e _ _ s (ne_of s hp (by intro z; cases z))))
      · exact .inl (.inr ⟨o, e _ _ s (ne_of s hp (by intro z; cases z))⟩)
      · exact .inr s) (DaAll.but hp n3 e a (by simpa [nd3] using h))
  | _, _, .dct (kvs := kvs) (ds := ds) s a b, h => by
    have h2 : ¬ ds.length = 3 ∧ nd3Kv ds = true := by simpa [nd3] using h
    obtain ⟨h3, h4⟩ := nd3Kv_split h2.2
    refine .dct (e _ _ s fun z => h2.1 ?_) (DaAll.but hp n3 e a h3) (DaAll.but hp n3 e b h4)
    have l := b.length
    rw [z, hp] at s
    cases s
    rw [List.length_map, List.length_map] at l
    omega
theorem DaAll.but (hp : H p = some (.dK kvp)) (n3 : kvp.length = 3) (e : ∀ b o, H b = some o → b ≠ p → H' b = some o) : ∀ {vs : List V} {ds : List PyData}, DaAll K H vs ds → nd3All ds = true → DaAll K H' vs ds
  | _, _, .nil, _ => .nil
  | _, _, .cons (d := d) (ds := ds) h t, z => by
    have z2 : nd3 d = true ∧ nd3All ds = true := by simpa [nd3All] using z
    exact .cons (Da.but hp n3 e h z2.1) (DaAll.but hp n3 e t z2.2)
end
end
end G
/-! Rows of exceptions: what is made, what is read off it, put into a list. -/
namespace G
open PySem PySem.Spec L2
open PySem.W (Frag)
/-- te comes to a value and a heap of which R holds -/
def Ev1 (te : TE) (σ : L2.St) (H : Hp) (R : V → Hp → Prop) : Prop := ∀ Q : VK, (∀ x G, R x G → Q x G) → te σ H Q
/-- the arguments come to vs, nothing changes -/
def EvA (ta : TA) (σ : L2.St) (vs : List V) : Prop := ∀ (H : Hp) (Q : List V → Hp → Prop), Q vs H → ta σ H Q
theorem eva_nil {σ : L2.St} : EvA tNil σ [] := fun H Q q => q
theorem eva_var {i : Nat} {ta : TA} {σ : L2.St} {v : V} {vs : List V} (h : σ[i]? = some (some v)) (t : EvA ta σ vs) : EvA (tCons (tVar i) ta) σ (v :: vs) := fun H Q q => ⟨v, h, t H _ q⟩
theorem eva_c {ta : TA} {σ : L2.St} {v : V} {vs : List V} (t : EvA ta σ vs) : EvA (tCons (tC v) ta) σ (v :: vs) := fun H Q q => t H _ q
/-- a new exception of the class at C, its fields -/
def IsEx (C : Addr) (fs : List (Str × V)) (H : Hp) : V → Hp → Prop := fun x G => Same H G ∧ ∃ a d, x = .ref a ∧ G a = some (exo a C (some d)) ∧ G d = some (exd d fs)
def IsV (v : V) (H : Hp) : V → Hp → Prop := fun x G => Same H G ∧ x = v
def IsE (C : Addr) (H : Hp) : V → Hp → Prop := fun x G => Same H G ∧ ∃ a, x = .ref a ∧ ExAt G a C
def spF1 (C : Addr) (f : Str) : Sp := fun vs H Q _ => ∃ a v, vs = [.ref a, v] ∧ H a = some (exo a C none) ∧ ∀ d, H d = none → d ≠ a → Q .non (upd (upd H d (exd d [(f, v)])) a (exo a C (some d)))
def spF2 (C : Addr) (f g : Str) : Sp := fun vs H Q _ => ∃ a v w, vs = [.ref a, v, w] ∧ H a = some (exo a C none) ∧ ∀ d H', H d = none → d ≠ a → (∀ b o, H b = some o → b ≠ a → H' b = some o) → H' a = some (exo a C (some d)) → H' d = some (exd d [(g, w), (f, v)]) → Q .non H'
section
variable {K : Frag} {C fI : Addr} {T : List Value} {f g s : Str} {ta tk : TA} {te te1 te2 te3 : TE} {σ : L2.St} {H : Hp} {v w : V} {fs : List (Str × V)}
theorem made1 {a d : Addr} (n : H a = none) (nd : (upd H a (exo a C none)) d = none) (ne : d ≠ a) : IsEx C [(f, v)] H (.ref a) (upd (upd (upd H a (exo a C none)) d (exd d [(f, v)])) a (exo a C (some d))) := by
  have nd0 : H d = none := by rw [upd_ne ne] at nd; exact nd
  refine ⟨fun b o e => ?_, a, d, rfl, upd_same, ?_⟩
  · rw [upd_ne (ne_of_none e n), upd_ne (ne_of_none e nd0), upd_ne (ne_of_none e n)]
    exact e
  · rw [upd_ne ne, upd_same]
theorem ev_mk1 (A : EvA ta σ [v]) : Ev1 (tMk C (spF1 C f) ta) σ H (IsEx C [(f, v)] H) := fun Q q =>
  A H _ ⟨(show 1 ≤ 1000 by decide), fun a n => ⟨a, v, rfl, upd_same, fun d nd ne => ⟨rfl, q _ _ (made1 n nd ne)⟩⟩⟩
theorem ev_mkK1 {perm : {α : Type} → List α → List α} {zs : List V} {m : Nat} (hp : perm zs = [v]) (hm : zs.length = m) (A : EvA tk σ zs) : Ev1 (tMkK C m perm (spF1 C f) tk) σ H (IsEx C [(f, v)] H) := fun Q q =>
  A H _ ⟨hm, fun a n => ⟨a, v, congrArg (V.ref a :: ·) hp, upd_same, fun d nd ne => ⟨rfl, q _ _ (made1 n nd ne)⟩⟩⟩
theorem made2 {a d : Addr} {H' : Hp} (n : H a = none) (old : ∀ b o, (upd H a (exo a C none)) b = some o → b ≠ a → H' b = some o) (e1 : H' a = some (exo a C (some d))) (e2 : H' d = some (exd d fs)) : IsEx C fs H (.ref a) H' := by
  refine ⟨fun b o e => old b o ?_ (ne_of_none e n), a, d, rfl, e1, e2⟩
  rw [upd_ne (ne_of_none e n)]
  exact e
theorem ev_mk2 (A : EvA ta σ [v, w]) : Ev1 (tMk C (spF2 C f g) ta) σ H (IsEx C [(g, w), (f, v)] H) := fun Q q =>
  A H _ ⟨(show 2 ≤ 1000 by decide), fun a n => ⟨a, v, w, rfl, upd_same, fun d H' nd ne old e1 e2 => ⟨rfl, q _ _ (made2 n old e1 e2)⟩⟩⟩
theorem ev_mkK2 {perm : {α : Type} → List α → List α} {zs : List V} {m : Nat} (hp : perm zs = [v, w]) (hm : zs.length = m) (A : EvA tk σ zs) : Ev1 (tMkK C m perm (spF2 C f g) tk) σ H (IsEx C [(g, w), (f, v)] H) := fun Q q =>
  A H _ ⟨hm, fun a n => ⟨a, v, w, congrArg (V.ref a :: ·) hp, upd_same, fun d H' nd ne old e1 e2 => ⟨rfl, q _ _ (made2 n old e1 e2)⟩⟩⟩
theorem ev_mk0 {perm : {α : Type} → List α → List α} (hp : perm ([] : List V) = []) (sp : Sp) (hs : ∀ a H Q, H a = some (exo a C none) → Q V.non H → sp [.ref a] H Q (fun _ _ _ => False)) : Ev1 (tMkK C 0 perm sp tNil) σ H (IsE C H) := fun Q q =>
  ⟨rfl, fun a n => by
    show sp (V.ref a :: perm ([] : List V)) _ _ _
    rw [hp]
    exact hs a _ _ upd_same ⟨rfl, q _ _ ⟨same_new n, a, rfl, .inl upd_same⟩⟩⟩
theorem ev_get (R : ExK K C fI T) (nf : PySem.W.findIn K (.ref C) f = some none) (l : fs.lookup f = some v) (E : Ev1 te σ H (IsEx C fs H)) : Ev1 (tGet K f te) σ H (IsV v H) := fun Q q =>
  E _ fun x G ⟨s, a, d, e, e1, e2⟩ => ⟨a, C, fI, d, T, fs, v, none, e, R, e1, e2, nf, rfl, l, q _ _ ⟨s, rfl⟩⟩
theorem ev_getv {i : Nat} {a d : Addr} (R : ExK K C fI T) (nf : PySem.W.findIn K (.ref C) f = some none) (l : fs.lookup f = some v) (h : σ[i]? = some (some (.ref a))) (e1 : H a = some (exo a C (some d))) (e2 : H d = some (exd d fs)) : Ev1 (tGet K f (tVar i)) σ H (IsV v H) := fun Q q =>
  ⟨_, h, a, C, fI, d, T, fs, v, none, rfl, R, e1, e2, nf, rfl, l, q _ _ ⟨Same.refl H, rfl⟩⟩
theorem ev_v {i : Nat} (h : σ[i]? = some (some v)) : Ev1 (tVar i) σ H (IsV v H) := fun Q q => ⟨v, h, q _ _ ⟨Same.refl H, rfl⟩⟩
theorem ev_e (E : Ev1 te σ H (IsEx C fs H)) : Ev1 te σ H (IsE C H) := fun Q q => E Q fun x G ⟨s, a, d, e, e1, e2⟩ => q x G ⟨s, a, e, .inr ⟨d, fs, e1, e2⟩⟩
theorem ExAt.same {G : Hp} {a : Addr} (e : Same H G) : ExAt H a C → ExAt G a C
  | .inl h => .inl (e _ _ h)
  | .inr ⟨d, fs, h1, h2⟩ => .inr ⟨d, fs, e _ _ h1, e _ _ h2⟩
/-- a row: a tuple of an exception of the class at C, twice the thing, a word -/
def RowAt (H : Hp) (C : Addr) (s : Str) (v r : V) : Prop := ∃ t e, r = .ref t ∧ H t = some (.tup [.ref e, v, v, .str s]) ∧ ExAt H e C
theorem RowAt.same {G : Hp} {r : V} (e : Same H G) : RowAt H C s v r → RowAt G C s v r
  | ⟨t, a, h1, h2, h3⟩ => ⟨t, a, h1, e _ _ h2, h3.same e⟩
theorem exo_lst {e C : Addr} {d : Option Addr} {xs : List V} : exo e C d ≠ .lst xs := fun z => by
  have z' : HO.ext _ = HO.lst xs := z
  cases z'
theorem exd_lst {e : Addr} {fs : List (Str × V)} {xs : List V} : exd e fs ≠ .lst xs := fun z => by
  have z' : HO.ext _ = HO.lst xs := z
  cases z'
/-- rows stay where a list alone is written -/
theorem RowAt.but {G : Hp} {r : V} {l : Addr} {xs : List V} (hl : H l = some (.lst xs)) (e : ∀ b o, H b = some o → b ≠ l → G b = some o) : RowAt H C s v r → RowAt G C s v r
  | ⟨t, a, h1, h2, h3⟩ => ⟨t, a, h1, e _ _ h2 (ne_of h2 hl (by intro z; cases z)), by
      rcases h3 with h | ⟨d, fs, h, k⟩
      · exact .inl (e _ _ h (ne_of h hl exo_lst))
      · exact .inr ⟨d, fs, e _ _ h (ne_of h hl exo_lst), e _ _ k (ne_of k hl exd_lst)⟩⟩
/-- found.append((te1, te2, te3, s)) -/
theorem rd_row {D : Ends} {l : Addr} {rs : List V} (h1 : σ[1]? = some (some (.ref l))) (hl : H l = some (.lst rs)) (few : rs.length ≤ 1000)
    (E1 : ∀ G, Same H G → Ev1 te1 σ G (IsE C G)) (E2 : ∀ G, Same H G → Ev1 te2 σ G (IsV v G)) (E3 : ∀ G, Same H G → Ev1 te3 σ G (IsV v G))
    (k : ∀ r G, (∀ b o, H b = some o → b ≠ l → G b = some o) → G l = some (.lst (rs ++ [r])) → RowAt G C s v r → D.nx σ G) :
    tDrop (tBM K "list" rAppend (tVar 1) (tCons (tTup (tCons te1 (tCons te2 (tCons te3 (tCons (tC (.str s)) tNil))))) tNil)) D σ H := by
  refine ⟨_, h1, .inl ⟨rfl, _, Or.inl (Or.inl hl)⟩, ?_⟩
  refine E1 H (Same.refl H) _ fun x1 G1 ⟨s1, a, e1, x⟩ => ?_
  subst e1
  refine E2 G1 s1 _ fun x2 G2 ⟨s2, e2⟩ => ?_
  subst e2
  refine E3 G2 (s1.trans s2) _ fun x3 G3 ⟨s3, e3⟩ => ?_
  subst e3
  refine ⟨by show 4 ≤ sizeLine; decide, fun t ht => ?_⟩
  have t1 := same_new (o := .tup [.ref a, x3, x3, .str s]) ht
  have S := ((s1.trans s2).trans s3).trans t1
  refine ⟨l, rs, .ref t, rfl, rfl, S _ _ hl, by rw [sizeLine_eq]; omega, ?_⟩
  refine k _ _ (fun b o e hb => by rw [upd_ne hb]; exact S _ _ e) upd_same (RowAt.but (S _ _ hl) (fun b o e hb => by rw [upd_ne hb]; exact e) ⟨t, a, rfl, upd_same, (x.same (s2.trans s3)).same t1⟩)
end
end G
namespace G
open PySem PySem.Spec L2
open PySem.W (Frag)
/-- the rows so far: at most n, each of a pair of CS -/
def RowsAt (CS : List (Addr × Str)) (v : V) (l : Addr) (H : Hp) (n : Nat) : Prop := ∃ rs, H l = some (.lst rs) ∧ rs.length ≤ n ∧ ∀ r ∈ rs, ∃ q ∈ CS, RowAt H q.1 q.2 v r
theorem RowsAt.same {CS : List (Addr × Str)} {v : V} {l : Addr} {H G : Hp} {n : Nat} (e : Same H G) : RowsAt CS v l H n → RowsAt CS v l G n
  | ⟨rs, h1, h2, h3⟩ => ⟨rs, e _ _ h1, h2, fun r hr => by
      obtain ⟨q, hq, x⟩ := h3 r hr
      exact ⟨q, hq, x.same e⟩⟩
section
variable {K : Frag} {C : Addr} {f g s : Str} {te te1 te2 te3 : TE} {σ : L2.St} {H0 H : Hp} {v : V} {fs : List (Str × V)} {D : Ends} {l : Addr} {CS : List (Addr × Str)} {n : Nat} {u : TS}
theorem one_row (h1 : σ[1]? = some (some (.ref l))) (W : RowsAt CS v l H n) (hn : n ≤ 100) (mem : (C, s) ∈ CS) (S : Same H0 H) (n0 : H0 l = none)
    (E1 : ∀ G, Same H G → Ev1 te1 σ G (IsE C G)) (E2 : ∀ G, Same H G → Ev1 te2 σ G (IsV v G)) (E3 : ∀ G, Same H G → Ev1 te3 σ G (IsV v G)) (k : ∀ G, Same H0 G → RowsAt CS v l G (n + 1) → D.nx σ G) :
    tDrop (tBM K "list" rAppend (tVar 1) (tCons (tTup (tCons te1 (tCons te2 (tCons te3 (tCons (tC (.str s)) tNil))))) tNil)) D σ H := by
  obtain ⟨rs, hl, few, rows⟩ := W
  refine rd_row h1 hl (by omega) E1 E2 E3 fun r G old hG row => k G (fun b o e => old b o (S b o e) (ne_of_none e n0)) ⟨_, hG, ?_, fun r' hr => ?_⟩
  · rw [List.length_append]
    exact Nat.succ_le_succ few
  · rcases List.mem_append.mp hr with hr | hr
    · obtain ⟨q, hq, x⟩ := rows r' hr
      exact ⟨q, hq, x.but hl old⟩
    · rcases List.mem_cons.mp hr with rfl | hr
      · exact ⟨_, mem, row⟩
      · exact (List.not_mem_nil hr).elim
theorem seq_row (h1 : σ[1]? = some (some (.ref l))) (W : RowsAt CS v l H n) (hn : n ≤ 100) (mem : (C, s) ∈ CS) (S : Same H0 H) (n0 : H0 l = none)
    (E1 : ∀ G, Same H G → Ev1 te1 σ G (IsE C G)) (E2 : ∀ G, Same H G → Ev1 te2 σ G (IsV v G)) (E3 : ∀ G, Same H G → Ev1 te3 σ G (IsV v G)) (k : ∀ G, Same H0 G → RowsAt CS v l G (n + 1) → u D σ G) :
    tSeq (tDrop (tBM K "list" rAppend (tVar 1) (tCons (tTup (tCons te1 (tCons te2 (tCons te3 (tCons (tC (.str s)) tNil))))) tNil))) u D σ H := by
  unfold tSeq
  exact one_row (D := { D with nx := u D }) h1 W hn mem S n0 E1 E2 E3 k
theorem seq_new {i : Nat} (k : ∀ l, H l = none → u D (σ.set i (some (.ref l))) (upd H l (.lst []))) : tSeq (tAsg (tLst tNil) (gName i)) u D σ H := by
  unfold tSeq tAsg
  exact ⟨by decide, fun l hl => k l hl⟩
theorem seq_mk {i : Nat} (E : Ev1 te σ H (IsEx C fs H)) (k : ∀ a d G, Same H G → G a = some (exo a C (some d)) → G d = some (exd d fs) → u D (σ.set i (some (.ref a))) G) : tSeq (tAsg te (gName i)) u D σ H := by
  unfold tSeq tAsg
  exact E _ fun x G ⟨s, a, d, e, e1, e2⟩ => by
    subst e
    exact k a d G s e1 e2
theorem lk1 {a : V} {r : List (Str × V)} : ((f, a) :: r).lookup f = some a := by simp [List.lookup]
theorem lk2 {a b : V} {r : List (Str × V)} (h : ¬ f = g) : ((g, a) :: (f, b) :: r).lookup f = some b := by
  have e : (f == g) = false := by simpa using h
  simp [List.lookup, e]
end
end G
/-! list.count of a row of bools; a row put behind a list; isinstance; a comprehension over zip. -/
namespace G
open PySem PySem.Spec PyProof.Rows L2
open PySem.W (Frag)
section
variable {X : Cx}
def rCntB (K : Frag) : V → List V → Hp → VK → Prop := fun x xs H Q => ∃ (p : Addr) (bs : List Bool) (k : Bool), x = .ref p ∧ xs = [.bl k] ∧ SqL K H p (bs.map V.bl) ∧ Q (.int (bs.count k : Nat)) H
def isB (k : Bool) (v : Value) : Bool := match v with
  | .bool b => b == k
  | _ => false
theorem bools_of : ∀ {bs : List Bool} {us : List Value}, Vals (bs.map V.bl) us → us = bs.map Value.bool
  | [], _, .nil => rfl
  | b :: bs, _, .cons r t => by
    obtain rfl := bools_of t
    cases r
    rfl
theorem cnt_bools (k : Bool) : ∀ bs : List Bool, (bs.map Value.bool).countP (isB k) = bs.count k
  | [] => rfl
  | b :: bs => by
    rw [List.map_cons, List.countP_cons, cnt_bools k bs, List.count_cons]
    rfl
theorem mt_cntB : MtR X "list.count" (rCntB X.K) := by
  rintro pins s σ H x xs v us Q I rx rxs ⟨p, bs, k, rfl, rfl, hs, q⟩
  cases rx
  obtain ⟨u, rfl, ru⟩ := rxs.one
  cases ru
  obtain ⟨its, rv, ⟨⟨cls, dd, data, sl⟩, n, ho, hc, hdn, hd⟩, hlen⟩ := I.list hs
  dsimp only at hc hd
  subst hc hd
  obtain rfl := bools_of rv
  refine call_meets PySem.F.slot_list_count ⟨_, ho, rfl⟩ PySem.F.entry_list_count (PySem.F.args_list_count_2 _ _) (SeqAt.list_countAt p (bs.map Value.bool).toArray n dd sl (.bool k) (isB k)) ⟨ho, fun y hy => ?_, ?_⟩
  · obtain ⟨b, hb, rfl⟩ := List.mem_map.mp (show y ∈ bs.map Value.bool by simpa using hy)
    exact SeqAt.EqAt.bool_bool b k
  · refine ⟨.int (bs.count k : Nat), H, I.tok _, ⟨s.toks, ?_⟩, q⟩
    show Value.int (((bs.map Value.bool).toArray.toList.countP (isB k) : Nat) : Int) s.toks = _
    rw [List.toList_toArray, cnt_bools]
end
section
variable {K : Frag} {C D' : Addr} {te1 te2 : TE} {σ : L2.St} {H : Hp} {D : Ends} {l : Addr} {rs : List V} {u : TS}
theorem ev_isx {a C fI : Addr} {T : List Value} {i : Nat} {c : V} {cv : Value} {b : Bool} (R : ExK K C fI T) (ED : ExD K) (h : σ[i]? = some (some (.ref a))) (e : ExAt H a C) (cl : ClsV c cv) (kit : PySem.W.kitOne K (.ref C) cv = some b) :
    Ev1 (tCB (rIsx K) (tCons (tVar i) (tCons (tC c) tNil))) σ H (IsV (.bl b) H) := fun Q q => ⟨_, h, a, C, fI, T, c, cv, b, rfl, R, ED, e, cl, kit, q _ _ ⟨Same.refl H, rfl⟩⟩
theorem two_more {b1 b2 : Bool} (h1 : σ[1]? = some (some (.ref l))) (hl : H l = some (.lst rs)) (few : rs.length ≤ 1000) (E1 : ∀ G, Same H G → Ev1 te1 σ G (IsV (.bl b1) G)) (E2 : ∀ G, Same H G → Ev1 te2 σ G (IsV (.bl b2) G))
    (k : ∀ G, (∀ b o, H b = some o → b ≠ l → G b = some o) → G l = some (.lst (rs ++ [.bl b1, .bl b2])) → D.nx σ G) : tDrop (tBM K "list" rExtend (tVar 1) (tCons (tLst (tCons te1 (tCons te2 tNil))) tNil)) D σ H := by
  refine ⟨_, h1, .inl ⟨rfl, _, Or.inl (Or.inl hl)⟩, ?_⟩
  refine E1 H (Same.refl H) _ fun x1 G1 ⟨s1, e1⟩ => ?_
  subst e1
  refine E2 G1 s1 _ fun x2 G2 ⟨s2, e2⟩ => ?_
  subst e2
  refine ⟨by show 2 ≤ sizeLine; decide, fun t ht => ?_⟩
  have S := (s1.trans s2).trans (same_new (o := .lst [V.bl b1, V.bl b2]) ht)
  refine ⟨l, t, rs, _, rfl, rfl, S _ _ hl, upd_same, ?_, ?_⟩
  · show rs.length + 2 ≤ sizeLine
    rw [sizeLine_eq]
    omega
  · exact k _ (fun b o e hb => by rw [upd_ne hb]; exact S _ _ e) upd_same
theorem one_more {b1 : Bool} (h1 : σ[1]? = some (some (.ref l))) (hl : H l = some (.lst rs)) (few : rs.length ≤ 1000) (E1 : ∀ G, Same H G → Ev1 te1 σ G (IsV (.bl b1) G))
    (k : ∀ G, (∀ b o, H b = some o → b ≠ l → G b = some o) → G l = some (.lst (rs ++ [.bl b1])) → D.nx σ G) : tDrop (tBM K "list" rExtend (tVar 1) (tCons (tLst (tCons te1 tNil)) tNil)) D σ H := by
  refine ⟨_, h1, .inl ⟨rfl, _, Or.inl (Or.inl hl)⟩, ?_⟩
  refine E1 H (Same.refl H) _ fun x1 G1 ⟨s1, e1⟩ => ?_
  subst e1
  refine ⟨by show 1 ≤ sizeLine; decide, fun t ht => ?_⟩
  have S := s1.trans (same_new (o := .lst [V.bl b1]) ht)
  refine ⟨l, t, rs, _, rfl, rfl, S _ _ hl, upd_same, ?_, ?_⟩
  · show rs.length + 1 ≤ sizeLine
    rw [sizeLine_eq]
    omega
  · exact k _ (fun b o e hb => by rw [upd_ne hb]; exact S _ _ e) upd_same
/-- two more answers of isinstance; what stood stays, the exception too -/
theorem seq_two {a C fI CA CB : Addr} {T : List Value} {bA bB : Bool} {H0 : Hp} {bs : List Bool} (R : ExK K C fI T) (ED : ExD K) (h0 : σ[0]? = some (some (.ref a))) (h1 : σ[1]? = some (some (.ref l))) (hl : H l = some (.lst (bs.map V.bl))) (few : bs.length ≤ 900) (e : ExAt H a C) (S : Same H0 H) (n0 : H0 l = none)
    (kA : PySem.W.kitOne K (.ref C) (.ref CA) = some bA) (kB : PySem.W.kitOne K (.ref C) (.ref CB) = some bB) (k : ∀ G, Same H0 G → ExAt G a C → G l = some (.lst ((bs ++ [bA, bB]).map V.bl)) → u D σ G) :
    tSeq (tDrop (tBM K "list" rExtend (tVar 1) (tCons (tLst (tCons (tCB (rIsx K) (tCons (tVar 0) (tCons (tC (.ref CA)) tNil))) (tCons (tCB (rIsx K) (tCons (tVar 0) (tCons (tC (.ref CB)) tNil))) tNil))) tNil))) u D σ H := by
  unfold tSeq
  refine two_more (D := { D with nx := u D }) h1 hl (by rw [List.length_map]; omega) (fun G s => ev_isx R ED h0 (e.same s) (.own _) kA) (fun G s => ev_isx R ED h0 (e.same s) (.own _) kB) fun G old hG => ?_
  refine k G (fun b o x => old b o (S b o x) (ne_of_none x n0)) ?_ ?_
  · rcases e with x | ⟨d, fs, x, y⟩
    · exact .inl (old _ _ x (ne_of x hl exo_lst))
    · exact .inr ⟨d, fs, old _ _ x (ne_of x hl exo_lst), old _ _ y (ne_of y hl exd_lst)⟩
  · rw [hG, List.map_append]
    rfl
theorem seq_one {a C fI CA : Addr} {T : List Value} {bA : Bool} {H0 : Hp} {bs : List Bool} (R : ExK K C fI T) (ED : ExD K) (h0 : σ[0]? = some (some (.ref a))) (h1 : σ[1]? = some (some (.ref l))) (hl : H l = some (.lst (bs.map V.bl))) (few : bs.length ≤ 900) (e : ExAt H a C) (S : Same H0 H) (n0 : H0 l = none)
    (kA : PySem.W.kitOne K (.ref C) (.ref CA) = some bA) (k : ∀ G, Same H0 G → G l = some (.lst ((bs ++ [bA]).map V.bl)) → u D σ G) :
    tSeq (tDrop (tBM K "list" rExtend (tVar 1) (tCons (tLst (tCons (tCB (rIsx K) (tCons (tVar 0) (tCons (tC (.ref CA)) tNil))) tNil)) tNil))) u D σ H := by
  unfold tSeq
  refine one_more (D := { D with nx := u D }) h1 hl (by rw [List.length_map]; omega) (fun G s => ev_isx R ED h0 (e.same s) (.own _) kA) fun G old hG => ?_
  refine k G (fun b o x => old b o (S b o x) (ne_of_none x n0)) ?_
  rw [hG, List.map_append]
  rfl
end
/-- over zip of two lists of one length -/
theorem lc_zip {K : Frag} {a b : Addr} {xs ys : List V} {g : TG} {tt : TT} {te : TE} {vs : List Nat} {σ : L2.St} {H1 : Hp} {D : Addr} {Qd : Hp → Prop} (len : xs.length = ys.length) (Pv : Nat → Hp → Prop) (h0 : Pv 0 (upd H1 D (.lst []))) (hl : ∀ i H, Pv i H → SqL K H a xs ∧ SqL K H b ys)
    (hs : ∀ i x y t H, xs[i]? = some x → ys[i]? = some y → Pv i H → H t = none → g (.ref t) (wipe σ vs) (upd H t (.tup [x, y])) fun σ2 H2 => wipe σ2 vs = wipe σ vs ∧ tt σ2 H2 fun c H3 =>
      if c = true then te σ2 H3 fun z H4 => ∃ acc, H4 D = some (.lst acc) ∧ acc.length < sizeLine ∧ Pv (i + 1) (upd H4 D (.lst (acc ++ [z]))) else Pv (i + 1) H3) (hd : ∀ H, Pv xs.length H → Qd H) :
    ∃ W : Nat → Nat → Hp → Prop, (∃ m, W 0 m (upd H1 D (.lst []))) ∧ ∀ i m H, W i m H →
      ((Itz K a b).stop i H ∧ Qd H) ∨ ((Itz K a b).go i H ∧ ∃ Nx : Hp → Prop, (∀ H', Nx H' → ∃ m', m' < m ∧ W (i + 1) m' H') ∧ ∀ x H', (Itz K a b).yld i H x H' → g x (wipe σ vs) H' fun σ2 H2 => wipe σ2 vs = wipe σ vs ∧ tt σ2 H2 fun c H3 =>
        if c = true then te σ2 H3 fun z H4 => ∃ acc, H4 D = some (.lst acc) ∧ acc.length < sizeLine ∧ Nx (upd H4 D (.lst (acc ++ [z]))) else Nx H3) := by
  refine ⟨fun i m H => m + i = xs.length ∧ Pv i H, ⟨xs.length, by omega, h0⟩, ?_⟩
  rintro i m H ⟨hm, p⟩
  obtain ⟨q1, q2⟩ := hl i H p
  cases m with
  | zero =>
    obtain rfl : i = xs.length := by omega
    exact Or.inl ⟨⟨xs, ys, q1, q2, Or.inl (Nat.le_refl _)⟩, hd H p⟩
  | succ m =>
    have lt1 : i < xs.length := by omega
    have lt2 : i < ys.length := by omega
    refine Or.inr ⟨⟨xs, ys, _, _, q1, q2, List.getElem?_eq_getElem lt1, List.getElem?_eq_getElem lt2⟩, Pv (i + 1), fun G pG => ⟨m, Nat.lt_succ_self m, by omega, pG⟩, ?_⟩
    rintro v G ⟨t, x, y, rfl, free, rfl, f1, f2⟩
    exact hs i x y t H (f1 xs q1) (f2 ys q2) p free
end G
/-! The law's pen: a dict of cells, of a turn and of what is left of a great cell; a draw hands back a number below the bound. -/
namespace LW
open PySem L2 G
def top (i : Nat) : Stmt := PySem.Challenge.pw_namechains_k10_errors_and_limits.main.body.getD i (.Pass ⟨0, 0, 0, 0⟩)
abbrev sPen : Stmt := top 34
abbrev sDraw : Stmt := top 35
abbrev sPick : Stmt := top 36
abbrev kCe : Key := Sum.inr (Str.ofString "cells")
abbrev kTu : Key := Sum.inr (Str.ofString "turn")
abbrev kLe : Key := Sum.inr (Str.ofString "left")
/-- the pen at p, its list of cells at c -/
structure PenAt (H : Hp) (p c : Addr) (cells : List Int) (t l : Int) : Prop where
  pen : H p = some (.dK [(kCe, .ref c), (kTu, .int t), (kLe, .int l)])
  lst : H c = some (.lst (cells.map V.int))
  few : cells.length ≤ 63
  t0 : 0 ≤ t
theorem k12 : ¬ ((kCe : Key) = kTu) := by decide +kernel
theorem k13 : ¬ ((kCe : Key) = kLe) := by decide +kernel
theorem k23 : ¬ ((kTu : Key) = kLe) := by decide +kernel
theorem v1 {a b d : V} : valV ([(kCe, a), (kTu, b), (kLe, d)] : List (Key × V)) (kCe) = some a := by simp [valV]
theorem v2 {a b d : V} : valV ([(kCe, a), (kTu, b), (kLe, d)] : List (Key × V)) (kTu) = some b := by
  unfold valV
  rw [List.find?_cons_of_neg (by simpa using k12), List.find?_cons_of_pos (by simp)]
  rfl
theorem v3 {a b d : V} : valV ([(kCe, a), (kTu, b), (kLe, d)] : List (Key × V)) (kLe) = some d := by
  unfold valV
  rw [List.find?_cons_of_neg (by simpa using k13), List.find?_cons_of_neg (by simpa using k23), List.find?_cons_of_pos (by simp)]
  rfl
theorem p2 {a b d x : V} : putK ([(kCe, a), (kTu, b), (kLe, d)] : List (Key × V)) (kTu) x = [(kCe, a), (kTu, x), (kLe, d)] := by
  have h1 : ¬ ((kLe : Key) = kTu) := fun z => k23 z.symm
  unfold putK
  rw [if_pos (by simp), List.map_cons, List.map_cons, List.map_cons, List.map_nil, if_neg k12, if_pos rfl, if_neg h1]
theorem p3 {a b d x : V} : putK ([(kCe, a), (kTu, b), (kLe, d)] : List (Key × V)) (kLe) x = [(kCe, a), (kTu, b), (kLe, x)] := by
  unfold putK
  rw [if_pos (by simp), List.map_cons, List.map_cons, List.map_cons, List.map_nil, if_neg k13, if_neg k23, if_pos rfl]
theorem merge3 {a b d : V} : mergeK [] ([(kCe, a), (kTu, b), (kLe, d)] : List (Key × V)) = [(kCe, a), (kTu, b), (kLe, d)] := by
  have e1 : ¬ (Str.ofString "cells" = Str.ofString "turn") := by decide +kernel
  have e2 : ¬ (Str.ofString "cells" = Str.ofString "left") := by decide +kernel
  have e3 : ¬ (Str.ofString "turn" = Str.ofString "left") := by decide +kernel
  simp [mergeK, putK, e1, e2, e3]
theorem PenAt.npc {H : Hp} {p c : Addr} {cells : List Int} {t l : Int} (N : PenAt H p c cells t l) : c ≠ p := ne_of N.lst N.pen (by intro z; cases z)
theorem PenAt.left {H : Hp} {p c : Addr} {cells : List Int} {t l : Int} (N : PenAt H p c cells t l) (x : Int) : PenAt (upd H p (.dK (putK [(kCe, .ref c), (kTu, .int t), (kLe, .int l)] kLe (.int x)))) p c cells t x :=
  ⟨by rw [upd_same, p3], by rw [upd_ne N.npc]; exact N.lst, N.few, N.t0⟩
theorem PenAt.turn {H : Hp} {p c : Addr} {cells : List Int} {t l : Int} (N : PenAt H p c cells t l) {x : Int} (h : 0 ≤ x) : PenAt (upd H p (.dK (putK [(kCe, .ref c), (kTu, .int t), (kLe, .int l)] kTu (.int x)))) p c cells x l :=
  ⟨by rw [upd_same, p2], by rw [upd_ne N.npc]; exact N.lst, N.few, h⟩
theorem PenAt.same {H H' : Hp} {p c : Addr} {cells : List Int} {t l : Int} (N : PenAt H p c cells t l) (e : Same H H') : PenAt H' p c cells t l := ⟨e _ _ N.pen, e _ _ N.lst, N.few, N.t0⟩
theorem PenAt.gL {H : Hp} {p c : Addr} {cells : List Int} {t l : Int} (N : PenAt H p c cells t l) : DGet H p (.str "left") (some (.int l)) := v3 (a := .ref c) (b := .int t) (d := .int l) ▸ DGet.k (k := kLe) N.pen
theorem PenAt.gT {H : Hp} {p c : Addr} {cells : List Int} {t l : Int} (N : PenAt H p c cells t l) : DGet H p (.str "turn") (some (.int t)) := v2 (a := .ref c) (b := .int t) (d := .int l) ▸ DGet.k (k := kTu) N.pen
theorem PenAt.gC {H : Hp} {p c : Addr} {cells : List Int} {t l : Int} (N : PenAt H p c cells t l) : DGet H p (.str "cells") (some (.ref c)) := v1 (a := .ref c) (b := .int t) (d := .int l) ▸ DGet.k (k := kCe) N.pen
theorem penLen {c : Addr} {t l : Int} : ([(kCe, V.ref c), (kTu, .int t), (kLe, .int l)] : List (Key × V)).length < sizeLine := by show 3 < sizeLine; decide
theorem dpInts (K : PySem.W.Frag) (H : Hp) : ∀ l : List Int, DpAll K H (l.map V.int) (l.map PyData.int)
  | [] => .nil
  | i :: l => .cons (.int i) (dpInts K H l)
theorem layInts : ∀ l : List Int, PyData.canLayAll0 (l.map PyData.int) = true
  | [] => by simp only [List.map_nil, PyData.canLayAll0]
  | i :: l => by simp only [List.map_cons, PyData.canLayAll0, PyData.canLay0, layInts l, Bool.and_self]
theorem depInts : ∀ l : List Int, PyData.depthAll (l.map PyData.int) = 0
  | [] => by simp only [List.map_nil, PyData.depthAll]
  | i :: l => by simp only [List.map_cons, PyData.depthAll, PyData.depth, depInts l, Nat.max_self]
theorem shapedInts (l : List Int) : SeqAt.shaped (.list (l.map PyData.int)) = true := by
  have h1 : (PyData.list (l.map PyData.int)).canLay0 = true := by simp only [PyData.canLay0, layInts]
  have h2 : (PyData.list (l.map PyData.int)).depth ≤ 64 := by simp only [PyData.depth, depInts]; omega
  simp only [SeqAt.shaped, h1, h2, decide_true, Bool.and_self]
theorem eqvNil : ∀ l : List Int, PyData.eqv (.list (l.map PyData.int)) (.list []) = decide (l = [])
  | [] => by simp [PyData.eqv, PyData.eqvAll]
  | i :: l => by simp [PyData.eqv, PyData.eqvAll]
theorem atCells {l : List Int} {i : Int} (h0 : 0 ≤ i) (h : i < l.length) : ∃ z, atI (l.map V.int) i = some (.int z) := by
  have hl : i.toNat < l.length := by omega
  exact ⟨l[i.toNat], at_of (j := i.toNat) (by omega) (by rw [List.getElem?_map, List.getElem?_eq_getElem hl]; rfl)⟩
/-- a number of the row of primes -/
def primes : List Int := [2147483629, 2147483647, 2147483587, 2147483563, 2147483579]
theorem prime_at {i : Int} (h0 : 0 ≤ i) (h5 : i < 5) : ∃ q : Int, atI (primes.map V.int) i = some (.int q) ∧ 2147483563 ≤ q ∧ q ≤ 2147483647 := by
  have h : i = 0 ∨ i = 1 ∨ i = 2 ∨ i = 3 ∨ i = 4 := by omega
  rcases h with rfl | rfl | rfl | rfl | rfl
  · exact ⟨2147483629, by decide +kernel, by omega, by omega⟩
  · exact ⟨2147483647, by decide +kernel, by omega, by omega⟩
  · exact ⟨2147483587, by decide +kernel, by omega, by omega⟩
  · exact ⟨2147483563, by decide +kernel, by omega, by omega⟩
  · exact ⟨2147483579, by decide +kernel, by omega, by omega⟩
theorem fm {i j : Int} (h : 0 < j) : 0 ≤ i.fmod j ∧ i.fmod j < j := ⟨Int.fmod_nonneg_of_pos i h, Int.fmod_lt_of_pos i h⟩
theorem cut63 (ns : List Int) (h : ns.length ≤ 63) : cutV (ns.map V.int) none (some 63) = ns.map V.int := by
  have e1 : HT.sIx (ns.map V.int).length 0 none = 0 := rfl
  have e2 : (ns.map V.int).length ≤ HT.sIx (ns.map V.int).length (ns.map V.int).length (some 63) := by
    rw [List.length_map]
    rw [show ((63 : Int)) = ((63 : Nat) : Int) from rfl, HT.sIx_nat]
    omega
  unfold cutV
  rw [e1, List.drop_zero, Nat.sub_zero]
  exact List.take_of_length_le e2
/-- what the walk asks of the built-ins -/
structure Bt (mg : Str → Option Value) : Prop where
  int : mg "int" = none
  len : mg "len" = none
  abs : mg "abs" = none
  list : mg "list" = none
def spDraw : Sp := fun vs H Q _ => ∃ (p c : Addr) (cells : List Int) (t l many : Int), vs = [.ref p, .int many] ∧ PenAt H p c cells t l ∧ t ≤ 1000000 ∧ 1 ≤ many ∧ many ≤ 1000000 ∧
  ∀ (r t' l' : Int) (H' : Hp), 0 ≤ r → r < many → t' ≤ t + 1 → PenAt H' p c cells t' l' → (∀ b o, H b = some o → b ≠ p → H' b = some o) → Q (.int r) H'
section
variable {P : Program} {w : World} {K : PySem.W.Frag} {mg : Str → Option Value} {base : Heap}
theorem scD : FnScope ["_law_pen_here", "_law_many", "_law_digit", "_law_turn", "_law_cell", "_law_primes", "_law_prime", "_law_drawn"] ["_law_pen_here", "_law_many"] (defScope sDraw) := ⟨rfl, rfl, rfl, by decide +kernel, rfl, by decide +kernel, by decide +kernel⟩
theorem ok_draw {f : Addr} {fd : FuncData} (F : Fun K "_law_draw" "_law_draw" sDraw f fd) (T : Bt mg) : FnOk P w K mg base CX0 1 f fd ["_law_pen_here", "_law_many"] spDraw := by
  refine F.ok scD (fun vs H Q E h => ?_) (fun cdv A outer s H vs Q E hr h => ?_)
  · obtain ⟨p, c, cells, t, l, many, rfl, _⟩ := h
    rfl
  · obtain ⟨p, c, cells, t, l, many, rfl, N, ht, hm1, hm2, k⟩ := h
    have hu := hu_of hr
    have hu64 := hr.units
    refine ⟨_, pss_cons (ps_if (pt_cmpR op_gt (pe_dget hu (pv 0) pe_str (fun _ _ => rfl)) pe_int (nomark _))
        (pss_cons (ps_set (i := 2) scD.nd rfl (Or.inl rfl) (pe_op op_modN (pe_callTy call_int1 (by rfl) T.int (by decide +kernel) (pa_cons (pe_dget hu (pv 0) pe_str (fun _ _ => rfl)) pa_nil)) (pv 1)))
        (pss_cons (ps_dput hu (pv 0) pe_str (pe_op op_fdivN (pe_dget hu (pv 0) pe_str (fun _ _ => rfl)) (pv 1)) rfl)
        (pss_one (ps_ret (pv 2))))) pss_nil)
      (pss_cons (ps_set (i := 3) scD.nd rfl (Or.inl rfl) (pe_dget hu (pv 0) pe_str (fun _ _ => rfl)))
      (pss_cons (ps_dput hu (pv 0) pe_str (pe_op op_add (pv 3) pe_int) rfl)
      (pss_cons (ps_set (i := 4) scD.nd rfl (Or.inl rfl) (pe_op op_add (pe_op op_mul pe_int (pv 3)) pe_int))
      (pss_cons (ps_if (pt_cmpR (op_neD hu64) (pe_dget hu (pv 0) pe_str (fun _ _ => rfl)) (pe_lst pa_nil) (nomark _))
        (pss_one (ps_set (i := 4) scD.nd rfl (Or.inl rfl) (pe_ix ix_list (pe_dget hu (pv 0) pe_str (fun _ _ => rfl))
          (pe_op op_modN (pe_callTy call_int1 (by rfl) T.int (by decide +kernel) (pa_cons (pv 3) pa_nil)) (pe_callB call_len (by rfl) T.len PySem.boot_len (pa_cons (pe_dget hu (pv 0) pe_str (fun _ _ => rfl)) pa_nil))) (fun _ _ => rfl)))) pss_nil)
      (pss_cons (ps_if (PW.pt (pw_and (pt_cmpR op_lt (pv 3) (pe_callB call_len (by rfl) T.len PySem.boot_len (pa_cons (pe_dget hu (pv 0) pe_str (fun _ _ => rfl)) pa_nil)) (nomark _))
          (pw_and1 (pt_cmpR op_ge (pe_callB call_abs (by rfl) T.abs (by decide +kernel) (pa_cons (pv 4) pa_nil)) (pe_op op_pow pe_int pe_int) (nomark _)))))
        (pss_cons (ps_dput hu (pv 0) pe_str (pe_op op_fdivN (pe_op op_sub (pe_callB call_abs (by rfl) T.abs (by decide +kernel) (pa_cons (pv 4) pa_nil)) (pe_op op_pow pe_int pe_int)) (pv 1)) rfl)
        (pss_one (ps_ret (pe_op op_modN (pe_op op_sub (pe_callB call_abs (by rfl) T.abs (by decide +kernel) (pa_cons (pv 4) pa_nil)) (pe_op op_pow pe_int pe_int)) (pv 1))))) pss_nil)
      (pss_cons (ps_set (i := 5) scD.nd rfl (Or.inl rfl) (pe_lst (pa_cons pe_int (pa_cons pe_int (pa_cons pe_int (pa_cons pe_int (pa_cons pe_int pa_nil)))))))
      (pss_cons (ps_set (i := 6) scD.nd rfl (Or.inl rfl) (pe_ix ix_list (pv 5) (pe_op op_modN (pe_callTy call_int1 (by rfl) T.int (by decide +kernel) (pa_cons (pv 3) pa_nil)) pe_int) (fun _ _ => rfl)))
      (pss_cons (ps_set (i := 7) scD.nd rfl (Or.inl rfl) (pe_op op_modN (pe_callTy call_int1 (by rfl) T.int (by decide +kernel) (pa_cons
          (pe_op op_add (pe_op op_add (pe_op op_mul (pe_op op_modN (pe_callTy call_int1 (by rfl) T.int (by decide +kernel) (pa_cons (pv 4) pa_nil)) (pv 6)) pe_int) (pe_op op_mul (pv 3) (pe_op op_add (pe_op op_mul pe_int (pv 3)) pe_int))) pe_int) pa_nil)) (pv 6)))
      (pss_cons (ps_set (i := 7) scD.nd rfl (Or.inl rfl) (pe_op op_modN (pe_callTy call_int1 (by rfl) T.int (by decide +kernel) (pa_cons (pe_op op_mul (pv 7) (pe_op op_add (pv 7) pe_int)) pa_nil))
          (pe_ix ix_list (pv 5) (pe_op op_modN (pe_callTy call_int1 (by rfl) T.int (by decide +kernel) (pa_cons (pe_op op_add (pv 3) pe_int) pa_nil)) pe_int) (fun _ _ => rfl))))
      (pss_one (ps_ret (pe_op op_modN (pe_callTy call_int1 (by rfl) T.int (by decide +kernel) (pa_cons (pe_op op_fdivN (pe_op op_modN (pe_callTy call_int1 (by rfl) T.int (by decide +kernel) (pa_cons
          (pe_op op_add (pe_op op_add (pe_op op_mul (pv 7) (pv 7)) (pe_op op_mul pe_int (pv 7))) (pv 3)) pa_nil)) pe_int) pe_int) pa_nil)) (pv 1))))))))))))), ?_⟩
    have ne0 : many ≠ 0 := by omega
    have cdn : many ≠ 0 ∧ many.natAbs < 1073741824 := ⟨ne0, by omega⟩
    have fmM : ∀ i : Int, 0 ≤ i.fmod many ∧ i.fmod many < many := fun i => fm (by omega)
    refine ⟨_, rfl, p, _, rfl, N.gL, _, _, rfl, rfl, _, rfl, ?_⟩
    refine ite2 (fun _ => ?_) (fun _ => ?_)
    · refine ⟨_, rfl, p, _, rfl, N.gL, .inl ⟨_, rfl, _, rfl, _, _, rfl, rfl, ne0, ?_⟩⟩
      refine ⟨_, rfl, p, _, rfl, N.gL, _, rfl, _, _, rfl, rfl, cdn, _, rfl, p, _, rfl, DPut.k (k := kLe) N.pen penLen, ?_⟩
      refine ⟨_, rfl, ?_⟩
      exact k _ t (l.fdiv many) _ (fmM l).1 (fmM l).2 (by omega) (N.left _) fun b o e hb => by rw [upd_ne hb]; exact e
    · refine ⟨_, rfl, p, _, rfl, N.gT, ?_⟩
      refine ⟨_, rfl, _, _, rfl, rfl, _, rfl, p, _, rfl, DPut.k (k := kTu) N.pen penLen, ?_⟩
      have N1 := N.turn (x := t + 1) (by have := N.t0; omega)
      have old1 : ∀ b o, H b = some o → b ≠ p → (upd H p (.dK (putK [(kCe, .ref c), (kTu, .int t), (kLe, .int l)] kTu (.int (t + 1))))) b = some o := fun b o e hb => by rw [upd_ne hb]; exact e
      revert N1 old1
      generalize (upd H p (.dK (putK [(kCe, .ref c), (kTu, .int t), (kLe, .int l)] kTu (.int (t + 1))))) = H1
      intro N1 old1
      refine ⟨_, rfl, _, _, rfl, rfl, .inl ⟨by decide, by decide⟩, _, _, rfl, rfl, ?_⟩
      refine ⟨_, rfl, p, _, rfl, N1.gC, by decide, fun q hq => ?_⟩
      have e1 : (upd H1 q (.lst [])) c = some (.lst (cells.map V.int)) := by rw [upd_ne (ne_of_none N1.lst hq)]; exact N1.lst
      refine ⟨.list (cells.map PyData.int), .list [], .lst (Or.inl (Or.inl e1)) (dpInts _ _ cells), .lst (Or.inl (Or.inl upd_same)) .nil, shapedInts cells, by decide +kernel, _, rfl, ?_⟩
      have s1 : Same H1 (upd H1 q (.lst [])) := fun b o e => by rw [upd_ne (ne_of_none e hq)]; exact e
      have N2 := N1.same s1
      have old2 : ∀ b o, H b = some o → b ≠ p → (upd H1 q (.lst [])) b = some o := fun b o e hb => s1 b o (old1 b o e hb)
      revert N2 old2
      generalize upd H1 q (.lst []) = H2
      intro N2 old2
      rw [eqvNil]
      by_cases hc : cells = []
      rw [decide_eq_true hc]
      refine iteF ?_
      rotate_left
      rw [decide_eq_false hc]
      refine iteT ?_
      have pos : (0 : Int) < cells.length := by
        have := List.length_pos_iff.mpr hc
        omega
      obtain ⟨z, hz⟩ := atCells (l := cells) (fm (i := t) pos).1 (fm (i := t) pos).2
      refine ⟨_, rfl, p, _, rfl, N2.gC, _, rfl, .inl ⟨_, rfl, _, rfl, p, _, rfl, N2.gC, _, cells.length, rfl, .inl ⟨_, Or.inl (Or.inl N2.lst), (List.length_map ..).symm⟩, _, _, rfl, rfl, (by omega), c, _, _, _, rfl, rfl, Or.inl (Or.inl N2.lst), hz, ?_⟩⟩
      all_goals
        have pw : (0 : Int) ≤ 18 ∧ (18 : Int) ≤ 1000000 ∧ (10 : Int).natAbs < 2 ^ 64 := ⟨by decide, by decide, by decide⟩
        refine ⟨_, rfl, _, rfl, p, _, rfl, N2.gC, _, cells.length, rfl, .inl ⟨_, Or.inl (Or.inl N2.lst), (List.length_map ..).symm⟩, _, _, rfl, rfl, _, rfl, ?_⟩
        refine ite2 (fun hA => ?_) (fun hA => ?_)
      all_goals try refine ⟨_, rfl, _, rfl, _, _, rfl, rfl, pw, _, _, rfl, rfl, _, rfl, ?_⟩
      all_goals try refine ite2 (fun hB => ?_) (fun hB => ?_)
      all_goals try first
        | exact absurd hB Bool.false_ne_true
        | (refine ⟨_, rfl, _, rfl, _, _, rfl, rfl, pw, _, _, rfl, rfl, _, rfl, _, _, rfl, rfl, cdn, _, rfl, p, _, rfl, DPut.k (k := kLe) N2.pen penLen, ?_⟩
           refine ⟨_, rfl, _, rfl, _, _, rfl, rfl, pw, _, _, rfl, rfl, _, rfl, _, _, rfl, rfl, ne0, ?_⟩
           exact k _ (t + 1) _ _ (fmM _).1 (fmM _).2 (by omega) (N2.left _) (fun b o e hb => by rw [upd_ne hb]; exact old2 b o e hb))
      all_goals
        obtain ⟨q1, hq1, lo1, hi1⟩ := prime_at (fm (i := t) (j := 5) (by decide)).1 (fm (i := t) (j := 5) (by decide)).2
        obtain ⟨q2, hq2, lo2, hi2⟩ := prime_at (fm (i := t + 2) (j := 5) (by decide)).1 (fm (i := t + 2) (j := 5) (by decide)).2
        have t0 := N.t0
        refine ⟨by decide, fun pr hpr => ?_⟩
        have here : (upd H2 pr (.lst (primes.map V.int))) pr = some (.lst (primes.map V.int)) := upd_same
        have s2 : Same H2 (upd H2 pr (.lst (primes.map V.int))) := fun b o e => by rw [upd_ne (ne_of_none e hpr)]; exact e
        have N3 := N2.same s2
        have old3 : ∀ b o, H b = some o → b ≠ p → (upd H2 pr (.lst (primes.map V.int))) b = some o := fun b o e hb => s2 b o (old2 b o e hb)
        have b1 : ∀ i : Int, -(2 ^ 64) < i.fmod q1 ∧ i.fmod q1 < 2 ^ 64 := fun i => ⟨by have := (fm (i := i) (j := q1) (by omega)).1; omega, by have := (fm (i := i) (j := q1) (by omega)).2; omega⟩
        have b2 : ∀ i : Int, -(2 ^ 64) < i.fmod q2 ∧ i.fmod q2 < 2 ^ 64 := fun i => ⟨by have := (fm (i := i) (j := q2) (by omega)).1; omega, by have := (fm (i := i) (j := q2) (by omega)).2; omega⟩
        have n1 : q1 ≠ 0 := by omega
        have n2 : q2 ≠ 0 := by omega
        have bt : -(2 ^ 64) < t ∧ t < 2 ^ 64 := ⟨by omega, by omega⟩
        refine ⟨_, rfl, _, rfl, .inl ⟨_, rfl, _, _, rfl, rfl, (show (5 : Int) ≠ 0 by decide), pr, _, _, _, rfl, rfl, Or.inl (Or.inl here), hq1, ?_⟩⟩
        refine ⟨_, rfl, .inl ⟨_, rfl, _, rfl, _, _, rfl, rfl, n1, _, _, rfl, rfl, .inr ⟨by decide, by decide⟩, _, rfl, _, rfl, _, _, rfl, rfl, .inl ⟨by decide, by decide⟩, _, _, rfl, rfl, _, _, rfl, rfl, .inl bt, _, _, rfl, rfl, _, _, rfl, rfl, .inl ⟨_, rfl, _, rfl, _, _, rfl, rfl, n1, ?_⟩⟩⟩
        refine ⟨_, rfl, _, rfl, _, _, rfl, rfl, _, _, rfl, rfl, .inl (b1 _), .inl ⟨_, rfl, _, rfl, _, rfl, _, _, rfl, rfl, .inl ⟨_, rfl, _, _, rfl, rfl, (show (5 : Int) ≠ 0 by decide), pr, _, _, _, rfl, rfl, Or.inl (Or.inl here), hq2, _, _, rfl, rfl, n2, ?_⟩⟩⟩
        refine ⟨_, rfl, _, rfl, _, _, rfl, rfl, .inl (b2 _), _, rfl, _, _, rfl, rfl, .inl ⟨by decide, by decide⟩, _, _, rfl, rfl, _, rfl, _, _, rfl, rfl, .inl ⟨_, rfl, _, _, rfl, rfl, (show (2147483549 : Int) ≠ 0 by decide), _, _, rfl, rfl, ⟨by decide, by decide⟩, .inl ⟨_, rfl, _, rfl, _, _, rfl, rfl, ne0, ?_⟩⟩⟩
        exact k _ (t + 1) _ _ (fmM _).1 (fmM _).2 (by omega) N3 old3
/-- the pen is made of the script -/
def spPen (K : PySem.W.Frag) : Sp := fun vs H Q _ => ∃ (a : Addr) (ns : List Int), vs = [.ref a] ∧ SqL K H a (ns.map V.int) ∧ ns.length ≤ 63 ∧ ∀ (p c : Addr) (H' : Hp), H p = none → H c = none → Same H H' → PenAt H' p c ns 0 0 → Q (.ref p) H'
theorem scPen : FnScope ["_law_script"] ["_law_script"] (defScope sPen) := ⟨rfl, rfl, rfl, by decide +kernel, rfl, by decide +kernel, by decide +kernel⟩
theorem ok_pen {f : Addr} {fd : FuncData} (F : Fun K "_law_pen" "_law_pen" sPen f fd) (T : Bt mg) : FnOk P w K mg base CX0 1 f fd ["_law_script"] (spPen K) := by
  refine F.ok scPen (fun vs H Q E h => ?_) (fun cdv A outer s H vs Q E hr h => ?_)
  · obtain ⟨a, ns, rfl, _⟩ := h
    rfl
  · obtain ⟨a, ns, rfl, hS, few, k⟩ := h
    refine ⟨_, pss_one (ps_ret (pe_disp (pps_cons pe_str (pe_callTy call_list_of (by rfl) T.list (by decide +kernel) (pa_cons (pe_slice sl_list (pv 0) po_none (po_some pe_int)) pa_nil))
      (pps_cons pe_str pe_int (pps_cons pe_str pe_int pps_nil))) (by rfl) (by rfl) (fun z => by cases z) (by decide))), ?_⟩
    intro p hp
    have s0 : Same H (upd H p (.dK [])) := fun b o e => by rw [upd_ne (ne_of_none e hp)]; exact e
    refine ⟨_, rfl, _, rfl, a, _, rfl, s0.seq hS, fun q hq => ?_⟩
    refine ⟨q, _, rfl, .inl (Or.inl (Or.inl upd_same)), fun c hc => ?_⟩
    rw [cut63 ns few] at hc ⊢
    have s1 : Same (upd H p (.dK [])) (upd (upd H p (.dK [])) q (.lst (ns.map V.int))) := fun b o e => by rw [upd_ne (ne_of_none e hq)]; exact e
    have s2 : Same (upd (upd H p (.dK [])) q (.lst (ns.map V.int))) (upd (upd (upd H p (.dK [])) q (.lst (ns.map V.int))) c (.lst (ns.map V.int))) := fun b o e => by rw [upd_ne (ne_of_none e hc)]; exact e
    have hpc : (upd (upd (upd H p (.dK [])) q (.lst (ns.map V.int))) c (.lst (ns.map V.int))) p = some (.dK []) := s2 _ _ (s1 _ _ upd_same)
    have npc : c ≠ p := fun z => by
      rw [z] at hc
      rw [s1 _ _ upd_same] at hc
      cases hc
    refine ⟨hpc, [(kCe, .ref c), (kTu, .int 0), (kLe, .int 0)], rfl, (show 3 ≤ 15 by decide), ?_⟩
    rw [merge3]
    refine k p c _ hp (s0.free (s1.free hc)) (fun b o e => ?_) ⟨upd_same, ?_, few, by decide⟩
    · rw [upd_ne (ne_of_none e hp)]
      exact s2 _ _ (s1 _ _ (s0 _ _ e))
    · rw [upd_ne npc, upd_same]
def spPick (K : PySem.W.Frag) : Sp := fun vs H Q _ => ∃ (p c o : Addr) (cells : List Int) (t l : Int) (xs : List V), vs = [.ref p, .ref o] ∧ PenAt H p c cells t l ∧ t ≤ 1000000 ∧ H o = some (.lst xs) ∧ 1 ≤ xs.length ∧ xs.length ≤ 1000000 ∧
  ∀ (x : V) (t' l' : Int) (H' : Hp), x ∈ xs → t' ≤ t + 1 → PenAt H' p c cells t' l' → (∀ b o, H b = some o → b ≠ p → H' b = some o) → Q x H'
theorem scPick : FnScope ["_law_pen_here", "_law_options"] ["_law_pen_here", "_law_options"] (defScope sPick) := ⟨rfl, rfl, rfl, by decide +kernel, rfl, by decide +kernel, by decide +kernel⟩
theorem ok_pick {f fD : Addr} {fd fdD : FuncData} (F : Fun K "_law_pick" "_law_pick" sPick f fd) (T : Bt mg) (GD : FnOk P w K mg base CX0 1 fD fdD ["_law_pen_here", "_law_many"] spDraw) (mD : mg "_law_draw" = some (.ref fD)) (kD : PySem.W.keepIn K (.ref fD) = true) (bD : Binds K fdD ["_law_pen_here", "_law_many"] []) :
    FnOk P w K mg base CX0 2 f fd ["_law_pen_here", "_law_options"] (spPick K) := by
  refine F.ok scPick (fun vs H Q E h => ?_) (fun cdv A outer s H vs Q E hr h => ?_)
  · obtain ⟨p, c, o, cells, t, l, xs, rfl, _⟩ := h
    rfl
  · obtain ⟨p, c, o, cells, t, l, xs, rfl, N, ht, ho, n1, n2, k⟩ := h
    refine ⟨_, pss_one (ps_ret (pe_ix ix_list (pv 1) (pe_call GD hr (by rfl) mD kD bD .nil pass0 (pa_cons (pv 0) (pa_cons (pe_callB call_len (by rfl) T.len PySem.boot_len (pa_cons (pv 1) pa_nil)) pa_nil))) (fun _ _ => rfl))), ?_⟩
    have nop : o ≠ p := ne_of ho N.pen (by intro z; cases z)
    refine ⟨_, rfl, _, rfl, _, rfl, .ref o, xs.length, rfl, .inl ⟨_, Or.inl (Or.inl ho), rfl⟩, ?_⟩
    refine ⟨p, c, cells, t, l, xs.length, rfl, N, ht, by omega, by omega, fun r t' l' H' r0 r1 ht' N' old => ?_⟩
    have hl : r.toNat < xs.length := by omega
    refine ⟨o, xs, r, xs[r.toNat], rfl, rfl, Or.inl (Or.inl (old _ _ ho nop)), at_of (j := r.toNat) (by omega) (List.getElem?_eq_getElem hl), ?_⟩
    exact k _ t' l' H' (List.getElem_mem hl) ht' N' old
end
end LW
/-! Any value: one of thirty-four data. -/
namespace LW
open PySem L2 G
abbrev sAny : Stmt := top 37
def opt1 : List PyData := [.none, .bool true, .bool false, .int 0, .int 1, .int (-1), .int (10 ^ 30 + 1), .str "", .str "a", .str "A", .str "abcdefghi", .tuple [], .tuple [.int 1], .list [.int 1], .dict [], .dict [(.str "a", .int 1)], .tuple [.none]]
def opt2 : List PyData := [.str "a b", .tuple [.str "a"], .tuple [.str "a", .str "b"], .list [.str "a", .str "b"], .tuple [.str "a", .int 1], .tuple [.int 1, .int 0], .tuple [.int 0, .int 1], .list [.int 0, .int 1], .tuple [.bool true, .int 2], .tuple [.str "a", .str ""], .str "="]
def opt3 : List PyData := [.tuple [.int 2, .tuple [.tuple [.str "a"], .tuple [.str "b"]]], .tuple [.int 0, .int (10 ^ 30 + 1)], .tuple [.str "a", .tuple [.str "b"]], .tuple [.str "", .str "a"], .int (10 ^ 59), .str "ann"]
def opts : List PyData := opt1 ++ opt2 ++ opt3
/-- such a datum is shown, alone and in a list of two, by a short text -/
def fits (d : PyData) : Bool := d.showable && decide (d.depth ≤ 20) && decide (d.shown.length ≤ 1000) && decide ((PyData.list [d, d]).shown.length ≤ 3000) && nd3 d
theorem opts_fit : opts.all fits = true := by decide +kernel
def spAny (K : PySem.W.Frag) : Sp := fun vs H Q _ => ∃ (p c : Addr) (cells : List Int) (t l : Int), vs = [.ref p] ∧ PenAt H p c cells t l ∧ t ≤ 1000000 ∧
  ∀ (v : V) (d : PyData) (t' l' : Int) (H' : Hp), d ∈ opts → Da K H' v d → t' ≤ t + 1 → PenAt H' p c cells t' l' → (∀ b o, H b = some o → b ≠ p → H' b = some o) → Q v H'
section
variable {P : Program} {w : World} {K : PySem.W.Frag} {mg : Str → Option Value} {base : Heap}
theorem scAny : FnScope ["_law_pen_here", "_law_some"] ["_law_pen_here"] (defScope sAny) := ⟨rfl, rfl, rfl, by decide +kernel, rfl, by decide +kernel, by decide +kernel⟩
theorem dt_great {n k : Int} (h : 0 ≤ k ∧ k ≤ 1000000 ∧ (10 : Int).natAbs < 2 ^ 64) (e : (10 : Int) ^ k.toNat + 1 = n) : Dt K (tOp (rI0 fun i j => V.int (i + j)) (tOp (rI CPow fun i j => V.int (i ^ j.toNat)) (tC (.int 10)) (tC (.int k))) (tC (.int 1))) (.int n) := fun σ H Q q =>
  ⟨_, _, rfl, rfl, h, _, _, rfl, rfl, by show Q (.int ((10 : Int) ^ k.toNat + 1)) H; rw [e]; exact q _ H (Same.refl H) (.int n)⟩
theorem dt_pow {n k : Int} (h : 0 ≤ k ∧ k ≤ 1000000 ∧ (10 : Int).natAbs < 2 ^ 64) (e : (10 : Int) ^ k.toNat = n) : Dt K (tOp (rI CPow fun i j => V.int (i ^ j.toNat)) (tC (.int 10)) (tC (.int k))) (.int n) := fun σ H Q q =>
  ⟨_, _, rfl, rfl, h, by show Q (.int ((10 : Int) ^ k.toNat)) H; rw [e]; exact q _ H (Same.refl H) (.int n)⟩
theorem dt_neg1 : Dt K (tUn (rU fun i => V.int (-i)) (tC (.int 1))) (.int (-1)) := fun σ H Q q => ⟨_, rfl, q _ H (Same.refl H) (.int (-1))⟩
theorem dt_emp : Dt K tDNewK (.dict []) := fun σ H Q q p hp => q _ _ (same_new hp) (.dct upd_same .nil .nil)
theorem dt_a1 : Dt K (tDisp [(tC (.str "a"), tC (.int 1))]) (.dict [(.str "a", .int 1)]) := fun σ H Q q p hp => by
  refine ⟨upd_same, [(Sum.inr (Str.ofString "a"), .int 1)], rfl, (show 1 ≤ 15 by decide), ?_⟩
  rw [upd_upd]
  exact q _ _ (same_new hp) (.dct upd_same (.cons (.str _) .nil) (.cons (.int 1) .nil))
end
end LW
namespace LW
open PySem L2 G
section
variable {P : Program} {w : World} {K : PySem.W.Frag} {mg : Str → Option Value} {base : Heap}
theorem lst_run {ta : TA} {ds : List PyData} (R : DtAll K ta ds) {σ : L2.St} {H : Hp} {Q : VK} (few : ds.length ≤ 1000) (h : ∀ xs H1 q, Same H H1 → DaAll K H1 xs ds → H1 q = none → Q (.ref q) (upd H1 q (.lst xs))) : tLstS ta σ H Q :=
  R σ H _ fun xs H1 s1 d1 => ⟨by rw [d1.length, sizeLine_eq]; omega, fun q hq _ => h xs H1 q s1 d1 hq⟩
theorem seq_lst {ta : TA} {ds : List PyData} {i : Nat} {u : TS} {D : Ends} (R : DtAll K ta ds) {σ : L2.St} {H : Hp} (few : ds.length ≤ 1000) (h : ∀ xs H1 q, Same H H1 → DaAll K H1 xs ds → H1 q = none → u D (σ.set i (some (.ref q))) (upd H1 q (.lst xs))) :
    tSeq (tAsg (tLstS ta) (gName i)) u D σ H := by
  unfold tSeq tAsg
  exact lst_run (Q := fun x H1 => gName i x σ H1 (u D)) R few h
theorem seq_cat {ta : TA} {ds : List PyData} {i j : Nat} {u : TS} {D : Ends} (R : DtAll K ta ds) {σ : L2.St} {H : Hp} {q1 : Addr} {xs1 : List V} (few : ds.length ≤ 1000) (f1 : xs1.length ≤ 1000) (hσ : σ[j]? = some (some (.ref q1))) (h1 : H q1 = some (.lst xs1))
    (h : ∀ xs H1 q, Same H H1 → DaAll K H1 xs ds → H1 q = none → u D (σ.set i (some (.ref q))) (upd H1 q (.lst (xs1 ++ xs)))) : tSeq (tAsg (tOp rCat (tVar j) (tLstS ta)) (gName i)) u D σ H := by
  refine ⟨_, hσ, lst_run R few fun xs H1 q s1 d1 hq => ?_⟩
  have t1 := same_new (o := .lst xs) hq
  refine ⟨q1, q, xs1, xs, rfl, rfl, t1 _ _ (s1 _ _ h1), upd_same, ?_, fun q3 hq3 => ?_⟩
  · rw [d1.length, sizeLine_eq]
    omega
  · exact h xs _ q3 (s1.trans t1) (d1.same t1) hq3
theorem ret_pick {ta : TA} {ds : List PyData} {sp : Sp} {D : Ends} (R : DtAll K ta ds) {σ : L2.St} {H : Hp} {q1 : Addr} {xs1 : List V} {v : V} (few : ds.length ≤ 1000) (f1 : xs1.length ≤ 1000) (h0 : σ[0]? = some (some v)) (hσ : σ[1]? = some (some (.ref q1))) (h1 : H q1 = some (.lst xs1))
    (h : ∀ xs H1 q, Same H H1 → DaAll K H1 xs ds → H1 q = none → sp [v, .ref q] (upd H1 q (.lst (xs1 ++ xs))) D.rt (fun _ _ _ => False)) :
    tRet (tCall sp [] (fun _ _ _ => False) (tCons (tVar 0) (tCons (tOp rCat (tVar 1) (tLstS ta)) tNil))) D σ H := by
  refine ⟨_, h0, _, hσ, lst_run R few fun xs H1 q s1 d1 hq => ?_⟩
  have t1 := same_new (o := .lst xs) hq
  refine ⟨q1, q, xs1, xs, rfl, rfl, t1 _ _ (s1 _ _ h1), upd_same, ?_, fun q3 hq3 => ?_⟩
  · rw [d1.length, sizeLine_eq]
    omega
  · exact h xs _ q3 (s1.trans t1) (d1.same t1) hq3
theorem ok_any {f fP : Addr} {fd fdP : FuncData} (F : Fun K "_law_any_value" "_law_any_value" sAny f fd) (GP : FnOk P w K mg base CX0 2 fP fdP ["_law_pen_here", "_law_options"] (spPick K)) (mP : mg "_law_pick" = some (.ref fP)) (kP : PySem.W.keepIn K (.ref fP) = true) (bP : Binds K fdP ["_law_pen_here", "_law_options"] []) :
    FnOk P w K mg base CX0 3 f fd ["_law_pen_here"] (spAny K) := by
  refine F.ok scAny (fun vs H Q E h => ?_) (fun cdv A outer s H vs Q E hr h => ?_)
  · obtain ⟨p, c, cells, t, l, rfl, _⟩ := h
    rfl
  · obtain ⟨p, c, cells, t, l, rfl, N, ht, k⟩ := h
    refine ⟨_, pss_cons (ps_set (i := 1) scAny.nd rfl (Or.inl rfl) (pe_lstS
        (pa_cons pe_non (pa_cons pe_bl (pa_cons pe_bl (pa_cons pe_int (pa_cons pe_int (pa_cons (pe_un un_neg pe_int) (pa_cons (pe_op op_add (pe_op op_pow pe_int pe_int) pe_int)
        (pa_cons pe_str (pa_cons pe_str (pa_cons pe_str (pa_cons pe_str (pa_cons (pe_tup pa_nil) (pa_cons (pe_tup (pa_cons pe_int pa_nil)) (pa_cons (pe_lstS (pa_cons pe_int pa_nil))
        (pa_cons pe_dnewK (pa_cons (pe_disp (pps_cons pe_str pe_int pps_nil) (by rfl) (by rfl) (fun z => by cases z) (by decide)) (pa_cons (pe_tup (pa_cons pe_non pa_nil)) pa_nil)))))))))))))))))))
      (pss_cons (ps_set (i := 1) scAny.nd rfl (Or.inl rfl) (pe_op op_cat (pv 1) (pe_lstS
        (pa_cons pe_str (pa_cons (pe_tup (pa_cons pe_str pa_nil)) (pa_cons (pe_tup (pa_cons pe_str (pa_cons pe_str pa_nil))) (pa_cons (pe_lstS (pa_cons pe_str (pa_cons pe_str pa_nil)))
        (pa_cons (pe_tup (pa_cons pe_str (pa_cons pe_int pa_nil))) (pa_cons (pe_tup (pa_cons pe_int (pa_cons pe_int pa_nil))) (pa_cons (pe_tup (pa_cons pe_int (pa_cons pe_int pa_nil)))
        (pa_cons (pe_lstS (pa_cons pe_int (pa_cons pe_int pa_nil))) (pa_cons (pe_tup (pa_cons pe_bl (pa_cons pe_int pa_nil))) (pa_cons (pe_tup (pa_cons pe_str (pa_cons pe_str pa_nil))) (pa_cons pe_str pa_nil))))))))))))))
      (pss_one (ps_ret (pe_call GP hr (by rfl) mP kP bP .nil pass0 (pa_cons (pv 0) (pa_cons (pe_op op_cat (pv 1) (pe_lstS
        (pa_cons (pe_tup (pa_cons pe_int (pa_cons (pe_tup (pa_cons (pe_tup (pa_cons pe_str pa_nil)) (pa_cons (pe_tup (pa_cons pe_str pa_nil)) pa_nil))) pa_nil)))
        (pa_cons (pe_tup (pa_cons pe_int (pa_cons (pe_op op_add (pe_op op_pow pe_int pe_int) pe_int) pa_nil))) (pa_cons (pe_tup (pa_cons pe_str (pa_cons (pe_tup (pa_cons pe_str pa_nil)) pa_nil)))
        (pa_cons (pe_tup (pa_cons pe_str (pa_cons pe_str pa_nil))) (pa_cons (pe_op op_pow pe_int pe_int) (pa_cons pe_str pa_nil)))))))) pa_nil)))))), ?_⟩
    have w30 : (0 : Int) ≤ 30 ∧ (30 : Int) ≤ 1000000 ∧ (10 : Int).natAbs < 2 ^ 64 := ⟨by decide, by decide, by decide⟩
    have w59 : (0 : Int) ≤ 59 ∧ (59 : Int) ≤ 1000000 ∧ (10 : Int).natAbs < 2 ^ 64 := ⟨by decide, by decide, by decide⟩
    have R1 : DtAll K _ opt1 := dta_cons dt_non (dta_cons dt_bl (dta_cons dt_bl (dta_cons dt_int (dta_cons dt_int (dta_cons dt_neg1 (dta_cons (dt_great w30 (by decide +kernel)) (dta_cons dt_str (dta_cons dt_str (dta_cons dt_str (dta_cons dt_str (dta_cons (dt_tup dta_nil)
      (dta_cons (dt_tup (dta_cons dt_int dta_nil)) (dta_cons (dt_lst (dta_cons dt_int dta_nil)) (dta_cons dt_emp (dta_cons dt_a1 (dta_cons (dt_tup (dta_cons dt_non dta_nil)) dta_nil))))))))))))))))
    have R2 : DtAll K _ opt2 := dta_cons dt_str (dta_cons (dt_tup (dta_cons dt_str dta_nil)) (dta_cons (dt_tup (dta_cons dt_str (dta_cons dt_str dta_nil))) (dta_cons (dt_lst (dta_cons dt_str (dta_cons dt_str dta_nil)))
      (dta_cons (dt_tup (dta_cons dt_str (dta_cons dt_int dta_nil))) (dta_cons (dt_tup (dta_cons dt_int (dta_cons dt_int dta_nil))) (dta_cons (dt_tup (dta_cons dt_int (dta_cons dt_int dta_nil)))
      (dta_cons (dt_lst (dta_cons dt_int (dta_cons dt_int dta_nil))) (dta_cons (dt_tup (dta_cons dt_bl (dta_cons dt_int dta_nil))) (dta_cons (dt_tup (dta_cons dt_str (dta_cons dt_str dta_nil))) (dta_cons dt_str dta_nil))))))))))
    have R3 : DtAll K _ opt3 := dta_cons (dt_tup (dta_cons dt_int (dta_cons (dt_tup (dta_cons (dt_tup (dta_cons dt_str dta_nil)) (dta_cons (dt_tup (dta_cons dt_str dta_nil)) dta_nil))) dta_nil)))
      (dta_cons (dt_tup (dta_cons dt_int (dta_cons (dt_great w30 (by decide +kernel)) dta_nil))) (dta_cons (dt_tup (dta_cons dt_str (dta_cons (dt_tup (dta_cons dt_str dta_nil)) dta_nil)))
      (dta_cons (dt_tup (dta_cons dt_str (dta_cons dt_str dta_nil))) (dta_cons (dt_pow w59 (by decide +kernel)) (dta_cons dt_str dta_nil)))))
    refine seq_lst R1 (by decide) fun xs1 H1 q1 s1 d1 hq1 => ?_
    have t1 := same_new (o := .lst xs1) hq1
    have l1 : xs1.length ≤ 1000 := by rw [d1.length]; decide
    refine seq_cat R2 (by decide) l1 rfl upd_same fun xs2 H2 q3 s2 d2 hq3 => ?_
    have t3 := same_new (o := .lst (xs1 ++ xs2)) hq3
    have l2 : (xs1 ++ xs2).length ≤ 1000 := by rw [List.length_append, d1.length, d2.length]; decide
    refine ret_pick R3 (by decide) l2 rfl rfl upd_same fun xs3 H3 q5 s3 d3 hq5 => ?_
    have t5 := same_new (o := .lst (xs1 ++ xs2 ++ xs3)) hq5
    have S2 := (t3.trans s3).trans t5
    have S1 := (t1.trans s2).trans S2
    have S0 := s1.trans S1
    have D : DaAll K _ (xs1 ++ xs2 ++ xs3) opts := ((d1.same S1).append (d2.same S2)).append (d3.same t5)
    have L := D.length
    refine ⟨p, c, q5, cells, t, l, xs1 ++ xs2 ++ xs3, rfl, N.same S0, ht, upd_same, by rw [L]; decide, by rw [L]; decide, fun x t' l' H' hx ht' N' old => ?_⟩
    obtain ⟨d, hd, da⟩ := D.mem hx
    have fit := List.all_eq_true.mp opts_fit d hd
    have n3 : nd3 d = true := by
      simp only [fits, Bool.and_eq_true] at fit
      exact fit.2
    refine k x d t' l' H' hd (da.but (N.same S0).pen rfl old n3) ht' N' fun b o e hb => old b o (S0 _ _ e) hb
end
end LW
/-! The classes of an error, and its sorts. -/
namespace LW
open PySem L2 G
abbrev sCls : Stmt := top 40
abbrev sSorts : Stmt := top 41
def spCls (K : PySem.W.Frag) (CL : List Addr) : Sp := fun vs H Q _ => ∃ (a C fI : Addr) (T : List Value), vs = [.ref a] ∧ ExK K C fI T ∧ ExAt H a C ∧ (∀ D ∈ CL, PySem.W.kitOne K (.ref C) (.ref D) = some (decide (C = D))) ∧
  ∀ l G, Same H G → G l = some (.lst ((CL.map fun D => decide (C = D)).map V.bl)) → Q (.ref l) G
def sortNames : List V := [.str "value", .str "lookup", .str "overflow", .str "runtime"]
def pickB : List V → List Bool → List V
  | x :: xs, b :: bs => if b = true then x :: pickB xs bs else pickB xs bs
  | _, _ => []
theorem pickB_len : ∀ (xs : List V) (bs : List Bool), (pickB xs bs).length ≤ xs.length
  | [], _ => by simp [pickB]
  | x :: xs, [] => by simp [pickB]
  | x :: xs, b :: bs => by
    have h := pickB_len xs bs
    cases b
    · show (pickB xs bs).length ≤ _
      rw [List.length_cons]
      omega
    · show (x :: pickB xs bs).length ≤ _
      rw [List.length_cons, List.length_cons]
      omega
theorem pickB_more : ∀ {xs : List V} {bs : List Bool} {i : Nat} {x : V} {b : Bool}, xs[i]? = some x → bs[i]? = some b → pickB (xs.take (i + 1)) (bs.take (i + 1)) = pickB (xs.take i) (bs.take i) ++ (if b = true then [x] else [])
  | [], _, i, x, b, h, _ => by simp at h
  | _ :: _, [], i, x, b, _, h => by simp at h
  | y :: xs, c :: bs, 0, x, b, h1, h2 => by
    obtain rfl : y = x := by simpa using h1
    obtain rfl : c = b := by simpa using h2
    simp [pickB]
  | y :: xs, c :: bs, i + 1, x, b, h1, h2 => by
    have ih := pickB_more (xs := xs) (bs := bs) (i := i) (x := x) (b := b) (by simpa using h1) (by simpa using h2)
    rw [List.take_succ_cons, List.take_succ_cons, List.take_succ_cons, List.take_succ_cons]
    show (if c = true then y :: pickB (xs.take (i + 1)) (bs.take (i + 1)) else pickB (xs.take (i + 1)) (bs.take (i + 1))) = (if c = true then y :: pickB (xs.take i) (bs.take i) else pickB (xs.take i) (bs.take i)) ++ _
    rw [ih]
    cases c
    · simp
    · simp
def spSorts (K : PySem.W.Frag) : Sp := fun vs H Q _ => ∃ (a C fI : Addr) (T : List Value) (b1 b2 b3 b4 : Bool), vs = [.ref a] ∧ ExK K C fI T ∧ ExAt H a C ∧ PySem.W.kitOne K (.ref C) (.type "ValueError") = some b1 ∧ PySem.W.kitOne K (.ref C) (.type "LookupError") = some b2 ∧
  PySem.W.kitOne K (.ref C) (.type "OverflowError") = some b3 ∧ PySem.W.kitOne K (.ref C) (.type "RuntimeError") = some b4 ∧ PySem.W.kitAny K (.ref C) [.type "IndexError", .type "KeyError", .type "NotImplementedError"] = some false ∧
  ∀ l G, Same H G → G l = some (.lst (pickB sortNames [b1, b2, b3, b4])) → Q (.ref l) G
section
variable {P : Program} {w : World} {K : PySem.W.Frag} {mg : Str → Option Value} {base : Heap}
theorem scCls : FnScope ["_law_error", "_law_found"] ["_law_error"] (defScope sCls) := ⟨rfl, rfl, rfl, by decide +kernel, rfl, by decide +kernel, by decide +kernel⟩
theorem ok_cls {f : Addr} {fd : FuncData} (F : Fun K "_law_classes" "_law_classes" sCls f fd) (ED : ExD K) (mi : mg "isinstance" = none) {C1 : Addr} (g1 : mg "InvalidWord" = some (.ref C1)) {C2 : Addr} (g2 : mg "InvalidChain" = some (.ref C2)) {C3 : Addr} (g3 : mg "InvalidStretch" = some (.ref C3)) {C4 : Addr} (g4 : mg "InvalidSubject" = some (.ref C4)) {C5 : Addr} (g5 : mg "InvalidTimes" = some (.ref C5)) {C6 : Addr} (g6 : mg "InvalidDay" = some (.ref C6)) {C7 : Addr} (g7 : mg "InvalidTable" = some (.ref C7)) {C8 : Addr} (g8 : mg "InvalidCount" = some (.ref C8)) {C9 : Addr} (g9 : mg "InvalidLogs" = some (.ref C9)) {C10 : Addr} (g10 : mg "InvalidStatement" = some (.ref C10)) {C11 : Addr} (g11 : mg "InvalidPart" = some (.ref C11)) {C12 : Addr} (g12 : mg "InvalidGuard" = some (.ref C12)) {C13 : Addr} (g13 : mg "InvalidText" = some (.ref C13)) {C14 : Addr} (g14 : mg "InvalidLine" = some (.ref C14)) {C15 : Addr} (g15 : mg "InvalidRow" = some (.ref C15)) {C16 : Addr} (g16 : mg "Repeated" = some (.ref C16)) {C17 : Addr} (g17 : mg "NotDone" = some (.ref C17)) {C18 : Addr} (g18 : mg "NotLeast" = some (.ref C18)) {C19 : Addr} (g19 : mg "OutOfRange" = some (.ref C19)) {C20 : Addr} (g20 : mg "NotMeant" = some (.ref C20)) {C21 : Addr} (g21 : mg "Missing" = some (.ref C21)) {C22 : Addr} (g22 : mg "TooMany" = some (.ref C22)) {C23 : Addr} (g23 : mg "Broken" = some (.ref C23)) {C24 : Addr} (g24 : mg "Closed" = some (.ref C24)) {C25 : Addr} (g25 : mg "Forked" = some (.ref C25)) :
    FnOk P w K mg base CX0 1 f fd ["_law_error"] (spCls K [C1, C2, C3, C4, C5, C6, C7, C8, C9, C10, C11, C12, C13, C14, C15, C16, C17, C18, C19, C20, C21, C22, C23, C24, C25]) := by
  refine F.ok scCls (fun vs H Q E h => ?_) (fun cdv A outer s H vs Q E hr h => ?_)
  · obtain ⟨a, C, fI, T, rfl, _⟩ := h
    rfl
  · obtain ⟨a, C, fI, T, rfl, R, e, kit, q⟩ := h
    refine ⟨_, pss_cons (ps_set (i := 1) scCls.nd rfl (Or.inl rfl) (pe_lst pa_nil))
      (pss_cons (ps_expr (pe_bm PySem.F.plainAttrs_list PySem.F.slot_list_extend PySem.F.type_list_extend mt_extend (pv 1) (pa_cons (pe_lst (pa_cons (pe_callB call_isx (by rfl) mi (by decide +kernel) (pa_cons (pv 0) (pa_cons (pe_glob (v := .ref C1) (by rfl) g1 rfl) pa_nil))) (pa_cons (pe_callB call_isx (by rfl) mi (by decide +kernel) (pa_cons (pv 0) (pa_cons (pe_glob (v := .ref C2) (by rfl) g2 rfl) pa_nil))) pa_nil))) pa_nil)))
      (pss_cons (ps_expr (pe_bm PySem.F.plainAttrs_list PySem.F.slot_list_extend PySem.F.type_list_extend mt_extend (pv 1) (pa_cons (pe_lst (pa_cons (pe_callB call_isx (by rfl) mi (by decide +kernel) (pa_cons (pv 0) (pa_cons (pe_glob (v := .ref C3) (by rfl) g3 rfl) pa_nil))) (pa_cons (pe_callB call_isx (by rfl) mi (by decide +kernel) (pa_cons (pv 0) (pa_cons (pe_glob (v := .ref C4) (by rfl) g4 rfl) pa_nil))) pa_nil))) pa_nil)))
      (pss_cons (ps_expr (pe_bm PySem.F.plainAttrs_list PySem.F.slot_list_extend PySem.F.type_list_extend mt_extend (pv 1) (pa_cons (pe_lst (pa_cons (pe_callB call_isx (by rfl) mi (by decide +kernel) (pa_cons (pv 0) (pa_cons (pe_glob (v := .ref C5) (by rfl) g5 rfl) pa_nil))) (pa_cons (pe_callB call_isx (by rfl) mi (by decide +kernel) (pa_cons (pv 0) (pa_cons (pe_glob (v := .ref C6) (by rfl) g6 rfl) pa_nil))) pa_nil))) pa_nil)))
      (pss_cons (ps_expr (pe_bm PySem.F.plainAttrs_list PySem.F.slot_list_extend PySem.F.type_list_extend mt_extend (pv 1) (pa_cons (pe_lst (pa_cons (pe_callB call_isx (by rfl) mi (by decide +kernel) (pa_cons (pv 0) (pa_cons (pe_glob (v := .ref C7) (by rfl) g7 rfl) pa_nil))) (pa_cons (pe_callB call_isx (by rfl) mi (by decide +kernel) (pa_cons (pv 0) (pa_cons (pe_glob (v := .ref C8) (by rfl) g8 rfl) pa_nil))) pa_nil))) pa_nil)))
      (pss_cons (ps_expr (pe_bm PySem.F.plainAttrs_list PySem.F.slot_list_extend PySem.F.type_list_extend mt_extend (pv 1) (pa_cons (pe_lst (pa_cons (pe_callB call_isx (by rfl) mi (by decide +kernel) (pa_cons (pv 0) (pa_cons (pe_glob (v := .ref C9) (by rfl) g9 rfl) pa_nil))) (pa_cons (pe_callB call_isx (by rfl) mi (by decide +kernel) (pa_cons (pv 0) (pa_cons (pe_glob (v := .ref C10) (by rfl) g10 rfl) pa_nil))) pa_nil))) pa_nil)))
      (pss_cons (ps_expr (pe_bm PySem.F.plainAttrs_list PySem.F.slot_list_extend PySem.F.type_list_extend mt_extend (pv 1) (pa_cons (pe_lst (pa_cons (pe_callB call_isx (by rfl) mi (by decide +kernel) (pa_cons (pv 0) (pa_cons (pe_glob (v := .ref C11) (by rfl) g11 rfl) pa_nil))) (pa_cons (pe_callB call_isx (by rfl) mi (by decide +kernel) (pa_cons (pv 0) (pa_cons (pe_glob (v := .ref C12) (by rfl) g12 rfl) pa_nil))) pa_nil))) pa_nil)))
      (pss_cons (ps_expr (pe_bm PySem.F.plainAttrs_list PySem.F.slot_list_extend PySem.F.type_list_extend mt_extend (pv 1) (pa_cons (pe_lst (pa_cons (pe_callB call_isx (by rfl) mi (by decide +kernel) (pa_cons (pv 0) (pa_cons (pe_glob (v := .ref C13) (by rfl) g13 rfl) pa_nil))) (pa_cons (pe_callB call_isx (by rfl) mi (by decide +kernel) (pa_cons (pv 0) (pa_cons (pe_glob (v := .ref C14) (by rfl) g14 rfl) pa_nil))) pa_nil))) pa_nil)))
      (pss_cons (ps_expr (pe_bm PySem.F.plainAttrs_list PySem.F.slot_list_extend PySem.F.type_list_extend mt_extend (pv 1) (pa_cons (pe_lst (pa_cons (pe_callB call_isx (by rfl) mi (by decide +kernel) (pa_cons (pv 0) (pa_cons (pe_glob (v := .ref C15) (by rfl) g15 rfl) pa_nil))) (pa_cons (pe_callB call_isx (by rfl) mi (by decide +kernel) (pa_cons (pv 0) (pa_cons (pe_glob (v := .ref C16) (by rfl) g16 rfl) pa_nil))) pa_nil))) pa_nil)))
      (pss_cons (ps_expr (pe_bm PySem.F.plainAttrs_list PySem.F.slot_list_extend PySem.F.type_list_extend mt_extend (pv 1) (pa_cons (pe_lst (pa_cons (pe_callB call_isx (by rfl) mi (by decide +kernel) (pa_cons (pv 0) (pa_cons (pe_glob (v := .ref C17) (by rfl) g17 rfl) pa_nil))) (pa_cons (pe_callB call_isx (by rfl) mi (by decide +kernel) (pa_cons (pv 0) (pa_cons (pe_glob (v := .ref C18) (by rfl) g18 rfl) pa_nil))) pa_nil))) pa_nil)))
      (pss_cons (ps_expr (pe_bm PySem.F.plainAttrs_list PySem.F.slot_list_extend PySem.F.type_list_extend mt_extend (pv 1) (pa_cons (pe_lst (pa_cons (pe_callB call_isx (by rfl) mi (by decide +kernel) (pa_cons (pv 0) (pa_cons (pe_glob (v := .ref C19) (by rfl) g19 rfl) pa_nil))) (pa_cons (pe_callB call_isx (by rfl) mi (by decide +kernel) (pa_cons (pv 0) (pa_cons (pe_glob (v := .ref C20) (by rfl) g20 rfl) pa_nil))) pa_nil))) pa_nil)))
      (pss_cons (ps_expr (pe_bm PySem.F.plainAttrs_list PySem.F.slot_list_extend PySem.F.type_list_extend mt_extend (pv 1) (pa_cons (pe_lst (pa_cons (pe_callB call_isx (by rfl) mi (by decide +kernel) (pa_cons (pv 0) (pa_cons (pe_glob (v := .ref C21) (by rfl) g21 rfl) pa_nil))) (pa_cons (pe_callB call_isx (by rfl) mi (by decide +kernel) (pa_cons (pv 0) (pa_cons (pe_glob (v := .ref C22) (by rfl) g22 rfl) pa_nil))) pa_nil))) pa_nil)))
      (pss_cons (ps_expr (pe_bm PySem.F.plainAttrs_list PySem.F.slot_list_extend PySem.F.type_list_extend mt_extend (pv 1) (pa_cons (pe_lst (pa_cons (pe_callB call_isx (by rfl) mi (by decide +kernel) (pa_cons (pv 0) (pa_cons (pe_glob (v := .ref C23) (by rfl) g23 rfl) pa_nil))) (pa_cons (pe_callB call_isx (by rfl) mi (by decide +kernel) (pa_cons (pv 0) (pa_cons (pe_glob (v := .ref C24) (by rfl) g24 rfl) pa_nil))) pa_nil))) pa_nil)))
      (pss_cons (ps_expr (pe_bm PySem.F.plainAttrs_list PySem.F.slot_list_extend PySem.F.type_list_extend mt_extend (pv 1) (pa_cons (pe_lst (pa_cons (pe_callB call_isx (by rfl) mi (by decide +kernel) (pa_cons (pv 0) (pa_cons (pe_glob (v := .ref C25) (by rfl) g25 rfl) pa_nil))) pa_nil)) pa_nil)))
      (pss_one (ps_ret (pv 1)))))))))))))))), ?_⟩
    refine seq_new fun l hl => ?_
    have S0 := same_new (o := .lst []) hl
    have e0 := e.same S0
    have h0 : (upd H l (.lst [])) l = some (.lst (([] : List Bool).map V.bl)) := upd_same
    refine seq_two R ED rfl rfl h0 (by simp) e0 S0 hl (kit C1 (by simp)) (kit C2 (by simp)) fun G1 S1 e1 h1 => ?_
    refine seq_two R ED rfl rfl h1 (by simp) e1 S1 hl (kit C3 (by simp)) (kit C4 (by simp)) fun G2 S2 e2 h2 => ?_
    refine seq_two R ED rfl rfl h2 (by simp) e2 S2 hl (kit C5 (by simp)) (kit C6 (by simp)) fun G3 S3 e3 h3 => ?_
    refine seq_two R ED rfl rfl h3 (by simp) e3 S3 hl (kit C7 (by simp)) (kit C8 (by simp)) fun G4 S4 e4 h4 => ?_
    refine seq_two R ED rfl rfl h4 (by simp) e4 S4 hl (kit C9 (by simp)) (kit C10 (by simp)) fun G5 S5 e5 h5 => ?_
    refine seq_two R ED rfl rfl h5 (by simp) e5 S5 hl (kit C11 (by simp)) (kit C12 (by simp)) fun G6 S6 e6 h6 => ?_
    refine seq_two R ED rfl rfl h6 (by simp) e6 S6 hl (kit C13 (by simp)) (kit C14 (by simp)) fun G7 S7 e7 h7 => ?_
    refine seq_two R ED rfl rfl h7 (by simp) e7 S7 hl (kit C15 (by simp)) (kit C16 (by simp)) fun G8 S8 e8 h8 => ?_
    refine seq_two R ED rfl rfl h8 (by simp) e8 S8 hl (kit C17 (by simp)) (kit C18 (by simp)) fun G9 S9 e9 h9 => ?_
    refine seq_two R ED rfl rfl h9 (by simp) e9 S9 hl (kit C19 (by simp)) (kit C20 (by simp)) fun G10 S10 e10 h10 => ?_
    refine seq_two R ED rfl rfl h10 (by simp) e10 S10 hl (kit C21 (by simp)) (kit C22 (by simp)) fun G11 S11 e11 h11 => ?_
    refine seq_two R ED rfl rfl h11 (by simp) e11 S11 hl (kit C23 (by simp)) (kit C24 (by simp)) fun G12 S12 e12 h12 => ?_
    refine seq_one R ED rfl rfl h12 (by simp) e12 S12 hl (kit C25 (by simp)) fun G13 S13 h13 => ?_
    exact ⟨_, rfl, q l G13 S13 h13⟩
theorem scSorts : FnScope ["_law_error", "_law_flags", "_law_one", "_law_flag"] ["_law_error"] (defScope sSorts) := ⟨rfl, rfl, rfl, by decide +kernel, rfl, by decide +kernel, by decide +kernel⟩
/-- the built-in classes' names stand for themselves -/
structure Bx (mg : Str → Option Value) : Prop where
  i : mg "isinstance" = none
  z : mg "zip" = none
  v : mg "ValueError" = none
  l : mg "LookupError" = none
  o : mg "OverflowError" = none
  r : mg "RuntimeError" = none
  x : mg "IndexError" = none
  k : mg "KeyError" = none
  n : mg "NotImplementedError" = none
theorem ok_sorts {f : Addr} {fd : FuncData} (F : Fun K "_law_sorts" "_law_sorts" sSorts f fd) (ED : ExD K) (B : Bx mg) : FnOk P w K mg base CX0 1 f fd ["_law_error"] (spSorts K) := by
  refine F.ok scSorts (fun vs H Q E h => ?_) (fun cdv A outer s H vs Q E hr h => ?_)
  · obtain ⟨a, C, fI, T, b1, b2, b3, b4, rfl, _⟩ := h
    rfl
  · obtain ⟨a, C, fI, T, b1, b2, b3, b4, rfl, R, e, k1, k2, k3, k4, k5, q⟩ := h
    refine ⟨_, pss_cons (ps_set (i := 1) scSorts.nd rfl (Or.inl rfl) (pe_lst (pa_cons (pe_callB call_isx (by rfl) B.i (by decide +kernel) (pa_cons (pv 0) (pa_cons (pe_bltn (v := .ty "ValueError") (by rfl) B.v (by decide +kernel) rfl) pa_nil)))
        (pa_cons (pe_callB call_isx (by rfl) B.i (by decide +kernel) (pa_cons (pv 0) (pa_cons (pe_bltn (v := .ty "LookupError") (by rfl) B.l (by decide +kernel) rfl) pa_nil))) pa_nil))))
      (pss_cons (ps_set (i := 1) scSorts.nd rfl (Or.inl rfl) (pe_op op_cat (pv 1) (pe_lst (pa_cons (pe_callB call_isx (by rfl) B.i (by decide +kernel) (pa_cons (pv 0) (pa_cons (pe_bltn (v := .ty "OverflowError") (by rfl) B.o (by decide +kernel) rfl) pa_nil)))
        (pa_cons (pe_callB call_isx (by rfl) B.i (by decide +kernel) (pa_cons (pv 0) (pa_cons (pe_bltn (v := .ty "RuntimeError") (by rfl) B.r (by decide +kernel) rfl) pa_nil))) pa_nil)))))
      (pss_cons (ps_if (pt_val (pe_callB call_isxT (by rfl) B.i (by decide +kernel) (pa_cons (pv 0) (pa_cons (pe_tup (pa_cons (pe_bltn (v := .ty "IndexError") (by rfl) B.x (by decide +kernel) rfl)
          (pa_cons (pe_bltn (v := .ty "KeyError") (by rfl) B.k (by decide +kernel) rfl) (pa_cons (pe_bltn (v := .ty "NotImplementedError") (by rfl) B.n (by decide +kernel) rfl) pa_nil)))) pa_nil)))) (pss_one (ps_ret (pe_lst (pa_cons pe_str pa_nil)))) pss_nil)
      (pss_one (ps_ret (pe_lc (own := [("_law_one", 2), ("_law_flag", 3)]) (g := gTup K 2 (gCons (gName 2) (gCons (gName 3) gNil))) rfl scSorts.nd (pi_zip (by rfl) B.z (pa_cons (pe_lst (pa_cons pe_str (pa_cons pe_str (pa_cons pe_str (pa_cons pe_str pa_nil))))) (pa_cons (pv 1) pa_nil)))
        (blkOk_by (own := [("_law_one", 2), ("_law_flag", 3)]) (N := ["_law_error", "_law_flags", "_law_one", "_law_flag"]) (sc := defScope sSorts) (by decide +kernel))
        (fun _ _ _ _ _ => pg_tup (n := 2) rfl (pgs_cons (pg_name (i := 2) scSorts.nd rfl (Or.inl rfl)) (pgs_cons (pg_name (i := 3) scSorts.nd rfl (Or.inl rfl)) pgs_nil)))
        (fun _ _ _ _ _ => pts_one (pt_val (pv 3))) (fun _ _ _ _ _ => pv 2)))))), ?_⟩
    refine ⟨_, rfl, a, C, fI, T, .ty "ValueError", _, b1, rfl, R, ED, e, .ty _, k1, ?_⟩
    refine ⟨_, rfl, a, C, fI, T, .ty "LookupError", _, b2, rfl, R, ED, e, .ty _, k2, (by show 2 ≤ sizeLine; decide), fun l1 n1 => ?_⟩
    have s1 := same_new (o := .lst [V.bl b1, V.bl b2]) n1
    have e1 := e.same s1
    refine ⟨_, rfl, _, rfl, a, C, fI, T, .ty "OverflowError", _, b3, rfl, R, ED, e1, .ty _, k3, ?_⟩
    refine ⟨_, rfl, a, C, fI, T, .ty "RuntimeError", _, b4, rfl, R, ED, e1, .ty _, k4, (by show 2 ≤ sizeLine; decide), fun l2 n2 => ?_⟩
    have s2 := same_new (o := .lst [V.bl b3, V.bl b4]) n2
    refine ⟨l1, l2, _, _, rfl, rfl, s2 _ _ upd_same, upd_same, (by show 4 ≤ sizeLine; decide), fun l3 n3 => ?_⟩
    have s3 := same_new (o := .lst ([V.bl b1, V.bl b2] ++ [V.bl b3, V.bl b4])) n3
    have e3 := (e1.same s2).same s3
    have g3 : (upd (upd (upd H l1 (.lst [V.bl b1, V.bl b2])) l2 (.lst [V.bl b3, V.bl b4])) l3 (.lst ([V.bl b1, V.bl b2] ++ [V.bl b3, V.bl b4]))) l3 = some (.lst [V.bl b1, V.bl b2, V.bl b3, V.bl b4]) := upd_same
    have S3 : Same H _ := (s1.trans s2).trans s3
    revert e3 g3 S3
    generalize (upd (upd (upd H l1 (.lst [V.bl b1, V.bl b2])) l2 (.lst [V.bl b3, V.bl b4])) l3 (.lst ([V.bl b1, V.bl b2] ++ [V.bl b3, V.bl b4]))) = H3
    intro e3 g3 S3
    refine ⟨_, rfl, (by show 3 ≤ sizeLine; decide), fun t nt => ?_⟩
    have s4 := same_new (o := .tup [V.ty "IndexError", V.ty "KeyError", V.ty "NotImplementedError"]) nt
    refine ⟨a, C, fI, t, T, _, _, false, rfl, R, ED, e3.same s4, upd_same, .cons (.ty _) (.cons (.ty _) (.cons (.ty _) .nil)), k5, ?_⟩
    refine ⟨_, rfl, ?_⟩
    refine iteF ?_
    refine ⟨(by show 4 ≤ sizeLine; decide), fun l4 n4 => ?_⟩
    have s5 := same_new (o := .lst sortNames) n4
    refine ⟨_, rfl, l4, l3, sortNames, _, rfl, Or.inl (Or.inl upd_same), Or.inl (Or.inl (s5 _ _ (s4 _ _ g3))), fun D nD => ?_⟩
    have g5 : (upd (upd H3 t (.tup [V.ty "IndexError", V.ty "KeyError", V.ty "NotImplementedError"])) l4 (.lst sortNames)) l4 = some (.lst sortNames) := upd_same
    have g6 := s5 _ _ (s4 _ _ g3)
    have S5 := (S3.trans s4).trans s5
    have nd := same_new (o := .lst []) nD
    refine lc_zip (K := K) (xs := sortNames) (ys := [b1, b2, b3, b4].map V.bl) rfl (fun i G => Same (upd (upd H3 t (.tup [V.ty "IndexError", V.ty "KeyError", V.ty "NotImplementedError"])) l4 (.lst sortNames)) G ∧ G D = some (.lst (pickB (sortNames.take i) ([b1, b2, b3, b4].take i)))) ⟨nd, upd_same⟩ (fun i G p => ⟨Or.inl (Or.inl (p.1 _ _ g5)), Or.inl (Or.inl (p.1 _ _ g6))⟩) (fun i x y t9 G hx hy p nt => ?_) (fun G p => ?_)
    · obtain ⟨b, hb, rfl⟩ : ∃ b, ([b1, b2, b3, b4] : List Bool)[i]? = some b ∧ V.bl b = y := by
        rw [List.getElem?_map] at hy
        cases z : ([b1, b2, b3, b4] : List Bool)[i]? with
        | none =>
          rw [z] at hy
          cases hy
        | some b =>
          rw [z] at hy
          exact ⟨b, rfl, Option.some.inj hy⟩
      have nt' := same_new (o := .tup [x, V.bl b]) nt
      have hD := nt' _ _ p.2
      have few : (pickB (sortNames.take i) ([b1, b2, b3, b4].take i)).length < sizeLine := by
        have := pickB_len (sortNames.take i) ([b1, b2, b3, b4].take i)
        have h2 : (sortNames.take i).length ≤ 4 := List.length_take_le' _ _
        rw [sizeLine_eq]
        omega
      refine ⟨t9, [x, V.bl b], rfl, Or.inl (Or.inl upd_same), rfl, x, [V.bl b], rfl, V.bl b, [], rfl, rfl, rfl, _, rfl, b, rfl, ?_⟩
      cases b with
      | true =>
        refine iteT ⟨_, rfl, _, hD, few, fun c o z => ?_, ?_⟩
        · have ne : c ≠ D := ne_of_none z nD
          rw [upd_ne ne]
          exact nt' _ _ (p.1 _ _ z)
        · rw [upd_same, pickB_more hx hb]
          rfl
      | false =>
        refine iteF ⟨fun c o z => nt' _ _ (p.1 _ _ z), ?_⟩
        rw [hD, pickB_more hx hb]
        simp
    · exact q D G (S5.trans p.1) p.2
end
end LW
/-! The errors: each __init__ by its promise. -/
namespace LW
open PySem L2 G
abbrev sI (i : Nat) : Stmt := inClass (top i) 0
/-- a class of errors with one field f, as the walk needs it -/
structure Cl1 (P : Program) (w : World) (K : PySem.W.Frag) (mg : Str → Option Value) (base : Heap) (x f : Str) (C fI : Addr) (fd : FuncData) (T : List Value) : Prop where
  g : mg x = some (.ref C)
  R : ExK K C fI T
  nf : PySem.W.findIn K (.ref C) f = some none
  I : FnOk P w K mg base CX0 1 fI fd ["self", f] (spF1 C f)
  b : Binds K fd ["self", f] []
  bk : ∀ (s : Shared) (u : Value) (ws : List Value), K.In s.heap → ws.length = [f].length → BindsTo s fd ⟨[u], [f].zip ws⟩ (([Str.ofString "self", f]).zip (u :: ws))
/-- .. with two fields; the keywords in the order ks, perm puts them right -/
structure Cl2 (P : Program) (w : World) (K : PySem.W.Frag) (mg : Str → Option Value) (base : Heap) (x f h : Str) (ks : List Str) (perm : {α : Type} → List α → List α) (C fI : Addr) (fd : FuncData) (T : List Value) : Prop where
  g : mg x = some (.ref C)
  R : ExK K C fI T
  n1 : PySem.W.findIn K (.ref C) f = some none
  n2 : PySem.W.findIn K (.ref C) h = some none
  I : FnOk P w K mg base CX0 1 fI fd ["self", f, h] (spF2 C f h)
  b : Binds K fd ["self", f, h] []
  bk : ∀ (s : Shared) (u : Value) (ws : List Value), K.In s.heap → ws.length = ks.length → BindsTo s fd ⟨[u], ks.zip ws⟩ (([Str.ofString "self", f, h]).zip (u :: perm ws))
section
variable {P : Program} {w : World} {K : PySem.W.Frag} {mg : Str → Option Value} {base : Heap} {C fI : Addr} {fd : FuncData} {T : List Value}

theorem sc_1 : FnScope ["self", "value"] ["self", "value"] (defScope (sI 1)) := ⟨rfl, rfl, rfl, by decide +kernel, rfl, by decide +kernel, by decide +kernel⟩
theorem cl_1 (g : mg "InvalidWord" = some (.ref C)) (R : ExK K C fI T) (nf : PySem.W.findIn K (.ref C) "value" = some none) (tk : PySem.W.takerIn K C "value" = some none) (F : Fun K "__init__" "InvalidWord.__init__" (sI 1) fI fd) : Cl1 P w K mg base "InvalidWord" "value" C fI fd T := by
  refine ⟨g, R, nf, F.ok sc_1 (fun vs H Q E h => ?_) (fun cdv A outer s H vs Q E hr h => ?_), F.binds fun _ _ _ _ _ _ us hl => match us, hl with | [_, _], _ => rfl, fun s u ws _ hl => ?_⟩
  · obtain ⟨a, v, rfl, _⟩ := h
    rfl
  · obtain ⟨a, v, rfl, ea, q⟩ := h
    refine ⟨_, pss_one (ps_set_ex (pv 0) (pv 1)), ?_⟩
    exact ⟨_, rfl, _, rfl, a, C, fI, T, rfl, R, tk, .inl ⟨ea, fun d n ne => q d n ne⟩⟩
  · obtain ⟨oc, od, kV, doc, pm, an, cdv, ct, osl, rfl, _, _⟩ := F.ex
    match ws, hl with
    | [_], _ => exact BindsTo.of_eq rfl

theorem sc_2 : FnScope ["self", "value"] ["self", "value"] (defScope (sI 2)) := ⟨rfl, rfl, rfl, by decide +kernel, rfl, by decide +kernel, by decide +kernel⟩
theorem cl_2 (g : mg "InvalidChain" = some (.ref C)) (R : ExK K C fI T) (nf : PySem.W.findIn K (.ref C) "value" = some none) (tk : PySem.W.takerIn K C "value" = some none) (F : Fun K "__init__" "InvalidChain.__init__" (sI 2) fI fd) : Cl1 P w K mg base "InvalidChain" "value" C fI fd T := by
  refine ⟨g, R, nf, F.ok sc_2 (fun vs H Q E h => ?_) (fun cdv A outer s H vs Q E hr h => ?_), F.binds fun _ _ _ _ _ _ us hl => match us, hl with | [_, _], _ => rfl, fun s u ws _ hl => ?_⟩
  · obtain ⟨a, v, rfl, _⟩ := h
    rfl
  · obtain ⟨a, v, rfl, ea, q⟩ := h
    refine ⟨_, pss_one (ps_set_ex (pv 0) (pv 1)), ?_⟩
    exact ⟨_, rfl, _, rfl, a, C, fI, T, rfl, R, tk, .inl ⟨ea, fun d n ne => q d n ne⟩⟩
  · obtain ⟨oc, od, kV, doc, pm, an, cdv, ct, osl, rfl, _, _⟩ := F.ex
    match ws, hl with
    | [_], _ => exact BindsTo.of_eq rfl

theorem sc_3 : FnScope ["self", "value"] ["self", "value"] (defScope (sI 3)) := ⟨rfl, rfl, rfl, by decide +kernel, rfl, by decide +kernel, by decide +kernel⟩
theorem cl_3 (g : mg "InvalidStretch" = some (.ref C)) (R : ExK K C fI T) (nf : PySem.W.findIn K (.ref C) "value" = some none) (tk : PySem.W.takerIn K C "value" = some none) (F : Fun K "__init__" "InvalidStretch.__init__" (sI 3) fI fd) : Cl1 P w K mg base "InvalidStretch" "value" C fI fd T := by
  refine ⟨g, R, nf, F.ok sc_3 (fun vs H Q E h => ?_) (fun cdv A outer s H vs Q E hr h => ?_), F.binds fun _ _ _ _ _ _ us hl => match us, hl with | [_, _], _ => rfl, fun s u ws _ hl => ?_⟩
  · obtain ⟨a, v, rfl, _⟩ := h
    rfl
  · obtain ⟨a, v, rfl, ea, q⟩ := h
    refine ⟨_, pss_one (ps_set_ex (pv 0) (pv 1)), ?_⟩
    exact ⟨_, rfl, _, rfl, a, C, fI, T, rfl, R, tk, .inl ⟨ea, fun d n ne => q d n ne⟩⟩
  · obtain ⟨oc, od, kV, doc, pm, an, cdv, ct, osl, rfl, _, _⟩ := F.ex
    match ws, hl with
    | [_], _ => exact BindsTo.of_eq rfl

theorem sc_4 : FnScope ["self", "value"] ["self", "value"] (defScope (sI 4)) := ⟨rfl, rfl, rfl, by decide +kernel, rfl, by decide +kernel, by decide +kernel⟩
theorem cl_4 (g : mg "InvalidSubject" = some (.ref C)) (R : ExK K C fI T) (nf : PySem.W.findIn K (.ref C) "value" = some none) (tk : PySem.W.takerIn K C "value" = some none) (F : Fun K "__init__" "InvalidSubject.__init__" (sI 4) fI fd) : Cl1 P w K mg base "InvalidSubject" "value" C fI fd T := by
  refine ⟨g, R, nf, F.ok sc_4 (fun vs H Q E h => ?_) (fun cdv A outer s H vs Q E hr h => ?_), F.binds fun _ _ _ _ _ _ us hl => match us, hl with | [_, _], _ => rfl, fun s u ws _ hl => ?_⟩
  · obtain ⟨a, v, rfl, _⟩ := h
    rfl
  · obtain ⟨a, v, rfl, ea, q⟩ := h
    refine ⟨_, pss_one (ps_set_ex (pv 0) (pv 1)), ?_⟩
    exact ⟨_, rfl, _, rfl, a, C, fI, T, rfl, R, tk, .inl ⟨ea, fun d n ne => q d n ne⟩⟩
  · obtain ⟨oc, od, kV, doc, pm, an, cdv, ct, osl, rfl, _, _⟩ := F.ex
    match ws, hl with
    | [_], _ => exact BindsTo.of_eq rfl

theorem sc_5 : FnScope ["self", "value"] ["self", "value"] (defScope (sI 5)) := ⟨rfl, rfl, rfl, by decide +kernel, rfl, by decide +kernel, by decide +kernel⟩
theorem cl_5 (g : mg "InvalidTimes" = some (.ref C)) (R : ExK K C fI T) (nf : PySem.W.findIn K (.ref C) "value" = some none) (tk : PySem.W.takerIn K C "value" = some none) (F : Fun K "__init__" "InvalidTimes.__init__" (sI 5) fI fd) : Cl1 P w K mg base "InvalidTimes" "value" C fI fd T := by
  refine ⟨g, R, nf, F.ok sc_5 (fun vs H Q E h => ?_) (fun cdv A outer s H vs Q E hr h => ?_), F.binds fun _ _ _ _ _ _ us hl => match us, hl with | [_, _], _ => rfl, fun s u ws _ hl => ?_⟩
  · obtain ⟨a, v, rfl, _⟩ := h
    rfl
  · obtain ⟨a, v, rfl, ea, q⟩ := h
    refine ⟨_, pss_one (ps_set_ex (pv 0) (pv 1)), ?_⟩
    exact ⟨_, rfl, _, rfl, a, C, fI, T, rfl, R, tk, .inl ⟨ea, fun d n ne => q d n ne⟩⟩
  · obtain ⟨oc, od, kV, doc, pm, an, cdv, ct, osl, rfl, _, _⟩ := F.ex
    match ws, hl with
    | [_], _ => exact BindsTo.of_eq rfl

theorem sc_6 : FnScope ["self", "value"] ["self", "value"] (defScope (sI 6)) := ⟨rfl, rfl, rfl, by decide +kernel, rfl, by decide +kernel, by decide +kernel⟩
theorem cl_6 (g : mg "InvalidDay" = some (.ref C)) (R : ExK K C fI T) (nf : PySem.W.findIn K (.ref C) "value" = some none) (tk : PySem.W.takerIn K C "value" = some none) (F : Fun K "__init__" "InvalidDay.__init__" (sI 6) fI fd) : Cl1 P w K mg base "InvalidDay" "value" C fI fd T := by
  refine ⟨g, R, nf, F.ok sc_6 (fun vs H Q E h => ?_) (fun cdv A outer s H vs Q E hr h => ?_), F.binds fun _ _ _ _ _ _ us hl => match us, hl with | [_, _], _ => rfl, fun s u ws _ hl => ?_⟩
  · obtain ⟨a, v, rfl, _⟩ := h
    rfl
  · obtain ⟨a, v, rfl, ea, q⟩ := h
    refine ⟨_, pss_one (ps_set_ex (pv 0) (pv 1)), ?_⟩
    exact ⟨_, rfl, _, rfl, a, C, fI, T, rfl, R, tk, .inl ⟨ea, fun d n ne => q d n ne⟩⟩
  · obtain ⟨oc, od, kV, doc, pm, an, cdv, ct, osl, rfl, _, _⟩ := F.ex
    match ws, hl with
    | [_], _ => exact BindsTo.of_eq rfl

theorem sc_7 : FnScope ["self", "value"] ["self", "value"] (defScope (sI 7)) := ⟨rfl, rfl, rfl, by decide +kernel, rfl, by decide +kernel, by decide +kernel⟩
theorem cl_7 (g : mg "InvalidTable" = some (.ref C)) (R : ExK K C fI T) (nf : PySem.W.findIn K (.ref C) "value" = some none) (tk : PySem.W.takerIn K C "value" = some none) (F : Fun K "__init__" "InvalidTable.__init__" (sI 7) fI fd) : Cl1 P w K mg base "InvalidTable" "value" C fI fd T := by
  refine ⟨g, R, nf, F.ok sc_7 (fun vs H Q E h => ?_) (fun cdv A outer s H vs Q E hr h => ?_), F.binds fun _ _ _ _ _ _ us hl => match us, hl with | [_, _], _ => rfl, fun s u ws _ hl => ?_⟩
  · obtain ⟨a, v, rfl, _⟩ := h
    rfl
  · obtain ⟨a, v, rfl, ea, q⟩ := h
    refine ⟨_, pss_one (ps_set_ex (pv 0) (pv 1)), ?_⟩
    exact ⟨_, rfl, _, rfl, a, C, fI, T, rfl, R, tk, .inl ⟨ea, fun d n ne => q d n ne⟩⟩
  · obtain ⟨oc, od, kV, doc, pm, an, cdv, ct, osl, rfl, _, _⟩ := F.ex
    match ws, hl with
    | [_], _ => exact BindsTo.of_eq rfl

theorem sc_8 : FnScope ["self", "value"] ["self", "value"] (defScope (sI 8)) := ⟨rfl, rfl, rfl, by decide +kernel, rfl, by decide +kernel, by decide +kernel⟩
theorem cl_8 (g : mg "InvalidCount" = some (.ref C)) (R : ExK K C fI T) (nf : PySem.W.findIn K (.ref C) "value" = some none) (tk : PySem.W.takerIn K C "value" = some none) (F : Fun K "__init__" "InvalidCount.__init__" (sI 8) fI fd) : Cl1 P w K mg base "InvalidCount" "value" C fI fd T := by
  refine ⟨g, R, nf, F.ok sc_8 (fun vs H Q E h => ?_) (fun cdv A outer s H vs Q E hr h => ?_), F.binds fun _ _ _ _ _ _ us hl => match us, hl with | [_, _], _ => rfl, fun s u ws _ hl => ?_⟩
  · obtain ⟨a, v, rfl, _⟩ := h
    rfl
  · obtain ⟨a, v, rfl, ea, q⟩ := h
    refine ⟨_, pss_one (ps_set_ex (pv 0) (pv 1)), ?_⟩
    exact ⟨_, rfl, _, rfl, a, C, fI, T, rfl, R, tk, .inl ⟨ea, fun d n ne => q d n ne⟩⟩
  · obtain ⟨oc, od, kV, doc, pm, an, cdv, ct, osl, rfl, _, _⟩ := F.ex
    match ws, hl with
    | [_], _ => exact BindsTo.of_eq rfl

theorem sc_9 : FnScope ["self", "value"] ["self", "value"] (defScope (sI 9)) := ⟨rfl, rfl, rfl, by decide +kernel, rfl, by decide +kernel, by decide +kernel⟩
theorem cl_9 (g : mg "InvalidLogs" = some (.ref C)) (R : ExK K C fI T) (nf : PySem.W.findIn K (.ref C) "value" = some none) (tk : PySem.W.takerIn K C "value" = some none) (F : Fun K "__init__" "InvalidLogs.__init__" (sI 9) fI fd) : Cl1 P w K mg base "InvalidLogs" "value" C fI fd T := by
  refine ⟨g, R, nf, F.ok sc_9 (fun vs H Q E h => ?_) (fun cdv A outer s H vs Q E hr h => ?_), F.binds fun _ _ _ _ _ _ us hl => match us, hl with | [_, _], _ => rfl, fun s u ws _ hl => ?_⟩
  · obtain ⟨a, v, rfl, _⟩ := h
    rfl
  · obtain ⟨a, v, rfl, ea, q⟩ := h
    refine ⟨_, pss_one (ps_set_ex (pv 0) (pv 1)), ?_⟩
    exact ⟨_, rfl, _, rfl, a, C, fI, T, rfl, R, tk, .inl ⟨ea, fun d n ne => q d n ne⟩⟩
  · obtain ⟨oc, od, kV, doc, pm, an, cdv, ct, osl, rfl, _, _⟩ := F.ex
    match ws, hl with
    | [_], _ => exact BindsTo.of_eq rfl

theorem sc_10 : FnScope ["self", "index"] ["self", "index"] (defScope (sI 10)) := ⟨rfl, rfl, rfl, by decide +kernel, rfl, by decide +kernel, by decide +kernel⟩
theorem cl_10 (g : mg "InvalidStatement" = some (.ref C)) (R : ExK K C fI T) (nf : PySem.W.findIn K (.ref C) "index" = some none) (tk : PySem.W.takerIn K C "index" = some none) (F : Fun K "__init__" "InvalidStatement.__init__" (sI 10) fI fd) : Cl1 P w K mg base "InvalidStatement" "index" C fI fd T := by
  refine ⟨g, R, nf, F.ok sc_10 (fun vs H Q E h => ?_) (fun cdv A outer s H vs Q E hr h => ?_), F.binds fun _ _ _ _ _ _ us hl => match us, hl with | [_, _], _ => rfl, fun s u ws _ hl => ?_⟩
  · obtain ⟨a, v, rfl, _⟩ := h
    rfl
  · obtain ⟨a, v, rfl, ea, q⟩ := h
    refine ⟨_, pss_one (ps_set_ex (pv 0) (pv 1)), ?_⟩
    exact ⟨_, rfl, _, rfl, a, C, fI, T, rfl, R, tk, .inl ⟨ea, fun d n ne => q d n ne⟩⟩
  · obtain ⟨oc, od, kV, doc, pm, an, cdv, ct, osl, rfl, _, _⟩ := F.ex
    match ws, hl with
    | [_], _ => exact BindsTo.of_eq rfl

theorem sc_11 : FnScope ["self", "index"] ["self", "index"] (defScope (sI 11)) := ⟨rfl, rfl, rfl, by decide +kernel, rfl, by decide +kernel, by decide +kernel⟩
theorem cl_11 (g : mg "InvalidPart" = some (.ref C)) (R : ExK K C fI T) (nf : PySem.W.findIn K (.ref C) "index" = some none) (tk : PySem.W.takerIn K C "index" = some none) (F : Fun K "__init__" "InvalidPart.__init__" (sI 11) fI fd) : Cl1 P w K mg base "InvalidPart" "index" C fI fd T := by
  refine ⟨g, R, nf, F.ok sc_11 (fun vs H Q E h => ?_) (fun cdv A outer s H vs Q E hr h => ?_), F.binds fun _ _ _ _ _ _ us hl => match us, hl with | [_, _], _ => rfl, fun s u ws _ hl => ?_⟩
  · obtain ⟨a, v, rfl, _⟩ := h
    rfl
  · obtain ⟨a, v, rfl, ea, q⟩ := h
    refine ⟨_, pss_one (ps_set_ex (pv 0) (pv 1)), ?_⟩
    exact ⟨_, rfl, _, rfl, a, C, fI, T, rfl, R, tk, .inl ⟨ea, fun d n ne => q d n ne⟩⟩
  · obtain ⟨oc, od, kV, doc, pm, an, cdv, ct, osl, rfl, _, _⟩ := F.ex
    match ws, hl with
    | [_], _ => exact BindsTo.of_eq rfl

theorem sc_12 : FnScope ["self", "index"] ["self", "index"] (defScope (sI 12)) := ⟨rfl, rfl, rfl, by decide +kernel, rfl, by decide +kernel, by decide +kernel⟩
theorem cl_12 (g : mg "InvalidGuard" = some (.ref C)) (R : ExK K C fI T) (nf : PySem.W.findIn K (.ref C) "index" = some none) (tk : PySem.W.takerIn K C "index" = some none) (F : Fun K "__init__" "InvalidGuard.__init__" (sI 12) fI fd) : Cl1 P w K mg base "InvalidGuard" "index" C fI fd T := by
  refine ⟨g, R, nf, F.ok sc_12 (fun vs H Q E h => ?_) (fun cdv A outer s H vs Q E hr h => ?_), F.binds fun _ _ _ _ _ _ us hl => match us, hl with | [_, _], _ => rfl, fun s u ws _ hl => ?_⟩
  · obtain ⟨a, v, rfl, _⟩ := h
    rfl
  · obtain ⟨a, v, rfl, ea, q⟩ := h
    refine ⟨_, pss_one (ps_set_ex (pv 0) (pv 1)), ?_⟩
    exact ⟨_, rfl, _, rfl, a, C, fI, T, rfl, R, tk, .inl ⟨ea, fun d n ne => q d n ne⟩⟩
  · obtain ⟨oc, od, kV, doc, pm, an, cdv, ct, osl, rfl, _, _⟩ := F.ex
    match ws, hl with
    | [_], _ => exact BindsTo.of_eq rfl

theorem sc_13 : FnScope ["self", "index"] ["self", "index"] (defScope (sI 13)) := ⟨rfl, rfl, rfl, by decide +kernel, rfl, by decide +kernel, by decide +kernel⟩
theorem cl_13 (g : mg "InvalidText" = some (.ref C)) (R : ExK K C fI T) (nf : PySem.W.findIn K (.ref C) "index" = some none) (tk : PySem.W.takerIn K C "index" = some none) (F : Fun K "__init__" "InvalidText.__init__" (sI 13) fI fd) : Cl1 P w K mg base "InvalidText" "index" C fI fd T := by
  refine ⟨g, R, nf, F.ok sc_13 (fun vs H Q E h => ?_) (fun cdv A outer s H vs Q E hr h => ?_), F.binds fun _ _ _ _ _ _ us hl => match us, hl with | [_, _], _ => rfl, fun s u ws _ hl => ?_⟩
  · obtain ⟨a, v, rfl, _⟩ := h
    rfl
  · obtain ⟨a, v, rfl, ea, q⟩ := h
    refine ⟨_, pss_one (ps_set_ex (pv 0) (pv 1)), ?_⟩
    exact ⟨_, rfl, _, rfl, a, C, fI, T, rfl, R, tk, .inl ⟨ea, fun d n ne => q d n ne⟩⟩
  · obtain ⟨oc, od, kV, doc, pm, an, cdv, ct, osl, rfl, _, _⟩ := F.ex
    match ws, hl with
    | [_], _ => exact BindsTo.of_eq rfl

theorem sc_14 : FnScope ["self", "line", "index"] ["self", "line", "index"] (defScope (sI 14)) := ⟨rfl, rfl, rfl, by decide +kernel, rfl, by decide +kernel, by decide +kernel⟩
theorem cl_14 (g : mg "InvalidLine" = some (.ref C)) (R : ExK K C fI T) (n1 : PySem.W.findIn K (.ref C) "line" = some none) (n2 : PySem.W.findIn K (.ref C) "index" = some none) (k1 : PySem.W.takerIn K C "line" = some none) (k2 : PySem.W.takerIn K C "index" = some none) (F : Fun K "__init__" "InvalidLine.__init__" (sI 14) fI fd) :
    Cl2 P w K mg base "InvalidLine" "line" "index" ["line", "index"] (fun l => l) C fI fd T := by
  refine ⟨g, R, n1, n2, F.ok sc_14 (fun vs H Q E h => ?_) (fun cdv A outer s H vs Q E hr h => ?_), F.binds fun _ _ _ _ _ _ us hl => match us, hl with | [_, _, _], _ => rfl, fun s u ws _ hl => ?_⟩
  · obtain ⟨a, v, z, rfl, _⟩ := h
    rfl
  · obtain ⟨a, v, z, rfl, ea, q⟩ := h
    refine ⟨_, pss_cons (ps_set_ex (pv 0) (pv 1)) (pss_one (ps_set_ex (pv 0) (pv 2))), ?_⟩
    refine ⟨_, rfl, _, rfl, a, C, fI, T, rfl, R, k1, .inl ⟨ea, fun d n ne => ?_⟩⟩
    refine ⟨_, rfl, _, rfl, a, C, fI, T, rfl, R, k2, .inr ⟨d, [("line", v)], upd_same, by rw [upd_ne ne, upd_same], (show 1 ≤ 900 by decide), ?_⟩⟩
    refine q d _ n ne (fun b o e hb => ?_) ?_ upd_same
    · have hd : b ≠ d := ne_of_none e n
      rw [upd_ne hd, upd_ne hb, upd_ne hd]
      exact e
    · rw [upd_ne (Ne.symm ne), upd_same]
  · obtain ⟨oc, od, kV, doc, pm, an, cdv, ct, osl, rfl, _, _⟩ := F.ex
    match ws, hl with
    | [_, _], _ => exact BindsTo.of_eq rfl

theorem sc_15 : FnScope ["self", "row"] ["self", "row"] (defScope (sI 15)) := ⟨rfl, rfl, rfl, by decide +kernel, rfl, by decide +kernel, by decide +kernel⟩
theorem cl_15 (g : mg "InvalidRow" = some (.ref C)) (R : ExK K C fI T) (nf : PySem.W.findIn K (.ref C) "row" = some none) (tk : PySem.W.takerIn K C "row" = some none) (F : Fun K "__init__" "InvalidRow.__init__" (sI 15) fI fd) : Cl1 P w K mg base "InvalidRow" "row" C fI fd T := by
  refine ⟨g, R, nf, F.ok sc_15 (fun vs H Q E h => ?_) (fun cdv A outer s H vs Q E hr h => ?_), F.binds fun _ _ _ _ _ _ us hl => match us, hl with | [_, _], _ => rfl, fun s u ws _ hl => ?_⟩
  · obtain ⟨a, v, rfl, _⟩ := h
    rfl
  · obtain ⟨a, v, rfl, ea, q⟩ := h
    refine ⟨_, pss_one (ps_set_ex (pv 0) (pv 1)), ?_⟩
    exact ⟨_, rfl, _, rfl, a, C, fI, T, rfl, R, tk, .inl ⟨ea, fun d n ne => q d n ne⟩⟩
  · obtain ⟨oc, od, kV, doc, pm, an, cdv, ct, osl, rfl, _, _⟩ := F.ex
    match ws, hl with
    | [_], _ => exact BindsTo.of_eq rfl

theorem sc_16 : FnScope ["self", "index"] ["self", "index"] (defScope (sI 16)) := ⟨rfl, rfl, rfl, by decide +kernel, rfl, by decide +kernel, by decide +kernel⟩
theorem cl_16 (g : mg "Repeated" = some (.ref C)) (R : ExK K C fI T) (nf : PySem.W.findIn K (.ref C) "index" = some none) (tk : PySem.W.takerIn K C "index" = some none) (F : Fun K "__init__" "Repeated.__init__" (sI 16) fI fd) : Cl1 P w K mg base "Repeated" "index" C fI fd T := by
  refine ⟨g, R, nf, F.ok sc_16 (fun vs H Q E h => ?_) (fun cdv A outer s H vs Q E hr h => ?_), F.binds fun _ _ _ _ _ _ us hl => match us, hl with | [_, _], _ => rfl, fun s u ws _ hl => ?_⟩
  · obtain ⟨a, v, rfl, _⟩ := h
    rfl
  · obtain ⟨a, v, rfl, ea, q⟩ := h
    refine ⟨_, pss_one (ps_set_ex (pv 0) (pv 1)), ?_⟩
    exact ⟨_, rfl, _, rfl, a, C, fI, T, rfl, R, tk, .inl ⟨ea, fun d n ne => q d n ne⟩⟩
  · obtain ⟨oc, od, kV, doc, pm, an, cdv, ct, osl, rfl, _, _⟩ := F.ex
    match ws, hl with
    | [_], _ => exact BindsTo.of_eq rfl

theorem sc_17 : FnScope ["self", "index"] ["self", "index"] (defScope (sI 17)) := ⟨rfl, rfl, rfl, by decide +kernel, rfl, by decide +kernel, by decide +kernel⟩
theorem cl_17 (g : mg "NotDone" = some (.ref C)) (R : ExK K C fI T) (nf : PySem.W.findIn K (.ref C) "index" = some none) (tk : PySem.W.takerIn K C "index" = some none) (F : Fun K "__init__" "NotDone.__init__" (sI 17) fI fd) : Cl1 P w K mg base "NotDone" "index" C fI fd T := by
  refine ⟨g, R, nf, F.ok sc_17 (fun vs H Q E h => ?_) (fun cdv A outer s H vs Q E hr h => ?_), F.binds fun _ _ _ _ _ _ us hl => match us, hl with | [_, _], _ => rfl, fun s u ws _ hl => ?_⟩
  · obtain ⟨a, v, rfl, _⟩ := h
    rfl
  · obtain ⟨a, v, rfl, ea, q⟩ := h
    refine ⟨_, pss_one (ps_set_ex (pv 0) (pv 1)), ?_⟩
    exact ⟨_, rfl, _, rfl, a, C, fI, T, rfl, R, tk, .inl ⟨ea, fun d n ne => q d n ne⟩⟩
  · obtain ⟨oc, od, kV, doc, pm, an, cdv, ct, osl, rfl, _, _⟩ := F.ex
    match ws, hl with
    | [_], _ => exact BindsTo.of_eq rfl

theorem sc_19 : FnScope ["self", "value"] ["self", "value"] (defScope (sI 19)) := ⟨rfl, rfl, rfl, by decide +kernel, rfl, by decide +kernel, by decide +kernel⟩
theorem cl_19 (g : mg "OutOfRange" = some (.ref C)) (R : ExK K C fI T) (nf : PySem.W.findIn K (.ref C) "value" = some none) (tk : PySem.W.takerIn K C "value" = some none) (F : Fun K "__init__" "OutOfRange.__init__" (sI 19) fI fd) : Cl1 P w K mg base "OutOfRange" "value" C fI fd T := by
  refine ⟨g, R, nf, F.ok sc_19 (fun vs H Q E h => ?_) (fun cdv A outer s H vs Q E hr h => ?_), F.binds fun _ _ _ _ _ _ us hl => match us, hl with | [_, _], _ => rfl, fun s u ws _ hl => ?_⟩
  · obtain ⟨a, v, rfl, _⟩ := h
    rfl
  · obtain ⟨a, v, rfl, ea, q⟩ := h
    refine ⟨_, pss_one (ps_set_ex (pv 0) (pv 1)), ?_⟩
    exact ⟨_, rfl, _, rfl, a, C, fI, T, rfl, R, tk, .inl ⟨ea, fun d n ne => q d n ne⟩⟩
  · obtain ⟨oc, od, kV, doc, pm, an, cdv, ct, osl, rfl, _, _⟩ := F.ex
    match ws, hl with
    | [_], _ => exact BindsTo.of_eq rfl

theorem sc_20 : FnScope ["self", "word"] ["self", "word"] (defScope (sI 20)) := ⟨rfl, rfl, rfl, by decide +kernel, rfl, by decide +kernel, by decide +kernel⟩
theorem cl_20 (g : mg "NotMeant" = some (.ref C)) (R : ExK K C fI T) (nf : PySem.W.findIn K (.ref C) "word" = some none) (tk : PySem.W.takerIn K C "word" = some none) (F : Fun K "__init__" "NotMeant.__init__" (sI 20) fI fd) : Cl1 P w K mg base "NotMeant" "word" C fI fd T := by
  refine ⟨g, R, nf, F.ok sc_20 (fun vs H Q E h => ?_) (fun cdv A outer s H vs Q E hr h => ?_), F.binds fun _ _ _ _ _ _ us hl => match us, hl with | [_, _], _ => rfl, fun s u ws _ hl => ?_⟩
  · obtain ⟨a, v, rfl, _⟩ := h
    rfl
  · obtain ⟨a, v, rfl, ea, q⟩ := h
    refine ⟨_, pss_one (ps_set_ex (pv 0) (pv 1)), ?_⟩
    exact ⟨_, rfl, _, rfl, a, C, fI, T, rfl, R, tk, .inl ⟨ea, fun d n ne => q d n ne⟩⟩
  · obtain ⟨oc, od, kV, doc, pm, an, cdv, ct, osl, rfl, _, _⟩ := F.ex
    match ws, hl with
    | [_], _ => exact BindsTo.of_eq rfl

theorem sc_21 : FnScope ["self", "index"] ["self", "index"] (defScope (sI 21)) := ⟨rfl, rfl, rfl, by decide +kernel, rfl, by decide +kernel, by decide +kernel⟩
theorem cl_21 (g : mg "Missing" = some (.ref C)) (R : ExK K C fI T) (nf : PySem.W.findIn K (.ref C) "index" = some none) (tk : PySem.W.takerIn K C "index" = some none) (F : Fun K "__init__" "Missing.__init__" (sI 21) fI fd) : Cl1 P w K mg base "Missing" "index" C fI fd T := by
  refine ⟨g, R, nf, F.ok sc_21 (fun vs H Q E h => ?_) (fun cdv A outer s H vs Q E hr h => ?_), F.binds fun _ _ _ _ _ _ us hl => match us, hl with | [_, _], _ => rfl, fun s u ws _ hl => ?_⟩
  · obtain ⟨a, v, rfl, _⟩ := h
    rfl
  · obtain ⟨a, v, rfl, ea, q⟩ := h
    refine ⟨_, pss_one (ps_set_ex (pv 0) (pv 1)), ?_⟩
    exact ⟨_, rfl, _, rfl, a, C, fI, T, rfl, R, tk, .inl ⟨ea, fun d n ne => q d n ne⟩⟩
  · obtain ⟨oc, od, kV, doc, pm, an, cdv, ct, osl, rfl, _, _⟩ := F.ex
    match ws, hl with
    | [_], _ => exact BindsTo.of_eq rfl

theorem sc_22 : FnScope ["self", "limit"] ["self", "limit"] (defScope (sI 22)) := ⟨rfl, rfl, rfl, by decide +kernel, rfl, by decide +kernel, by decide +kernel⟩
theorem cl_22 (g : mg "TooMany" = some (.ref C)) (R : ExK K C fI T) (nf : PySem.W.findIn K (.ref C) "limit" = some none) (tk : PySem.W.takerIn K C "limit" = some none) (F : Fun K "__init__" "TooMany.__init__" (sI 22) fI fd) : Cl1 P w K mg base "TooMany" "limit" C fI fd T := by
  refine ⟨g, R, nf, F.ok sc_22 (fun vs H Q E h => ?_) (fun cdv A outer s H vs Q E hr h => ?_), F.binds fun _ _ _ _ _ _ us hl => match us, hl with | [_, _], _ => rfl, fun s u ws _ hl => ?_⟩
  · obtain ⟨a, v, rfl, _⟩ := h
    rfl
  · obtain ⟨a, v, rfl, ea, q⟩ := h
    refine ⟨_, pss_one (ps_set_ex (pv 0) (pv 1)), ?_⟩
    exact ⟨_, rfl, _, rfl, a, C, fI, T, rfl, R, tk, .inl ⟨ea, fun d n ne => q d n ne⟩⟩
  · obtain ⟨oc, od, kV, doc, pm, an, cdv, ct, osl, rfl, _, _⟩ := F.ex
    match ws, hl with
    | [_], _ => exact BindsTo.of_eq rfl

theorem sc_23 : FnScope ["self", "index"] ["self", "index"] (defScope (sI 23)) := ⟨rfl, rfl, rfl, by decide +kernel, rfl, by decide +kernel, by decide +kernel⟩
theorem cl_23 (g : mg "Broken" = some (.ref C)) (R : ExK K C fI T) (nf : PySem.W.findIn K (.ref C) "index" = some none) (tk : PySem.W.takerIn K C "index" = some none) (F : Fun K "__init__" "Broken.__init__" (sI 23) fI fd) : Cl1 P w K mg base "Broken" "index" C fI fd T := by
  refine ⟨g, R, nf, F.ok sc_23 (fun vs H Q E h => ?_) (fun cdv A outer s H vs Q E hr h => ?_), F.binds fun _ _ _ _ _ _ us hl => match us, hl with | [_, _], _ => rfl, fun s u ws _ hl => ?_⟩
  · obtain ⟨a, v, rfl, _⟩ := h
    rfl
  · obtain ⟨a, v, rfl, ea, q⟩ := h
    refine ⟨_, pss_one (ps_set_ex (pv 0) (pv 1)), ?_⟩
    exact ⟨_, rfl, _, rfl, a, C, fI, T, rfl, R, tk, .inl ⟨ea, fun d n ne => q d n ne⟩⟩
  · obtain ⟨oc, od, kV, doc, pm, an, cdv, ct, osl, rfl, _, _⟩ := F.ex
    match ws, hl with
    | [_], _ => exact BindsTo.of_eq rfl

theorem sc_24 : FnScope ["self", "index"] ["self", "index"] (defScope (sI 24)) := ⟨rfl, rfl, rfl, by decide +kernel, rfl, by decide +kernel, by decide +kernel⟩
theorem cl_24 (g : mg "Closed" = some (.ref C)) (R : ExK K C fI T) (nf : PySem.W.findIn K (.ref C) "index" = some none) (tk : PySem.W.takerIn K C "index" = some none) (F : Fun K "__init__" "Closed.__init__" (sI 24) fI fd) : Cl1 P w K mg base "Closed" "index" C fI fd T := by
  refine ⟨g, R, nf, F.ok sc_24 (fun vs H Q E h => ?_) (fun cdv A outer s H vs Q E hr h => ?_), F.binds fun _ _ _ _ _ _ us hl => match us, hl with | [_, _], _ => rfl, fun s u ws _ hl => ?_⟩
  · obtain ⟨a, v, rfl, _⟩ := h
    rfl
  · obtain ⟨a, v, rfl, ea, q⟩ := h
    refine ⟨_, pss_one (ps_set_ex (pv 0) (pv 1)), ?_⟩
    exact ⟨_, rfl, _, rfl, a, C, fI, T, rfl, R, tk, .inl ⟨ea, fun d n ne => q d n ne⟩⟩
  · obtain ⟨oc, od, kV, doc, pm, an, cdv, ct, osl, rfl, _, _⟩ := F.ex
    match ws, hl with
    | [_], _ => exact BindsTo.of_eq rfl

theorem sc_25 : FnScope ["self", "word", "line"] ["self", "word", "line"] (defScope (sI 25)) := ⟨rfl, rfl, rfl, by decide +kernel, rfl, by decide +kernel, by decide +kernel⟩
theorem cl_25 (g : mg "Forked" = some (.ref C)) (R : ExK K C fI T) (n1 : PySem.W.findIn K (.ref C) "word" = some none) (n2 : PySem.W.findIn K (.ref C) "line" = some none) (k1 : PySem.W.takerIn K C "word" = some none) (k2 : PySem.W.takerIn K C "line" = some none) (F : Fun K "__init__" "Forked.__init__" (sI 25) fI fd) :
    Cl2 P w K mg base "Forked" "word" "line" ["line", "word"] (fun l => l.reverse) C fI fd T := by
  refine ⟨g, R, n1, n2, F.ok sc_25 (fun vs H Q E h => ?_) (fun cdv A outer s H vs Q E hr h => ?_), F.binds fun _ _ _ _ _ _ us hl => match us, hl with | [_, _, _], _ => rfl, fun s u ws _ hl => ?_⟩
  · obtain ⟨a, v, z, rfl, _⟩ := h
    rfl
  · obtain ⟨a, v, z, rfl, ea, q⟩ := h
    refine ⟨_, pss_cons (ps_set_ex (pv 0) (pv 1)) (pss_one (ps_set_ex (pv 0) (pv 2))), ?_⟩
    refine ⟨_, rfl, _, rfl, a, C, fI, T, rfl, R, k1, .inl ⟨ea, fun d n ne => ?_⟩⟩
    refine ⟨_, rfl, _, rfl, a, C, fI, T, rfl, R, k2, .inr ⟨d, [("word", v)], upd_same, by rw [upd_ne ne, upd_same], (show 1 ≤ 900 by decide), ?_⟩⟩
    refine q d _ n ne (fun b o e hb => ?_) ?_ upd_same
    · have hd : b ≠ d := ne_of_none e n
      rw [upd_ne hd, upd_ne hb, upd_ne hd]
      exact e
    · rw [upd_ne (Ne.symm ne), upd_same]
  · obtain ⟨oc, od, kV, doc, pm, an, cdv, ct, osl, rfl, _, _⟩ := F.ex
    match ws, hl with
    | [_, _], _ => exact BindsTo.of_eq rfl

end
end LW
/-! The rows of errors, in two defs. -/
namespace LW
open PySem L2 G
abbrev sSome : Stmt := top 38
abbrev sOther : Stmt := top 39
def spRows (CS : List (Addr × Str)) : Sp := fun vs H Q _ => ∃ v, vs = [v] ∧ ∀ l G, Same H G → RowsAt CS v l G 20 → Q (.ref l) G
section
variable {P : Program} {w : World} {K : PySem.W.Frag} {mg : Str → Option Value} {base : Heap}
theorem RowsAt.le {CS : List (Addr × Str)} {v : V} {l : Addr} {H : Hp} {n m : Nat} (h : n ≤ m) : RowsAt CS v l H n → RowsAt CS v l H m
  | ⟨rs, h1, h2, h3⟩ => ⟨rs, h1, Nat.le_trans h2 h, h3⟩

theorem scSome : FnScope ["_law_thing", "_law_found"] ["_law_thing"] (defScope sSome) := ⟨rfl, rfl, rfl, by decide +kernel, rfl, by decide +kernel, by decide +kernel⟩
theorem ok_some {f : Addr} {fd : FuncData} (F : Fun K "_law_some_errors" "_law_some_errors" sSome f fd) {C1 f1 : Addr} {d1 : FuncData} {T1 : List Value} (c1 : Cl1 P w K mg base "InvalidWord" "value" C1 f1 d1 T1) {C2 f2 : Addr} {d2 : FuncData} {T2 : List Value} (c2 : Cl1 P w K mg base "InvalidChain" "value" C2 f2 d2 T2) {C3 f3 : Addr} {d3 : FuncData} {T3 : List Value} (c3 : Cl1 P w K mg base "InvalidStretch" "value" C3 f3 d3 T3) {C4 f4 : Addr} {d4 : FuncData} {T4 : List Value} (c4 : Cl1 P w K mg base "InvalidSubject" "value" C4 f4 d4 T4) {C5 f5 : Addr} {d5 : FuncData} {T5 : List Value} (c5 : Cl1 P w K mg base "InvalidTimes" "value" C5 f5 d5 T5) {C6 f6 : Addr} {d6 : FuncData} {T6 : List Value} (c6 : Cl1 P w K mg base "InvalidDay" "value" C6 f6 d6 T6) {C7 f7 : Addr} {d7 : FuncData} {T7 : List Value} (c7 : Cl1 P w K mg base "InvalidTable" "value" C7 f7 d7 T7) {C8 f8 : Addr} {d8 : FuncData} {T8 : List Value} (c8 : Cl1 P w K mg base "InvalidCount" "value" C8 f8 d8 T8) {C9 f9 : Addr} {d9 : FuncData} {T9 : List Value} (c9 : Cl1 P w K mg base "InvalidLogs" "value" C9 f9 d9 T9) {C10 f10 : Addr} {d10 : FuncData} {T10 : List Value} (c10 : Cl1 P w K mg base "InvalidStatement" "index" C10 f10 d10 T10) {C11 f11 : Addr} {d11 : FuncData} {T11 : List Value} (c11 : Cl1 P w K mg base "InvalidPart" "index" C11 f11 d11 T11) {C12 f12 : Addr} {d12 : FuncData} {T12 : List Value} (c12 : Cl1 P w K mg base "InvalidGuard" "index" C12 f12 d12 T12) :
    FnOk P w K mg base CX0 3 f fd ["_law_thing"] (spRows [(C1, "value"), (C2, "value"), (C3, "value"), (C4, "value"), (C5, "value"), (C6, "value"), (C7, "value"), (C8, "value"), (C9, "value"), (C10, "value"), (C11, "value"), (C12, "value")]) := by
  refine F.ok scSome (fun vs H Q E h => ?_) (fun cdv A outer s H vs Q E hr h => ?_)
  · obtain ⟨v, rfl, _⟩ := h
    rfl
  · obtain ⟨v, rfl, q⟩ := h
    refine ⟨_, pss_cons (ps_set (i := 1) scSome.nd rfl (Or.inl rfl) (pe_lst pa_nil))
      (pss_cons (ps_expr (pe_bm PySem.F.plainAttrs_list PySem.F.slot_list_append PySem.F.type_list_append mt_append (pv 1) (pa_cons (pe_tup (pa_cons (pe_mk_ex c1.R c1.I hr c1.b (by rfl) c1.g (pa_cons (pv 0) pa_nil)) (pa_cons (pe_get_ex (pe_mk_exK (ks := ["value"]) (fun l => l) (fun r => r) c1.R c1.I hr c1.bk (by rfl) c1.g (pk_cons (pv 0) pk_nil))) (pa_cons (pe_get_ex (pe_mk_ex c1.R c1.I hr c1.b (by rfl) c1.g (pa_cons (pv 0) pa_nil))) (pa_cons pe_str pa_nil))))) pa_nil)))
      (pss_cons (ps_expr (pe_bm PySem.F.plainAttrs_list PySem.F.slot_list_append PySem.F.type_list_append mt_append (pv 1) (pa_cons (pe_tup (pa_cons (pe_mk_ex c2.R c2.I hr c2.b (by rfl) c2.g (pa_cons (pv 0) pa_nil)) (pa_cons (pe_get_ex (pe_mk_exK (ks := ["value"]) (fun l => l) (fun r => r) c2.R c2.I hr c2.bk (by rfl) c2.g (pk_cons (pv 0) pk_nil))) (pa_cons (pe_get_ex (pe_mk_ex c2.R c2.I hr c2.b (by rfl) c2.g (pa_cons (pv 0) pa_nil))) (pa_cons pe_str pa_nil))))) pa_nil)))
      (pss_cons (ps_expr (pe_bm PySem.F.plainAttrs_list PySem.F.slot_list_append PySem.F.type_list_append mt_append (pv 1) (pa_cons (pe_tup (pa_cons (pe_mk_ex c3.R c3.I hr c3.b (by rfl) c3.g (pa_cons (pv 0) pa_nil)) (pa_cons (pe_get_ex (pe_mk_exK (ks := ["value"]) (fun l => l) (fun r => r) c3.R c3.I hr c3.bk (by rfl) c3.g (pk_cons (pv 0) pk_nil))) (pa_cons (pe_get_ex (pe_mk_ex c3.R c3.I hr c3.b (by rfl) c3.g (pa_cons (pv 0) pa_nil))) (pa_cons pe_str pa_nil))))) pa_nil)))
      (pss_cons (ps_expr (pe_bm PySem.F.plainAttrs_list PySem.F.slot_list_append PySem.F.type_list_append mt_append (pv 1) (pa_cons (pe_tup (pa_cons (pe_mk_ex c4.R c4.I hr c4.b (by rfl) c4.g (pa_cons (pv 0) pa_nil)) (pa_cons (pe_get_ex (pe_mk_exK (ks := ["value"]) (fun l => l) (fun r => r) c4.R c4.I hr c4.bk (by rfl) c4.g (pk_cons (pv 0) pk_nil))) (pa_cons (pe_get_ex (pe_mk_ex c4.R c4.I hr c4.b (by rfl) c4.g (pa_cons (pv 0) pa_nil))) (pa_cons pe_str pa_nil))))) pa_nil)))
      (pss_cons (ps_expr (pe_bm PySem.F.plainAttrs_list PySem.F.slot_list_append PySem.F.type_list_append mt_append (pv 1) (pa_cons (pe_tup (pa_cons (pe_mk_ex c5.R c5.I hr c5.b (by rfl) c5.g (pa_cons (pv 0) pa_nil)) (pa_cons (pe_get_ex (pe_mk_exK (ks := ["value"]) (fun l => l) (fun r => r) c5.R c5.I hr c5.bk (by rfl) c5.g (pk_cons (pv 0) pk_nil))) (pa_cons (pe_get_ex (pe_mk_ex c5.R c5.I hr c5.b (by rfl) c5.g (pa_cons (pv 0) pa_nil))) (pa_cons pe_str pa_nil))))) pa_nil)))
      (pss_cons (ps_expr (pe_bm PySem.F.plainAttrs_list PySem.F.slot_list_append PySem.F.type_list_append mt_append (pv 1) (pa_cons (pe_tup (pa_cons (pe_mk_ex c6.R c6.I hr c6.b (by rfl) c6.g (pa_cons (pv 0) pa_nil)) (pa_cons (pe_get_ex (pe_mk_exK (ks := ["value"]) (fun l => l) (fun r => r) c6.R c6.I hr c6.bk (by rfl) c6.g (pk_cons (pv 0) pk_nil))) (pa_cons (pe_get_ex (pe_mk_ex c6.R c6.I hr c6.b (by rfl) c6.g (pa_cons (pv 0) pa_nil))) (pa_cons pe_str pa_nil))))) pa_nil)))
      (pss_cons (ps_expr (pe_bm PySem.F.plainAttrs_list PySem.F.slot_list_append PySem.F.type_list_append mt_append (pv 1) (pa_cons (pe_tup (pa_cons (pe_mk_ex c7.R c7.I hr c7.b (by rfl) c7.g (pa_cons (pv 0) pa_nil)) (pa_cons (pe_get_ex (pe_mk_exK (ks := ["value"]) (fun l => l) (fun r => r) c7.R c7.I hr c7.bk (by rfl) c7.g (pk_cons (pv 0) pk_nil))) (pa_cons (pe_get_ex (pe_mk_ex c7.R c7.I hr c7.b (by rfl) c7.g (pa_cons (pv 0) pa_nil))) (pa_cons pe_str pa_nil))))) pa_nil)))
      (pss_cons (ps_expr (pe_bm PySem.F.plainAttrs_list PySem.F.slot_list_append PySem.F.type_list_append mt_append (pv 1) (pa_cons (pe_tup (pa_cons (pe_mk_ex c8.R c8.I hr c8.b (by rfl) c8.g (pa_cons (pv 0) pa_nil)) (pa_cons (pe_get_ex (pe_mk_exK (ks := ["value"]) (fun l => l) (fun r => r) c8.R c8.I hr c8.bk (by rfl) c8.g (pk_cons (pv 0) pk_nil))) (pa_cons (pe_get_ex (pe_mk_ex c8.R c8.I hr c8.b (by rfl) c8.g (pa_cons (pv 0) pa_nil))) (pa_cons pe_str pa_nil))))) pa_nil)))
      (pss_cons (ps_expr (pe_bm PySem.F.plainAttrs_list PySem.F.slot_list_append PySem.F.type_list_append mt_append (pv 1) (pa_cons (pe_tup (pa_cons (pe_mk_ex c9.R c9.I hr c9.b (by rfl) c9.g (pa_cons (pv 0) pa_nil)) (pa_cons (pe_get_ex (pe_mk_exK (ks := ["value"]) (fun l => l) (fun r => r) c9.R c9.I hr c9.bk (by rfl) c9.g (pk_cons (pv 0) pk_nil))) (pa_cons (pe_get_ex (pe_mk_ex c9.R c9.I hr c9.b (by rfl) c9.g (pa_cons (pv 0) pa_nil))) (pa_cons pe_str pa_nil))))) pa_nil)))
      (pss_cons (ps_expr (pe_bm PySem.F.plainAttrs_list PySem.F.slot_list_append PySem.F.type_list_append mt_append (pv 1) (pa_cons (pe_tup (pa_cons (pe_mk_ex c10.R c10.I hr c10.b (by rfl) c10.g (pa_cons (pv 0) pa_nil)) (pa_cons (pe_get_ex (pe_mk_exK (ks := ["index"]) (fun l => l) (fun r => r) c10.R c10.I hr c10.bk (by rfl) c10.g (pk_cons (pv 0) pk_nil))) (pa_cons (pe_get_ex (pe_mk_ex c10.R c10.I hr c10.b (by rfl) c10.g (pa_cons (pv 0) pa_nil))) (pa_cons pe_str pa_nil))))) pa_nil)))
      (pss_cons (ps_expr (pe_bm PySem.F.plainAttrs_list PySem.F.slot_list_append PySem.F.type_list_append mt_append (pv 1) (pa_cons (pe_tup (pa_cons (pe_mk_ex c11.R c11.I hr c11.b (by rfl) c11.g (pa_cons (pv 0) pa_nil)) (pa_cons (pe_get_ex (pe_mk_exK (ks := ["index"]) (fun l => l) (fun r => r) c11.R c11.I hr c11.bk (by rfl) c11.g (pk_cons (pv 0) pk_nil))) (pa_cons (pe_get_ex (pe_mk_ex c11.R c11.I hr c11.b (by rfl) c11.g (pa_cons (pv 0) pa_nil))) (pa_cons pe_str pa_nil))))) pa_nil)))
      (pss_cons (ps_expr (pe_bm PySem.F.plainAttrs_list PySem.F.slot_list_append PySem.F.type_list_append mt_append (pv 1) (pa_cons (pe_tup (pa_cons (pe_mk_ex c12.R c12.I hr c12.b (by rfl) c12.g (pa_cons (pv 0) pa_nil)) (pa_cons (pe_get_ex (pe_mk_exK (ks := ["index"]) (fun l => l) (fun r => r) c12.R c12.I hr c12.bk (by rfl) c12.g (pk_cons (pv 0) pk_nil))) (pa_cons (pe_get_ex (pe_mk_ex c12.R c12.I hr c12.b (by rfl) c12.g (pa_cons (pv 0) pa_nil))) (pa_cons pe_str pa_nil))))) pa_nil)))
      (pss_one (ps_ret (pv 1))))))))))))))), ?_⟩
    refine seq_new fun l hl => ?_
    have W0 : RowsAt [(C1, "value"), (C2, "value"), (C3, "value"), (C4, "value"), (C5, "value"), (C6, "value"), (C7, "value"), (C8, "value"), (C9, "value"), (C10, "value"), (C11, "value"), (C12, "value")] v l (upd H l (.lst [])) 0 := ⟨[], upd_same, Nat.le_refl _, fun r hr => (List.not_mem_nil hr).elim⟩
    have S0 := same_new (o := .lst []) hl
    refine seq_row rfl W0 (by decide) (C := C1) (by simp) S0 hl (fun G _ => ev_e (ev_mk1 (eva_var rfl eva_nil))) (fun G _ => ev_get c1.R c1.nf lk1 (ev_mkK1 rfl rfl (eva_var rfl eva_nil))) (fun G _ => ev_get c1.R c1.nf lk1 (ev_mk1 (eva_var rfl eva_nil))) fun G1 S1 W1 => ?_
    refine seq_row rfl W1 (by decide) (C := C2) (by simp) S1 hl (fun G _ => ev_e (ev_mk1 (eva_var rfl eva_nil))) (fun G _ => ev_get c2.R c2.nf lk1 (ev_mkK1 rfl rfl (eva_var rfl eva_nil))) (fun G _ => ev_get c2.R c2.nf lk1 (ev_mk1 (eva_var rfl eva_nil))) fun G2 S2 W2 => ?_
    refine seq_row rfl W2 (by decide) (C := C3) (by simp) S2 hl (fun G _ => ev_e (ev_mk1 (eva_var rfl eva_nil))) (fun G _ => ev_get c3.R c3.nf lk1 (ev_mkK1 rfl rfl (eva_var rfl eva_nil))) (fun G _ => ev_get c3.R c3.nf lk1 (ev_mk1 (eva_var rfl eva_nil))) fun G3 S3 W3 => ?_
    refine seq_row rfl W3 (by decide) (C := C4) (by simp) S3 hl (fun G _ => ev_e (ev_mk1 (eva_var rfl eva_nil))) (fun G _ => ev_get c4.R c4.nf lk1 (ev_mkK1 rfl rfl (eva_var rfl eva_nil))) (fun G _ => ev_get c4.R c4.nf lk1 (ev_mk1 (eva_var rfl eva_nil))) fun G4 S4 W4 => ?_
    refine seq_row rfl W4 (by decide) (C := C5) (by simp) S4 hl (fun G _ => ev_e (ev_mk1 (eva_var rfl eva_nil))) (fun G _ => ev_get c5.R c5.nf lk1 (ev_mkK1 rfl rfl (eva_var rfl eva_nil))) (fun G _ => ev_get c5.R c5.nf lk1 (ev_mk1 (eva_var rfl eva_nil))) fun G5 S5 W5 => ?_
    refine seq_row rfl W5 (by decide) (C := C6) (by simp) S5 hl (fun G _ => ev_e (ev_mk1 (eva_var rfl eva_nil))) (fun G _ => ev_get c6.R c6.nf lk1 (ev_mkK1 rfl rfl (eva_var rfl eva_nil))) (fun G _ => ev_get c6.R c6.nf lk1 (ev_mk1 (eva_var rfl eva_nil))) fun G6 S6 W6 => ?_
    refine seq_row rfl W6 (by decide) (C := C7) (by simp) S6 hl (fun G _ => ev_e (ev_mk1 (eva_var rfl eva_nil))) (fun G _ => ev_get c7.R c7.nf lk1 (ev_mkK1 rfl rfl (eva_var rfl eva_nil))) (fun G _ => ev_get c7.R c7.nf lk1 (ev_mk1 (eva_var rfl eva_nil))) fun G7 S7 W7 => ?_
    refine seq_row rfl W7 (by decide) (C := C8) (by simp) S7 hl (fun G _ => ev_e (ev_mk1 (eva_var rfl eva_nil))) (fun G _ => ev_get c8.R c8.nf lk1 (ev_mkK1 rfl rfl (eva_var rfl eva_nil))) (fun G _ => ev_get c8.R c8.nf lk1 (ev_mk1 (eva_var rfl eva_nil))) fun G8 S8 W8 => ?_
    refine seq_row rfl W8 (by decide) (C := C9) (by simp) S8 hl (fun G _ => ev_e (ev_mk1 (eva_var rfl eva_nil))) (fun G _ => ev_get c9.R c9.nf lk1 (ev_mkK1 rfl rfl (eva_var rfl eva_nil))) (fun G _ => ev_get c9.R c9.nf lk1 (ev_mk1 (eva_var rfl eva_nil))) fun G9 S9 W9 => ?_
    refine seq_row rfl W9 (by decide) (C := C10) (by simp) S9 hl (fun G _ => ev_e (ev_mk1 (eva_var rfl eva_nil))) (fun G _ => ev_get c10.R c10.nf lk1 (ev_mkK1 rfl rfl (eva_var rfl eva_nil))) (fun G _ => ev_get c10.R c10.nf lk1 (ev_mk1 (eva_var rfl eva_nil))) fun G10 S10 W10 => ?_
    refine seq_row rfl W10 (by decide) (C := C11) (by simp) S10 hl (fun G _ => ev_e (ev_mk1 (eva_var rfl eva_nil))) (fun G _ => ev_get c11.R c11.nf lk1 (ev_mkK1 rfl rfl (eva_var rfl eva_nil))) (fun G _ => ev_get c11.R c11.nf lk1 (ev_mk1 (eva_var rfl eva_nil))) fun G11 S11 W11 => ?_
    refine seq_row rfl W11 (by decide) (C := C12) (by simp) S11 hl (fun G _ => ev_e (ev_mk1 (eva_var rfl eva_nil))) (fun G _ => ev_get c12.R c12.nf lk1 (ev_mkK1 rfl rfl (eva_var rfl eva_nil))) (fun G _ => ev_get c12.R c12.nf lk1 (ev_mk1 (eva_var rfl eva_nil))) fun G12 S12 W12 => ?_
    exact ⟨_, rfl, q l G12 S12 (LW.RowsAt.le (by decide) W12)⟩
theorem vals_rev : ∀ {zs : List V} {ws : List Value}, Vals zs ws → Vals zs.reverse ws.reverse
  | _, _, .nil => .nil
  | _, _, .cons r t => by
    rw [List.reverse_cons, List.reverse_cons]
    exact (vals_rev t).append (.cons r .nil)
theorem scOther : FnScope ["_law_thing", "_law_found", "_law_error"] ["_law_thing"] (defScope sOther) := ⟨rfl, rfl, rfl, by decide +kernel, rfl, by decide +kernel, by decide +kernel⟩
theorem ok_other {f : Addr} {fd : FuncData} (F : Fun K "_law_other_errors" "_law_other_errors" sOther f fd) {C13 f13 : Addr} {d13 : FuncData} {T13 : List Value} (c13 : Cl1 P w K mg base "InvalidText" "index" C13 f13 d13 T13) {C14 f14 : Addr} {d14 : FuncData} {T14 : List Value} (c14 : Cl2 P w K mg base "InvalidLine" "line" "index" ["line", "index"] (fun l => l) C14 f14 d14 T14) {C15 f15 : Addr} {d15 : FuncData} {T15 : List Value} (c15 : Cl1 P w K mg base "InvalidRow" "row" C15 f15 d15 T15) {C16 f16 : Addr} {d16 : FuncData} {T16 : List Value} (c16 : Cl1 P w K mg base "Repeated" "index" C16 f16 d16 T16) {C17 f17 : Addr} {d17 : FuncData} {T17 : List Value} (c17 : Cl1 P w K mg base "NotDone" "index" C17 f17 d17 T17) {C18 f18 : Addr} {d18 : FuncData} {T18 : List Value} (g18 : mg "NotLeast" = some (.ref C18)) (R18 : ExK K C18 f18 T18) (I18 : FnOk P w K mg base CX0 1 f18 d18 ["self"] (spS C18)) (b18 : ∀ (s : Shared) (u : Value) (ws : List Value), K.In s.heap → ws.length = ([] : List Str).length → BindsTo s d18 ⟨[u], ([] : List Str).zip ws⟩ (([Str.ofString "self"]).zip (u :: ws))) {C19 f19 : Addr} {d19 : FuncData} {T19 : List Value} (c19 : Cl1 P w K mg base "OutOfRange" "value" C19 f19 d19 T19) {C20 f20 : Addr} {d20 : FuncData} {T20 : List Value} (c20 : Cl1 P w K mg base "NotMeant" "word" C20 f20 d20 T20) {C21 f21 : Addr} {d21 : FuncData} {T21 : List Value} (c21 : Cl1 P w K mg base "Missing" "index" C21 f21 d21 T21) {C22 f22 : Addr} {d22 : FuncData} {T22 : List Value} (c22 : Cl1 P w K mg base "TooMany" "limit" C22 f22 d22 T22) {C23 f23 : Addr} {d23 : FuncData} {T23 : List Value} (c23 : Cl1 P w K mg base "Broken" "index" C23 f23 d23 T23) {C24 f24 : Addr} {d24 : FuncData} {T24 : List Value} (c24 : Cl1 P w K mg base "Closed" "index" C24 f24 d24 T24) {C25 f25 : Addr} {d25 : FuncData} {T25 : List Value} (c25 : Cl2 P w K mg base "Forked" "word" "line" ["line", "word"] (fun l => l.reverse) C25 f25 d25 T25) :
    FnOk P w K mg base CX0 3 f fd ["_law_thing"] (spRows [(C13, "value"), (C14, "value"), (C15, "value"), (C16, "value"), (C17, "value"), (C18, "value"), (C19, "lookup"), (C20, "lookup"), (C21, "lookup"), (C22, "overflow"), (C23, "runtime"), (C24, "runtime"), (C25, "runtime")]) := by
  have k1 : ¬ (Str.ofString "line" = Str.ofString "index") := by decide +kernel
  have k2 : ¬ (Str.ofString "word" = Str.ofString "line") := by decide +kernel
  refine F.ok scOther (fun vs H Q E h => ?_) (fun cdv A outer s H vs Q E hr h => ?_)
  · obtain ⟨v, rfl, _⟩ := h
    rfl
  · obtain ⟨v, rfl, q⟩ := h
    refine ⟨_, pss_cons (ps_set (i := 1) scOther.nd rfl (Or.inl rfl) (pe_lst pa_nil))
      (pss_cons (ps_expr (pe_bm PySem.F.plainAttrs_list PySem.F.slot_list_append PySem.F.type_list_append mt_append (pv 1) (pa_cons (pe_tup (pa_cons (pe_mk_ex c13.R c13.I hr c13.b (by rfl) c13.g (pa_cons (pv 0) pa_nil)) (pa_cons (pe_get_ex (pe_mk_exK (ks := ["index"]) (fun l => l) (fun r => r) c13.R c13.I hr c13.bk (by rfl) c13.g (pk_cons (pv 0) pk_nil))) (pa_cons (pe_get_ex (pe_mk_ex c13.R c13.I hr c13.b (by rfl) c13.g (pa_cons (pv 0) pa_nil))) (pa_cons pe_str pa_nil))))) pa_nil)))
      (pss_cons (ps_set (i := 2) scOther.nd rfl (Or.inl rfl) (pe_mk_exK (ks := ["line", "index"]) (fun l => l) (fun r => r) c14.R c14.I hr c14.bk (by rfl) c14.g (pk_cons pe_int (pk_cons (pv 0) pk_nil))))
      (pss_cons (ps_expr (pe_bm PySem.F.plainAttrs_list PySem.F.slot_list_append PySem.F.type_list_append mt_append (pv 1) (pa_cons (pe_tup (pa_cons (pe_mk_ex c14.R c14.I hr c14.b (by rfl) c14.g (pa_cons pe_int (pa_cons (pv 0) pa_nil))) (pa_cons (pe_get_ex (pv 2)) (pa_cons (pe_get_ex (pe_mk_ex c14.R c14.I hr c14.b (by rfl) c14.g (pa_cons pe_int (pa_cons (pv 0) pa_nil)))) (pa_cons pe_str pa_nil))))) pa_nil)))
      (pss_cons (ps_set (i := 2) scOther.nd rfl (Or.inl rfl) (pe_mk_exK (ks := ["line", "index"]) (fun l => l) (fun r => r) c14.R c14.I hr c14.bk (by rfl) c14.g (pk_cons (pv 0) (pk_cons pe_int pk_nil))))
      (pss_cons (ps_expr (pe_bm PySem.F.plainAttrs_list PySem.F.slot_list_append PySem.F.type_list_append mt_append (pv 1) (pa_cons (pe_tup (pa_cons (pe_mk_ex c14.R c14.I hr c14.b (by rfl) c14.g (pa_cons (pv 0) (pa_cons pe_int pa_nil))) (pa_cons (pe_get_ex (pv 2)) (pa_cons (pe_get_ex (pe_mk_ex c14.R c14.I hr c14.b (by rfl) c14.g (pa_cons (pv 0) (pa_cons pe_int pa_nil)))) (pa_cons pe_str pa_nil))))) pa_nil)))
      (pss_cons (ps_expr (pe_bm PySem.F.plainAttrs_list PySem.F.slot_list_append PySem.F.type_list_append mt_append (pv 1) (pa_cons (pe_tup (pa_cons (pe_mk_ex c15.R c15.I hr c15.b (by rfl) c15.g (pa_cons (pv 0) pa_nil)) (pa_cons (pe_get_ex (pe_mk_exK (ks := ["row"]) (fun l => l) (fun r => r) c15.R c15.I hr c15.bk (by rfl) c15.g (pk_cons (pv 0) pk_nil))) (pa_cons (pe_get_ex (pe_mk_ex c15.R c15.I hr c15.b (by rfl) c15.g (pa_cons (pv 0) pa_nil))) (pa_cons pe_str pa_nil))))) pa_nil)))
      (pss_cons (ps_expr (pe_bm PySem.F.plainAttrs_list PySem.F.slot_list_append PySem.F.type_list_append mt_append (pv 1) (pa_cons (pe_tup (pa_cons (pe_mk_ex c16.R c16.I hr c16.b (by rfl) c16.g (pa_cons (pv 0) pa_nil)) (pa_cons (pe_get_ex (pe_mk_exK (ks := ["index"]) (fun l => l) (fun r => r) c16.R c16.I hr c16.bk (by rfl) c16.g (pk_cons (pv 0) pk_nil))) (pa_cons (pe_get_ex (pe_mk_ex c16.R c16.I hr c16.b (by rfl) c16.g (pa_cons (pv 0) pa_nil))) (pa_cons pe_str pa_nil))))) pa_nil)))
      (pss_cons (ps_expr (pe_bm PySem.F.plainAttrs_list PySem.F.slot_list_append PySem.F.type_list_append mt_append (pv 1) (pa_cons (pe_tup (pa_cons (pe_mk_ex c17.R c17.I hr c17.b (by rfl) c17.g (pa_cons (pv 0) pa_nil)) (pa_cons (pe_get_ex (pe_mk_exK (ks := ["index"]) (fun l => l) (fun r => r) c17.R c17.I hr c17.bk (by rfl) c17.g (pk_cons (pv 0) pk_nil))) (pa_cons (pe_get_ex (pe_mk_ex c17.R c17.I hr c17.b (by rfl) c17.g (pa_cons (pv 0) pa_nil))) (pa_cons pe_str pa_nil))))) pa_nil)))
      (pss_cons (ps_expr (pe_bm PySem.F.plainAttrs_list PySem.F.slot_list_append PySem.F.type_list_append mt_append (pv 1) (pa_cons (pe_tup (pa_cons (pe_mk_ex c19.R c19.I hr c19.b (by rfl) c19.g (pa_cons (pv 0) pa_nil)) (pa_cons (pe_get_ex (pe_mk_exK (ks := ["value"]) (fun l => l) (fun r => r) c19.R c19.I hr c19.bk (by rfl) c19.g (pk_cons (pv 0) pk_nil))) (pa_cons (pe_get_ex (pe_mk_ex c19.R c19.I hr c19.b (by rfl) c19.g (pa_cons (pv 0) pa_nil))) (pa_cons pe_str pa_nil))))) pa_nil)))
      (pss_cons (ps_expr (pe_bm PySem.F.plainAttrs_list PySem.F.slot_list_append PySem.F.type_list_append mt_append (pv 1) (pa_cons (pe_tup (pa_cons (pe_mk_ex c20.R c20.I hr c20.b (by rfl) c20.g (pa_cons (pv 0) pa_nil)) (pa_cons (pe_get_ex (pe_mk_exK (ks := ["word"]) (fun l => l) (fun r => r) c20.R c20.I hr c20.bk (by rfl) c20.g (pk_cons (pv 0) pk_nil))) (pa_cons (pe_get_ex (pe_mk_ex c20.R c20.I hr c20.b (by rfl) c20.g (pa_cons (pv 0) pa_nil))) (pa_cons pe_str pa_nil))))) pa_nil)))
      (pss_cons (ps_expr (pe_bm PySem.F.plainAttrs_list PySem.F.slot_list_append PySem.F.type_list_append mt_append (pv 1) (pa_cons (pe_tup (pa_cons (pe_mk_ex c21.R c21.I hr c21.b (by rfl) c21.g (pa_cons (pv 0) pa_nil)) (pa_cons (pe_get_ex (pe_mk_exK (ks := ["index"]) (fun l => l) (fun r => r) c21.R c21.I hr c21.bk (by rfl) c21.g (pk_cons (pv 0) pk_nil))) (pa_cons (pe_get_ex (pe_mk_ex c21.R c21.I hr c21.b (by rfl) c21.g (pa_cons (pv 0) pa_nil))) (pa_cons pe_str pa_nil))))) pa_nil)))
      (pss_cons (ps_expr (pe_bm PySem.F.plainAttrs_list PySem.F.slot_list_append PySem.F.type_list_append mt_append (pv 1) (pa_cons (pe_tup (pa_cons (pe_mk_ex c22.R c22.I hr c22.b (by rfl) c22.g (pa_cons (pv 0) pa_nil)) (pa_cons (pe_get_ex (pe_mk_exK (ks := ["limit"]) (fun l => l) (fun r => r) c22.R c22.I hr c22.bk (by rfl) c22.g (pk_cons (pv 0) pk_nil))) (pa_cons (pe_get_ex (pe_mk_ex c22.R c22.I hr c22.b (by rfl) c22.g (pa_cons (pv 0) pa_nil))) (pa_cons pe_str pa_nil))))) pa_nil)))
      (pss_cons (ps_expr (pe_bm PySem.F.plainAttrs_list PySem.F.slot_list_append PySem.F.type_list_append mt_append (pv 1) (pa_cons (pe_tup (pa_cons (pe_mk_ex c23.R c23.I hr c23.b (by rfl) c23.g (pa_cons (pv 0) pa_nil)) (pa_cons (pe_get_ex (pe_mk_exK (ks := ["index"]) (fun l => l) (fun r => r) c23.R c23.I hr c23.bk (by rfl) c23.g (pk_cons (pv 0) pk_nil))) (pa_cons (pe_get_ex (pe_mk_ex c23.R c23.I hr c23.b (by rfl) c23.g (pa_cons (pv 0) pa_nil))) (pa_cons pe_str pa_nil))))) pa_nil)))
      (pss_cons (ps_expr (pe_bm PySem.F.plainAttrs_list PySem.F.slot_list_append PySem.F.type_list_append mt_append (pv 1) (pa_cons (pe_tup (pa_cons (pe_mk_ex c24.R c24.I hr c24.b (by rfl) c24.g (pa_cons (pv 0) pa_nil)) (pa_cons (pe_get_ex (pe_mk_exK (ks := ["index"]) (fun l => l) (fun r => r) c24.R c24.I hr c24.bk (by rfl) c24.g (pk_cons (pv 0) pk_nil))) (pa_cons (pe_get_ex (pe_mk_ex c24.R c24.I hr c24.b (by rfl) c24.g (pa_cons (pv 0) pa_nil))) (pa_cons pe_str pa_nil))))) pa_nil)))
      (pss_cons (ps_set (i := 2) scOther.nd rfl (Or.inl rfl) (pe_mk_exK (ks := ["line", "word"]) (fun l => l.reverse) vals_rev c25.R c25.I hr c25.bk (by rfl) c25.g (pk_cons (pv 0) (pk_cons pe_int pk_nil))))
      (pss_cons (ps_expr (pe_bm PySem.F.plainAttrs_list PySem.F.slot_list_append PySem.F.type_list_append mt_append (pv 1) (pa_cons (pe_tup (pa_cons (pe_mk_ex c25.R c25.I hr c25.b (by rfl) c25.g (pa_cons pe_int (pa_cons (pv 0) pa_nil))) (pa_cons (pe_get_ex (pv 2)) (pa_cons (pe_get_ex (pe_mk_ex c25.R c25.I hr c25.b (by rfl) c25.g (pa_cons pe_int (pa_cons (pv 0) pa_nil)))) (pa_cons pe_str pa_nil))))) pa_nil)))
      (pss_cons (ps_set (i := 2) scOther.nd rfl (Or.inl rfl) (pe_mk_exK (ks := ["line", "word"]) (fun l => l.reverse) vals_rev c25.R c25.I hr c25.bk (by rfl) c25.g (pk_cons pe_int (pk_cons (pv 0) pk_nil))))
      (pss_cons (ps_expr (pe_bm PySem.F.plainAttrs_list PySem.F.slot_list_append PySem.F.type_list_append mt_append (pv 1) (pa_cons (pe_tup (pa_cons (pe_mk_ex c25.R c25.I hr c25.b (by rfl) c25.g (pa_cons (pv 0) (pa_cons pe_int pa_nil))) (pa_cons (pe_get_ex (pv 2)) (pa_cons (pe_get_ex (pe_mk_ex c25.R c25.I hr c25.b (by rfl) c25.g (pa_cons (pv 0) (pa_cons pe_int pa_nil)))) (pa_cons pe_str pa_nil))))) pa_nil)))
      (pss_cons (ps_expr (pe_bm PySem.F.plainAttrs_list PySem.F.slot_list_append PySem.F.type_list_append mt_append (pv 1) (pa_cons (pe_tup (pa_cons (pe_mk_exK (ks := []) (fun l => l) (fun r => r) R18 I18 hr b18 (by rfl) g18 pk_nil) (pa_cons (pv 0) (pa_cons (pv 0) (pa_cons pe_str pa_nil))))) pa_nil)))
      (pss_one (ps_ret (pv 1)))))))))))))))))))))), ?_⟩
    refine seq_new fun l hl => ?_
    have W0 : RowsAt [(C13, "value"), (C14, "value"), (C15, "value"), (C16, "value"), (C17, "value"), (C18, "value"), (C19, "lookup"), (C20, "lookup"), (C21, "lookup"), (C22, "overflow"), (C23, "runtime"), (C24, "runtime"), (C25, "runtime")] v l (upd H l (.lst [])) 0 := ⟨[], upd_same, Nat.le_refl _, fun r hr => (List.not_mem_nil hr).elim⟩
    have S0 := same_new (o := .lst []) hl
    refine seq_row rfl W0 (by decide) (C := C13) (by simp) S0 hl (fun G _ => ev_e (ev_mk1 (eva_var rfl eva_nil))) (fun G _ => ev_get c13.R c13.nf lk1 (ev_mkK1 rfl rfl (eva_var rfl eva_nil))) (fun G _ => ev_get c13.R c13.nf lk1 (ev_mk1 (eva_var rfl eva_nil))) fun G1 S1 W1 => ?_
    refine seq_mk (ev_mkK2 rfl rfl (eva_c (eva_var rfl eva_nil))) fun a1 e1 M1 t1 x1 y1 => ?_
    refine seq_row rfl (W1.same t1) (by decide) (C := C14) (by simp) (S1.trans t1) hl (fun G _ => ev_e (ev_mk2 (eva_c (eva_var rfl eva_nil)))) (fun G s => ev_getv c14.R c14.n2 lk1 rfl (s _ _ x1) (s _ _ y1)) (fun G _ => ev_get c14.R c14.n2 lk1 (ev_mk2 (eva_c (eva_var rfl eva_nil)))) fun G2 S2 W2 => ?_
    refine seq_mk (ev_mkK2 rfl rfl (eva_var rfl (eva_c eva_nil))) fun a2 e2 M2 t2 x2 y2 => ?_
    refine seq_row rfl (W2.same t2) (by decide) (C := C14) (by simp) (S2.trans t2) hl (fun G _ => ev_e (ev_mk2 (eva_var rfl (eva_c eva_nil)))) (fun G s => ev_getv c14.R c14.n1 (lk2 k1) rfl (s _ _ x2) (s _ _ y2)) (fun G _ => ev_get c14.R c14.n1 (lk2 k1) (ev_mk2 (eva_var rfl (eva_c eva_nil)))) fun G3 S3 W3 => ?_
    refine seq_row rfl W3 (by decide) (C := C15) (by simp) S3 hl (fun G _ => ev_e (ev_mk1 (eva_var rfl eva_nil))) (fun G _ => ev_get c15.R c15.nf lk1 (ev_mkK1 rfl rfl (eva_var rfl eva_nil))) (fun G _ => ev_get c15.R c15.nf lk1 (ev_mk1 (eva_var rfl eva_nil))) fun G4 S4 W4 => ?_
    refine seq_row rfl W4 (by decide) (C := C16) (by simp) S4 hl (fun G _ => ev_e (ev_mk1 (eva_var rfl eva_nil))) (fun G _ => ev_get c16.R c16.nf lk1 (ev_mkK1 rfl rfl (eva_var rfl eva_nil))) (fun G _ => ev_get c16.R c16.nf lk1 (ev_mk1 (eva_var rfl eva_nil))) fun G5 S5 W5 => ?_
    refine seq_row rfl W5 (by decide) (C := C17) (by simp) S5 hl (fun G _ => ev_e (ev_mk1 (eva_var rfl eva_nil))) (fun G _ => ev_get c17.R c17.nf lk1 (ev_mkK1 rfl rfl (eva_var rfl eva_nil))) (fun G _ => ev_get c17.R c17.nf lk1 (ev_mk1 (eva_var rfl eva_nil))) fun G6 S6 W6 => ?_
    refine seq_row rfl W6 (by decide) (C := C19) (by simp) S6 hl (fun G _ => ev_e (ev_mk1 (eva_var rfl eva_nil))) (fun G _ => ev_get c19.R c19.nf lk1 (ev_mkK1 rfl rfl (eva_var rfl eva_nil))) (fun G _ => ev_get c19.R c19.nf lk1 (ev_mk1 (eva_var rfl eva_nil))) fun G7 S7 W7 => ?_
    refine seq_row rfl W7 (by decide) (C := C20) (by simp) S7 hl (fun G _ => ev_e (ev_mk1 (eva_var rfl eva_nil))) (fun G _ => ev_get c20.R c20.nf lk1 (ev_mkK1 rfl rfl (eva_var rfl eva_nil))) (fun G _ => ev_get c20.R c20.nf lk1 (ev_mk1 (eva_var rfl eva_nil))) fun G8 S8 W8 => ?_
    refine seq_row rfl W8 (by decide) (C := C21) (by simp) S8 hl (fun G _ => ev_e (ev_mk1 (eva_var rfl eva_nil))) (fun G _ => ev_get c21.R c21.nf lk1 (ev_mkK1 rfl rfl (eva_var rfl eva_nil))) (fun G _ => ev_get c21.R c21.nf lk1 (ev_mk1 (eva_var rfl eva_nil))) fun G9 S9 W9 => ?_
    refine seq_row rfl W9 (by decide) (C := C22) (by simp) S9 hl (fun G _ => ev_e (ev_mk1 (eva_var rfl eva_nil))) (fun G _ => ev_get c22.R c22.nf lk1 (ev_mkK1 rfl rfl (eva_var rfl eva_nil))) (fun G _ => ev_get c22.R c22.nf lk1 (ev_mk1 (eva_var rfl eva_nil))) fun G10 S10 W10 => ?_
    refine seq_row rfl W10 (by decide) (C := C23) (by simp) S10 hl (fun G _ => ev_e (ev_mk1 (eva_var rfl eva_nil))) (fun G _ => ev_get c23.R c23.nf lk1 (ev_mkK1 rfl rfl (eva_var rfl eva_nil))) (fun G _ => ev_get c23.R c23.nf lk1 (ev_mk1 (eva_var rfl eva_nil))) fun G11 S11 W11 => ?_
    refine seq_row rfl W11 (by decide) (C := C24) (by simp) S11 hl (fun G _ => ev_e (ev_mk1 (eva_var rfl eva_nil))) (fun G _ => ev_get c24.R c24.nf lk1 (ev_mkK1 rfl rfl (eva_var rfl eva_nil))) (fun G _ => ev_get c24.R c24.nf lk1 (ev_mk1 (eva_var rfl eva_nil))) fun G12 S12 W12 => ?_
    refine seq_mk (ev_mkK2 rfl rfl (eva_var rfl (eva_c eva_nil))) fun a12 e12 M12 t12 x12 y12 => ?_
    refine seq_row rfl (W12.same t12) (by decide) (C := C25) (by simp) (S12.trans t12) hl (fun G _ => ev_e (ev_mk2 (eva_c (eva_var rfl eva_nil)))) (fun G s => ev_getv c25.R c25.n2 lk1 rfl (s _ _ x12) (s _ _ y12)) (fun G _ => ev_get c25.R c25.n2 lk1 (ev_mk2 (eva_c (eva_var rfl eva_nil)))) fun G13 S13 W13 => ?_
    refine seq_mk (ev_mkK2 rfl rfl (eva_c (eva_var rfl eva_nil))) fun a13 e13 M13 t13 x13 y13 => ?_
    refine seq_row rfl (W13.same t13) (by decide) (C := C25) (by simp) (S13.trans t13) hl (fun G _ => ev_e (ev_mk2 (eva_var rfl (eva_c eva_nil)))) (fun G s => ev_getv c25.R c25.n1 (lk2 k2) rfl (s _ _ x13) (s _ _ y13)) (fun G _ => ev_get c25.R c25.n1 (lk2 k2) (ev_mk2 (eva_var rfl (eva_c eva_nil)))) fun G14 S14 W14 => ?_
    refine seq_row rfl W14 (by decide) (C := C18) (by simp) S14 hl (fun G _ => ev_mk0 rfl _ (fun a H Q ha hq => ⟨a, rfl, ha, hq⟩)) (fun G _ => ev_v rfl) (fun G _ => ev_v rfl) fun G15 S15 W15 => ?_
    exact ⟨_, rfl, q l G15 S15 (LW.RowsAt.le (by decide) W15)⟩
end
end LW
/-! The law. -/
namespace LW
open PySem L2 G
abbrev sLaw : Stmt := top 42
def spLaw (K : PySem.W.Frag) : Sp := fun vs H Q _ => ∃ (a : Addr) (ns : List Int), vs = [.ref a] ∧ SqL K H a (ns.map V.int) ∧ ns.length ≤ 63 ∧ ∀ H', Q (.bl true) H'
/-- what the written part says of a class of the rows -/
def SortOk (K : PySem.W.Frag) (CL : List Addr) (C : Addr) (s : Str) : Prop := ∃ (fI : Addr) (T : List Value) (b1 b2 b3 b4 : Bool), ExK K C fI T ∧ PySem.W.kitOne K (.ref C) (.type "ValueError") = some b1 ∧ PySem.W.kitOne K (.ref C) (.type "LookupError") = some b2 ∧
  PySem.W.kitOne K (.ref C) (.type "OverflowError") = some b3 ∧ PySem.W.kitOne K (.ref C) (.type "RuntimeError") = some b4 ∧ PySem.W.kitAny K (.ref C) [.type "IndexError", .type "KeyError", .type "NotImplementedError"] = some false ∧ pickB sortNames [b1, b2, b3, b4] = [.str s] ∧ PyData.strOk s = true ∧
  (∀ D ∈ CL, PySem.W.kitOne K (.ref C) (.ref D) = some (decide (C = D))) ∧ (CL.map fun D => decide (C = D)).count true = 1
structure Bl (mg : Str → Option Value) : Prop where
  range : mg "range" = none
  min : mg "min" = none
  len : mg "len" = none
  repr : mg "repr" = none
  m1 : ∃ t, mg "MAX_LETTERS" = some (.int 8 t)
  m2 : ∃ t, mg "MAX_NAMES" = some (.int 4 t)
  m3 : ∃ t, mg "MAX_ASKED" = some (.int 8 t)
  m4 : ∃ t, mg "MAX_STATEMENTS" = some (.int 24 t)
  m5 : ∃ t, mg "MAX_CHAINS" = some (.int 4 t)
  m6 : ∃ t, mg "MAX_TIMES" = some (.int 9 t)
  lim : ∃ t, mg "LIMIT" = some (.int (10 ^ 30) t)
theorem shape1 (x : Str) (h : PyData.strOk x = true) : SeqAt.shaped (.list [.str x]) = true := by
  simp [SeqAt.shaped, PyData.canLay0, PyData.canLayAll0, PyData.depth, PyData.depthAll, h]
theorem fit_of {d : PyData} (h : d ∈ opts) : d.showable = true ∧ d.depth ≤ 20 ∧ d.shown.length ≤ 1000 ∧ (PyData.list [d, d]).shown.length ≤ 3000 := by
  have fit := List.all_eq_true.mp opts_fit d h
  simp only [fits, Bool.and_eq_true, decide_eq_true_eq] at fit
  exact ⟨fit.1.1.1.1, fit.1.1.1.2, fit.1.1.2, fit.1.2⟩
theorem rs {K : PySem.W.Frag} {H : Hp} {v : V} {d : PyData} {Q : VK} (h : Da K H v d) (f : d ∈ opts) (q : Q (.str d.shown) H) : rRepr K [v] H Q := by
  obtain ⟨f1, f2, f3, f4⟩ := fit_of f
  exact ⟨v, d, rfl, h, f1, by omega, by rw [sizeLine_eq]; omega, q⟩
theorem rs2 {K : PySem.W.Frag} {H : Hp} {v : V} {d : PyData} {Q : VK} {p : Addr} (np : p ≠ sysModules) (h : Da K H v d) (f : d ∈ opts) (hp : H p = some (.lst [v, v])) (q : Q (.str (PyData.list [d, d]).shown) H) : rRepr K [.ref p] H Q := by
  obtain ⟨f1, f2, f3, f4⟩ := fit_of f
  refine ⟨_, .list [d, d], rfl, .lst np (Or.inl (Or.inl hp)) (.cons h (.cons h .nil)), ?_, ?_, by rw [sizeLine_eq]; omega, q⟩
  · simp [PyData.showable, PyData.showableAll, f1]
  · simp only [PyData.depth, PyData.depthAll]
    omega
section
variable {P : Program} {w : World} {K : PySem.W.Frag} {mg : Str → Option Value}
theorem scLaw : FnScope ["_law_script", "_law_pen_here", "_law_turn", "_law_thing", "_law_kept", "_law_every", "_law_error", "_law_titled", "_law_placed", "_law_sort", "_law_some"] ["_law_script"] (defScope sLaw) := ⟨rfl, rfl, rfl, by decide +kernel, rfl, by decide +kernel, by decide +kernel⟩
theorem run_law {f : Addr} {fd : FuncData} (F : Fun K "law" "law" sLaw f fd) (B : Bl mg) {CS1 CS2 : List (Addr × Str)} {CL : List Addr} (ok : ∀ q ∈ CS1 ++ CS2, SortOk K CL q.1 q.2)
    {aP aA aS aO aT aC : Addr} {dP dA dS dO dT dC : FuncData} (mP : mg "_law_pen" = some (.ref aP)) (kP : PySem.W.keepIn K (.ref aP) = true) (bP : Binds K dP ["_law_script"] []) (mA : mg "_law_any_value" = some (.ref aA)) (kA : PySem.W.keepIn K (.ref aA) = true) (bA : Binds K dA ["_law_pen_here"] [])
    (mS : mg "_law_some_errors" = some (.ref aS)) (kS : PySem.W.keepIn K (.ref aS) = true) (bS : Binds K dS ["_law_thing"] []) (mO : mg "_law_other_errors" = some (.ref aO)) (kO : PySem.W.keepIn K (.ref aO) = true) (bO : Binds K dO ["_law_thing"] [])
    (mT : mg "_law_sorts" = some (.ref aT)) (kT : PySem.W.keepIn K (.ref aT) = true) (bT : Binds K dT ["_law_error"] []) (mC : mg "_law_classes" = some (.ref aC)) (kC : PySem.W.keepIn K (.ref aC) = true) (bC : Binds K dC ["_law_error"] [])
    (GP : ∀ base : Heap, FnOk P w K mg base CX0 1 aP dP ["_law_script"] (spPen K)) (GA : ∀ base : Heap, FnOk P w K mg base CX0 3 aA dA ["_law_pen_here"] (spAny K)) (GS : ∀ base : Heap, FnOk P w K mg base CX0 3 aS dS ["_law_thing"] (spRows CS1)) (GO : ∀ base : Heap, FnOk P w K mg base CX0 3 aO dO ["_law_thing"] (spRows CS2))
    (GT : ∀ base : Heap, FnOk P w K mg base CX0 1 aT dT ["_law_error"] (spSorts K)) (GC : ∀ base : Heap, FnOk P w K mg base CX0 1 aC dC ["_law_error"] (spCls K CL)) :
    RunA P w K mg callerA f fd ["_law_script"] (spLaw K) := by
  refine runA_of (k := 3) F scLaw (fun vs H Q E h => ?_) ⟨rfl, by decide, by decide⟩ (fun base cdv outer s H vs Q E kb nb hr h => ?_)
  · obtain ⟨a, ns, rfl, _⟩ := h
    rfl
  · obtain ⟨a, ns, rfl, hS, few, q⟩ := h
    have hr1 : Room 1 _ := hr.mono (by decide)
    have hu64 := hr.units
    have hu : (callerA.deeper (PyProof.Rows.envOfC "law" (defScope sLaw) s.heap.objs.size f cdv)).units + 64 < cLine := hr.units
    have hg : (callerA.deeper (PyProof.Rows.envOfC "law" (defScope sLaw) s.heap.objs.size f cdv)).guards = some [] := rfl
    obtain ⟨t1, m1⟩ := B.m1
    obtain ⟨t2, m2⟩ := B.m2
    obtain ⟨t3, m3⟩ := B.m3
    obtain ⟨t4, m4⟩ := B.m4
    obtain ⟨t5, m5⟩ := B.m5
    obtain ⟨t6, m6⟩ := B.m6
    obtain ⟨t7, m7⟩ := B.lim
    refine ⟨_, pss_cons (ps_set (i := 1) scLaw.nd rfl (Or.inl rfl) (pe_call (GP base) hr1 (by rfl) mP kP bP .nil pass0 (pa_cons (pv 0) pa_nil)))
      (pss_cons (ps_for PassesOwn.never rfl (pi_range1 (by rfl) B.range (pa_cons (pe_op op_add pe_int (pe_callB (call_min2 rfl) (by rfl) B.min (by decide +kernel) (pa_cons pe_int (pa_cons (pe_callB call_len (by rfl) B.len PySem.boot_len (pa_cons (pv 0) pa_nil)) pa_nil)))) pa_nil)) (pg_name (i := 2) scLaw.nd rfl (Or.inl rfl))
        (pss_cons (ps_set (i := 3) scLaw.nd rfl (Or.inl rfl) (pe_call (GA base) hr (by rfl) mA kA bA .nil pass0 (pa_cons (pv 1) pa_nil)))
        (pss_cons (ps_set (i := 4) scLaw.nd rfl (Or.inl rfl) (pe_callB (call_repr hg hu) (by rfl) B.repr (by decide +kernel) (pa_cons (pv 3) pa_nil)))
        (pss_cons (ps_set (i := 5) scLaw.nd rfl (Or.inl rfl) (pe_op op_cat (pe_call (GS base) hr (by rfl) mS kS bS .nil pass0 (pa_cons (pv 3) pa_nil)) (pe_call (GO base) hr (by rfl) mO kO bO .nil pass0 (pa_cons (pv 3) pa_nil))))
        (pss_one (ps_for PassesOwn.never rfl (pi_list (pv 5)) (pg_tup (n := 4) rfl (pgs_cons (pg_name (i := 6) scLaw.nd rfl (Or.inl rfl)) (pgs_cons (pg_name (i := 7) scLaw.nd rfl (Or.inl rfl)) (pgs_cons (pg_name (i := 8) scLaw.nd rfl (Or.inl rfl)) (pgs_cons (pg_name (i := 9) scLaw.nd rfl (Or.inl rfl)) pgs_nil)))))
          (pss_cons (ps_if (PW.pt (pw_or (pt_cmpR op_ne (pe_callB (call_repr hg hu) (by rfl) B.repr (by decide +kernel) (pa_cons (pe_lstS (pa_cons (pv 7) (pa_cons (pv 8) pa_nil))) pa_nil)) (pe_callB (call_repr hg hu) (by rfl) B.repr (by decide +kernel) (pa_cons (pe_lstS (pa_cons (pv 3) (pa_cons (pv 3) pa_nil))) pa_nil)) (nomark _))
              (pw_or1 (pt_cmpR (op_neD hu) (pe_call (GT base) hr1 (by rfl) mT kT bT .nil pass0 (pa_cons (pv 6) pa_nil)) (pe_lst (pa_cons (pv 9) pa_nil)) (nomark _))))) (pss_one (ps_ret pe_bl)) pss_nil)
          (pss_one (ps_if (PW.pt (pw_or (pt_cmpR op_ne (pe_bm PySem.F.plainAttrs_list PySem.F.slot_list_count PySem.F.type_list_count mt_cntB (pe_call (GC base) hr1 (by rfl) mC kC bC .nil pass0 (pa_cons (pv 6) pa_nil)) (pa_cons pe_bl pa_nil)) pe_int (nomark _))
              (pw_or1 (pt_cmpR op_ne (pe_callB (call_repr hg hu) (by rfl) B.repr (by decide +kernel) (pa_cons (pv 3) pa_nil)) (pv 4) (nomark _))))) (pss_one (ps_ret pe_bl)) pss_nil)))))))))
      (pss_cons (ps_set (i := 10) scLaw.nd rfl (Or.inl rfl) (pe_lstS (pa_cons (pe_glob (v := .int 8) (by rfl) m1 ⟨_, rfl⟩) (pa_cons (pe_glob (v := .int 4) (by rfl) m2 ⟨_, rfl⟩) (pa_cons (pe_glob (v := .int 8) (by rfl) m3 ⟨_, rfl⟩)
          (pa_cons (pe_glob (v := .int 24) (by rfl) m4 ⟨_, rfl⟩) (pa_cons (pe_glob (v := .int 4) (by rfl) m5 ⟨_, rfl⟩) (pa_cons (pe_glob (v := .int 9) (by rfl) m6 ⟨_, rfl⟩) pa_nil))))))))
      (pss_one (ps_ret (pe_and (pe_cmpR op_eq (pe_callB (call_repr hg hu) (by rfl) B.repr (by decide +kernel) (pa_cons (pv 10) pa_nil)) pe_str (nomark _))
        (pe_one (pe_cmpR op_eq (pe_callB (call_repr hg hu) (by rfl) B.repr (by decide +kernel) (pa_cons (pe_glob (v := .int (10 ^ 30)) (by rfl) m7 ⟨_, rfl⟩) pa_nil))
          (pe_callB (call_repr hg hu) (by rfl) B.repr (by decide +kernel) (pa_cons (pe_op op_pow pe_int pe_int) pa_nil)) (nomark _)))))))), ?_⟩
    -- the pen
    refine ⟨_, rfl, a, ns, rfl, hS, few, fun p c H1 np nc s1 N => ?_⟩
    refine ⟨_, rfl, .ref a, ns.length, rfl, .inl ⟨_, s1.seq hS, (List.length_map ..).symm⟩, 5, (ns.length : Int), rfl, _, _, rfl, rfl, _, rfl, ?_, ?_, ?_⟩
    · show -(2 ^ 62) ≤ (3 : Int) + (if (ns.length : Int) < 5 then (ns.length : Int) else 5)
      split <;> omega
    · show (3 : Int) + (if (ns.length : Int) < 5 then (ns.length : Int) else 5) < 2 ^ 62
      split <;> omega
    have turns : ((3 : Int) + (if (ns.length : Int) < 5 then (ns.length : Int) else 5)).toNat ≤ 8 := by split <;> omega
    revert turns
    show ((3 : Int) + (if (ns.length : Int) < 5 then (ns.length : Int) else 5)).toNat ≤ 8 → _
    generalize ((3 : Int) + (if (ns.length : Int) < 5 then (ns.length : Int) else 5)).toNat = n
    intro turns
    refine for_range (n := n) (fun i σ G => ∃ v2 v3 v4 v5 v6 v7 v8 v9 v10 : Option V, σ = [some (.ref a), some (.ref p), v2, v3, v4, v5, v6, v7, v8, v9, v10] ∧ ∃ t l : Int, PenAt G p c ns t l ∧ t ≤ i) ⟨_, _, _, _, _, _, _, _, _, rfl, 0, 0, N, Int.le_refl _⟩ (fun i σ G hi h => ?_) (fun σ G h => ?_)
    · obtain ⟨v2, v3, v4, v5, v6, v7, v8, v9, v10, rfl, t, l, N, ht⟩ := h
      have ti : t ≤ 1000000 := by omega
      refine ⟨_, rfl, p, c, ns, t, l, rfl, N, ti, fun v d t' l' G1 hd da ht' N1 old1 => ?_⟩
      obtain ⟨f1, f2, f3, f4⟩ := fit_of hd
      have f2' : d.depth ≤ 32 := by omega
      have f3' : d.shown.length ≤ sizeLine := by rw [sizeLine_eq]; omega
      have f4' : (PyData.list [d, d]).shown.length ≤ sizeLine := by rw [sizeLine_eq]; omega
      have f5 : (PyData.list [d, d]).showable = true := by simp [PyData.showable, PyData.showableAll, f1]
      have f6 : (PyData.list [d, d]).depth ≤ 32 := by
        simp only [PyData.depth, PyData.depthAll]
        omega
      refine ⟨_, rfl, v, d, rfl, da, f1, f2', f3', ?_⟩
      refine ⟨_, rfl, v, rfl, fun l1 G2 s2 W1 => ?_⟩
      refine ⟨_, rfl, v, rfl, fun l2 G3 s3 W2 => ?_⟩
      obtain ⟨rs1, e1, len1, rows1⟩ := W1.same s3
      obtain ⟨rs2, e2, len2, rows2⟩ := W2
      refine ⟨l1, l2, rs1, rs2, rfl, rfl, e1, e2, by rw [sizeLine_eq]; omega, fun lv hlv => ?_⟩
      have s4 := same_new (o := .lst (rs1 ++ rs2)) hlv
      have rows : ∀ r ∈ rs1 ++ rs2, ∃ q ∈ CS1 ++ CS2, RowAt (upd G3 lv (.lst (rs1 ++ rs2))) q.1 q.2 v r := fun r hr => by
        rcases List.mem_append.mp hr with hr | hr
        · obtain ⟨q, hq, x⟩ := rows1 r hr
          exact ⟨q, List.mem_append_left _ hq, x.same s4⟩
        · obtain ⟨q, hq, x⟩ := rows2 r hr
          exact ⟨q, List.mem_append_right _ hq, x.same s4⟩
      have S4 := (s2.trans s3).trans s4
      have N4 := N1.same S4
      have da4 := da.same S4
      have e4 : (upd G3 lv (.lst (rs1 ++ rs2))) lv = some (.lst (rs1 ++ rs2)) := upd_same
      refine ⟨_, rfl, lv, rfl, ⟨_, Or.inl (Or.inl e4)⟩, ?_⟩
      revert e4 rows N4 da4
      generalize upd G3 lv (.lst (rs1 ++ rs2)) = G4
      intro rows N4 da4 e4
      refine for_list (K := K) (a := lv) (xs := rs1 ++ rs2) (fun j σ G => ∃ v6 v7 v8 v9 v10 : Option V, σ = [some (.ref a), some (.ref p), some (.int (0 + (i : Int))), some v, some (.str d.shown), some (.ref lv), v6, v7, v8, v9, v10] ∧ Same G4 G) ⟨_, _, _, _, _, rfl, Same.refl _⟩ (fun j σ G _ h => ?_) (fun j r σ G hr h => ?_) (fun σ G h => ?_)
      · obtain ⟨_, _, _, _, _, _, S⟩ := h
        exact Or.inl (Or.inl (S _ _ e4))
      · obtain ⟨v6, v7, v8, v9, v10, rfl, S⟩ := h
        obtain ⟨q, hq, t9, e, rfl, ht9, hE⟩ := rows r (List.mem_of_getElem? hr)
        obtain ⟨fI, T, b1, b2, b3, b4, R, k1, k2, k3, k4, k5, hp, sok, kits, cnt⟩ := ok q hq
        refine ⟨t9, _, rfl, Or.inl (Or.inl (S _ _ ht9)), rfl, _, _, rfl, _, _, rfl, _, _, rfl, _, _, rfl, rfl, ?_⟩
        have daG := da4.same S
        have hEG := hE.same S
        -- the two shown texts
        refine ⟨_, rfl, _, rfl, (by show 2 ≤ sizeLine; decide), fun p1 hp1 np1 => ⟨_, .list [d, d], rfl, .lst np1 (Or.inl (Or.inl upd_same)) (.cons (daG.same (same_new hp1)) (.cons (daG.same (same_new hp1)) .nil)), f5, f6, f4', ?_⟩⟩
        have u1 := same_new (o := .lst [v, v]) hp1
        refine ⟨_, rfl, _, rfl, (by show 2 ≤ sizeLine; decide), fun p2 hp2 np2 => ⟨_, .list [d, d], rfl, .lst np2 (Or.inl (Or.inl upd_same)) (.cons ((daG.same u1).same (same_new hp2)) (.cons ((daG.same u1).same (same_new hp2)) .nil)), f5, f6, f4', ?_⟩⟩
        have u2 := same_new (o := .lst [v, v]) hp2
        refine ⟨rfl, _, rfl, ?_⟩
        refine iteNS rfl ?_
        have u12 := u1.trans u2
        -- its sorts
        refine ⟨_, rfl, e, q.1, fI, T, b1, b2, b3, b4, rfl, R, hEG.same u12, k1, k2, k3, k4, k5, fun l5 G5 s5 h5 => ?_⟩
        refine ⟨_, rfl, (by show 1 ≤ sizeLine; decide), fun l6 hl6 => ?_⟩
        rw [hp] at h5
        have u6 := same_new (o := .lst [V.str q.2]) hl6
        refine ⟨.list [.str q.2], .list [.str q.2], .lst (Or.inl (Or.inl (u6 _ _ h5))) (.cons (.str _) .nil), .lst (Or.inl (Or.inl upd_same)) (.cons (.str _) .nil), shape1 _ sok, shape1 _ sok, _, rfl, ?_⟩
        rw [show PyData.eqv (.list [.str q.2]) (.list [.str q.2]) = true from by simp [PyData.eqv, PyData.eqvAll]]
        refine iteF ?_
        have S6 := (u12.trans s5).trans u6
        -- its classes
        refine ⟨_, rfl, e, q.1, fI, T, rfl, R, hEG.same S6, kits, fun l7 G7 s7 h7 => ?_⟩
        refine ⟨.inl ⟨rfl, _, Or.inl (Or.inl h7)⟩, l7, _, true, rfl, rfl, Or.inl (Or.inl h7), ?_⟩
        rw [cnt]
        refine ⟨rfl, _, rfl, ?_⟩
        refine iteF ?_
        refine ⟨_, rfl, v, d, rfl, daG.same (S6.trans s7), f1, f2', f3', _, rfl, rfl, _, rfl, ?_⟩
        refine iteNS rfl ?_
        exact ⟨_, _, _, _, _, rfl, S.trans (S6.trans s7)⟩
      · obtain ⟨v6, v7, v8, v9, v10, rfl, S⟩ := h
        exact ⟨_, _, _, _, _, _, _, _, _, rfl, t', l', N4.same S, by omega⟩
    · obtain ⟨v2, v3, v4, v5, v6, v7, v8, v9, v10, rfl, t, l, N, ht⟩ := h
      have pw : (0 : Int) ≤ 30 ∧ (30 : Int) ≤ 1000000 ∧ (10 : Int).natAbs < 2 ^ 64 := ⟨by decide, by decide, by decide⟩
      refine ⟨(by show 6 ≤ sizeLine; decide), fun lz hlz nlz => ?_⟩
      refine ⟨_, rfl, _, .list [.int 8, .int 4, .int 8, .int 24, .int 4, .int 9], rfl, .lst nlz (Or.inl (Or.inl upd_same)) (.cons (.int _) (.cons (.int _) (.cons (.int _) (.cons (.int _) (.cons (.int _) (.cons (.int _) .nil)))))), by decide +kernel, by decide +kernel, by decide +kernel, ?_⟩
      refine ⟨rfl, _, rfl, ?_⟩
      rw [decide_eq_true (show V.str (PyData.list [.int 8, .int 4, .int 8, .int 24, .int 4, .int 9]).shown = V.str "[8, 4, 8, 24, 4, 9]" from by decide +kernel)]
      refine iteT ?_
      refine ⟨.int (10 ^ 30), .int (10 ^ 30), rfl, .int _, by decide +kernel, by decide +kernel, by decide +kernel, ?_⟩
      refine ⟨_, _, rfl, rfl, pw, .int ((10 : Int) ^ (30 : Int).toNat), .int (10 ^ 30), rfl, .int _, by decide +kernel, by decide +kernel, by decide +kernel, ?_⟩
      refine ⟨rfl, ?_⟩
      rw [decide_eq_true rfl]
      exact q _
end
end LW
/-! NotLeast's __init__; the facts by Bools. -/
namespace LW
open PySem L2 G
section
variable {w : World} {K : PySem.W.Frag} {mg : Str → Option Value} {base : Heap}
theorem ok_18 {fI C : Addr} {T : List Value} {fd : FuncData} (Y : ExSup K mg C fI T (sI 18) fd) : FnOk PySem.Challenge.pw_namechains_k10_errors_and_limits w K mg base CX0 1 fI fd ["self"] (spS C) := by
  refine ok_super (p0 := ⟨74, 8, 74, 13⟩) (p1 := ⟨74, 8, 74, 15⟩) (pl := fun env => do return (← importBound (.Call (.Name "super" ⟨74, 8, 74, 13⟩) [] [] ⟨74, 8, 74, 15⟩) env).getD true) Y (by rfl) (by rfl) rfl rfl rfl ⟨_, rfl, rfl⟩ (by rfl) (by decide +kernel) (fun env h => ?_) (fun env h => ?_)
  · obtain ⟨sc, lo, g, ce, q, fu, co, fr, bu⟩ := env
    dsimp only at h
    subst h
    rfl
  · obtain ⟨sc, lo, g, ce, q, fu, co, fr, bu⟩ := env
    dsimp only at h
    subst h
    rfl
end
def exB (K : PySem.W.Frag) (C fI : Addr) (T : List Value) (newId : String) : Bool :=
  PySem.W.excInitIn K C T newId && (PySem.W.excOver K C T && (decide (PySem.W.findIn K (.ref C) "__setattr__" = some (some (.builtin "object.__setattr__"))) && (decide (PySem.W.findIn K (.ref C) "__getattribute__" = some (some (.builtin "BaseException.__getattribute__"))) &&
  (decide (PySem.W.findIn K (.ref C) "__getattr__" = some none) && (decide (PySem.W.subIn K (.ref C) (.type "BaseException") = some true) && (PySem.W.hasDictIn K C && (PySem.W.keepIn K (.ref C) && (decide (PySem.W.findIn K (.ref C) "__init__" = some (some (.ref fI))) &&
  (PySem.W.isFn K (.ref fI) && (decide (PySem.W.findIn K (.ref C) "__class__" = some (some (.builtin "object.__class__"))) && (decide (PySem.W.mroIn K C (.type "object") = some true) && PySem.W.keepIn K (.ref fI))))))))))))
theorem exB_ok {K : PySem.W.Frag} {C fI : Addr} {T : List Value} {B newId initId : String} (F : ExcBaseFacts B newId initId T) (SF : StoreFacts B T "object.__setattr__" "object") (h : exB K C fI T newId = true) : ExK K C fI T ∧ PySem.W.keepIn K (.ref fI) = true := by
  simp only [exB, Bool.and_eq_true, decide_eq_true_eq] at h
  obtain ⟨h1, h2, h3, h4, h5, h6, h7, h8, h9, h10, h11, h12, h13⟩ := h
  exact ⟨⟨⟨B, newId, initId, F, SF, h1⟩, h2, h3, h4, h5, h6, h7, h8, h9, h10, h11, h12⟩, h13⟩
def fB (K : PySem.W.Frag) (C : Addr) (f : Str) : Bool := decide (PySem.W.findIn K (.ref C) f = some none) && decide (PySem.W.takerIn K C f = some none)
theorem fB_ok {K : PySem.W.Frag} {C : Addr} {f : Str} (h : fB K C f = true) : PySem.W.findIn K (.ref C) f = some none ∧ PySem.W.takerIn K C f = some none := by
  simpa [fB] using h
def kitB (K : PySem.W.Frag) (CL : List Addr) : Bool := CL.all fun C => CL.all fun D => decide (PySem.W.kitOne K (.ref C) (.ref D) = some (decide (C = D)))
def cntB (CL : List Addr) : Bool := CL.all fun C => decide ((CL.map fun D => decide (C = D)).count true = 1)
def bitsB (K : PySem.W.Frag) (C : Addr) (b1 b2 b3 b4 : Bool) : Bool := decide (PySem.W.kitOne K (.ref C) (.type "ValueError") = some b1) && (decide (PySem.W.kitOne K (.ref C) (.type "LookupError") = some b2) && (decide (PySem.W.kitOne K (.ref C) (.type "OverflowError") = some b3) &&
  (decide (PySem.W.kitOne K (.ref C) (.type "RuntimeError") = some b4) && decide (PySem.W.kitAny K (.ref C) [.type "IndexError", .type "KeyError", .type "NotImplementedError"] = some false))))
theorem sort_ok {K : PySem.W.Frag} {CL : List Addr} {C fI : Addr} {T : List Value} {s : Str} {b1 b2 b3 b4 : Bool} (R : ExK K C fI T) (k : kitB K CL = true) (c : cntB CL = true) (m : C ∈ CL) (b : bitsB K C b1 b2 b3 b4 = true) (p : pickB sortNames [b1, b2, b3, b4] = [.str s]) (so : PyData.strOk s = true) : SortOk K CL C s := by
  simp only [bitsB, Bool.and_eq_true, decide_eq_true_eq] at b
  obtain ⟨h1, h2, h3, h4, h5⟩ := b
  refine ⟨fI, T, b1, b2, b3, b4, R, h1, h2, h3, h4, h5, p, so, fun D hD => ?_, ?_⟩
  · have z := List.all_eq_true.mp (List.all_eq_true.mp k C m) D hD
    exact of_decide_eq_true z
  · exact of_decide_eq_true (List.all_eq_true.mp c C m)
theorem pick_v : pickB sortNames [true, false, false, false] = [.str "value"] := rfl
theorem pick_l : pickB sortNames [false, true, false, false] = [.str "lookup"] := rfl
theorem pick_o : pickB sortNames [false, false, true, false] = [.str "overflow"] := rfl
theorem pick_r : pickB sortNames [false, false, false, true] = [.str "runtime"] := rfl
end LW
/-! The end: what the top has written, put together. -/
namespace LW
open PySem L2 G
/-- a class of errors with fields fs -/
def CF (K : PySem.W.Frag) (x q : Str) (fs : List Str) (st : Stmt) (C fI : Addr) (T : List Value) (newId : String) (oc kV dc pm cd ct : Value) (od an : Option Addr) (sl : Array (Option Value)) : Prop :=
  PySem.W.nsIn K mainGlobals x = some (some (.ref C)) ∧ PySem.W.findIn K (.ref C) "__init__" = some (some (.ref fI)) ∧ K.lookup fI = some ⟨oc, od, .func (PySem.W.fnOf "__init__" q (defArgs st) (defBody st) (defScope st) .none kV dc pm an cd ct), sl⟩ ∧ PySem.W.codeIn K cd q = true ∧ exB K C fI T newId = true ∧ (fs.all fun f => fB K C f) = true
def DF (K : PySem.W.Frag) (x : Str) (st : Stmt) (a : Addr) (oc kV dc pm cd ct : Value) (od an : Option Addr) (sl : Array (Option Value)) : Prop :=
  PySem.W.nsIn K mainGlobals x = some (some (.ref a)) ∧ K.lookup a = some ⟨oc, od, .func (PySem.W.fnOf x x (defArgs st) (defBody st) (defScope st) .none kV dc pm an cd ct), sl⟩ ∧ PySem.W.codeIn K cd x = true ∧ PySem.W.keepIn K (.ref a) = true
def supB (K : PySem.W.Frag) (C : Addr) : Bool := decide (PySem.W.subIn K (.ref C) (.type "ValueError") = some true) && (decide (PySem.W.ks_superIn K C C "__init__" = some (some (.builtin "ValueError.__init__"))) && ((PySem.W.clsIn K C).isSome && decide (PySem.W.mroIn K C (.ref C) = some true)))
def NF (K : PySem.W.Frag) (C fI cda cc : Addr) (oc kV dc pm ct : Value) (od an : Option Addr) (sl : Array (Option Value)) (cl : Value) (cld : Option Addr) (csl : Array (Option Value)) (ccl : Value) (cdd : Option Addr) (vs : Array Value) (ccs : Array (Option Value)) (tf : Tok) : Prop :=
  PySem.W.nsIn K mainGlobals "NotLeast" = some (some (.ref C)) ∧ PySem.W.findIn K (.ref C) "__init__" = some (some (.ref fI)) ∧
  K.lookup fI = some ⟨oc, od, .func (PySem.W.ksFn "__init__" "NotLeast.__init__" (defArgs (sI 18)) (defBody (sI 18)) (defScope (sI 18)) .none kV dc pm an (.ref cda) ct cc), sl⟩ ∧ PySem.W.codeIn K (.ref cda) "NotLeast.__init__" = true ∧
  K.lookup cc = some ⟨cl, cld, .cell (some (.ref C)), csl⟩ ∧ K.lookup cda = some ⟨ccl, cdd, .fields vs, ccs⟩ ∧ vs[2]? = some (.str "/claim/cut.py" tf) ∧ exB K C fI [.type "ValueError", .type "Exception", .type "BaseException", .type "object"] "ValueError.__new__" = true ∧ supB K C = true ∧
  PySem.W.nsIn K mainGlobals "super" = some none ∧ PySem.W.nsIn K cStatics "thirdparty.any" = some none
theorem so_v : PyData.strOk (Str.ofString "value") = true := by decide +kernel
theorem so_l : PyData.strOk (Str.ofString "lookup") = true := by decide +kernel
theorem so_o : PyData.strOk (Str.ofString "overflow") = true := by decide +kernel
theorem so_r : PyData.strOk (Str.ofString "runtime") = true := by decide +kernel
section
variable {P : Program} {w : World} {K : PySem.W.Frag} {mg : Str → Option Value} {base h : Heap}

theorem cm_1 {C fI : Addr} {oc kV dc pm cd ct : Value} {od an : Option Addr} {sl : Array (Option Value)} (X : K.In h) (G : h.Ns mainGlobals mg) (c : CF K "InvalidWord" "InvalidWord.__init__" ["value"] (sI 1) C fI [.type "ValueError", .type "Exception", .type "BaseException", .type "object"] "ValueError.__new__" oc kV dc pm cd ct od an sl) : Cl1 P w K mg base "InvalidWord" "value" C fI (PySem.W.fnOf "__init__" "InvalidWord.__init__" (defArgs (sI 1)) (defBody (sI 1)) (defScope (sI 1)) .none kV dc pm an cd ct) [.type "ValueError", .type "Exception", .type "BaseException", .type "object"] := by
  obtain ⟨a, i, l, e, x, y⟩ := c
  obtain ⟨R, kf⟩ := exB_ok PySem.F.excBase_ValueError PySem.F.store_ValueError x
  obtain ⟨n1, t1⟩ := fB_ok (List.all_eq_true.mp y "value" (by simp))
  exact cl_1 (PySem.W.mg_of X G a) R n1 t1 (fun_mk (st := sI 1) l e kf)
theorem cm_2 {C fI : Addr} {oc kV dc pm cd ct : Value} {od an : Option Addr} {sl : Array (Option Value)} (X : K.In h) (G : h.Ns mainGlobals mg) (c : CF K "InvalidChain" "InvalidChain.__init__" ["value"] (sI 2) C fI [.type "ValueError", .type "Exception", .type "BaseException", .type "object"] "ValueError.__new__" oc kV dc pm cd ct od an sl) : Cl1 P w K mg base "InvalidChain" "value" C fI (PySem.W.fnOf "__init__" "InvalidChain.__init__" (defArgs (sI 2)) (defBody (sI 2)) (defScope (sI 2)) .none kV dc pm an cd ct) [.type "ValueError", .type "Exception", .type "BaseException", .type "object"] := by
  obtain ⟨a, i, l, e, x, y⟩ := c
  obtain ⟨R, kf⟩ := exB_ok PySem.F.excBase_ValueError PySem.F.store_ValueError x
  obtain ⟨n1, t1⟩ := fB_ok (List.all_eq_true.mp y "value" (by simp))
  exact cl_2 (PySem.W.mg_of X G a) R n1 t1 (fun_mk (st := sI 2) l e kf)
theorem cm_3 {C fI : Addr} {oc kV dc pm cd ct : Value} {od an : Option Addr} {sl : Array (Option Value)} (X : K.In h) (G : h.Ns mainGlobals mg) (c : CF K "InvalidStretch" "InvalidStretch.__init__" ["value"] (sI 3) C fI [.type "ValueError", .type "Exception", .type "BaseException", .type "object"] "ValueError.__new__" oc kV dc pm cd ct od an sl) : Cl1 P w K mg base "InvalidStretch" "value" C fI (PySem.W.fnOf "__init__" "InvalidStretch.__init__" (defArgs (sI 3)) (defBody (sI 3)) (defScope (sI 3)) .none kV dc pm an cd ct) [.type "ValueError", .type "Exception", .type "BaseException", .type "object"] := by
  obtain ⟨a, i, l, e, x, y⟩ := c
  obtain ⟨R, kf⟩ := exB_ok PySem.F.excBase_ValueError PySem.F.store_ValueError x
  obtain ⟨n1, t1⟩ := fB_ok (List.all_eq_true.mp y "value" (by simp))
  exact cl_3 (PySem.W.mg_of X G a) R n1 t1 (fun_mk (st := sI 3) l e kf)
theorem cm_4 {C fI : Addr} {oc kV dc pm cd ct : Value} {od an : Option Addr} {sl : Array (Option Value)} (X : K.In h) (G : h.Ns mainGlobals mg) (c : CF K "InvalidSubject" "InvalidSubject.__init__" ["value"] (sI 4) C fI [.type "ValueError", .type "Exception", .type "BaseException", .type "object"] "ValueError.__new__" oc kV dc pm cd ct od an sl) : Cl1 P w K mg base "InvalidSubject" "value" C fI (PySem.W.fnOf "__init__" "InvalidSubject.__init__" (defArgs (sI 4)) (defBody (sI 4)) (defScope (sI 4)) .none kV dc pm an cd ct) [.type "ValueError", .type "Exception", .type "BaseException", .type "object"] := by
  obtain ⟨a, i, l, e, x, y⟩ := c
  obtain ⟨R, kf⟩ := exB_ok PySem.F.excBase_ValueError PySem.F.store_ValueError x
  obtain ⟨n1, t1⟩ := fB_ok (List.all_eq_true.mp y "value" (by simp))
  exact cl_4 (PySem.W.mg_of X G a) R n1 t1 (fun_mk (st := sI 4) l e kf)
theorem cm_5 {C fI : Addr} {oc kV dc pm cd ct : Value} {od an : Option Addr} {sl : Array (Option Value)} (X : K.In h) (G : h.Ns mainGlobals mg) (c : CF K "InvalidTimes" "InvalidTimes.__init__" ["value"] (sI 5) C fI [.type "ValueError", .type "Exception", .type "BaseException", .type "object"] "ValueError.__new__" oc kV dc pm cd ct od an sl) : Cl1 P w K mg base "InvalidTimes" "value" C fI (PySem.W.fnOf "__init__" "InvalidTimes.__init__" (defArgs (sI 5)) (defBody (sI 5)) (defScope (sI 5)) .none kV dc pm an cd ct) [.type "ValueError", .type "Exception", .type "BaseException", .type "object"] := by
  obtain ⟨a, i, l, e, x, y⟩ := c
  obtain ⟨R, kf⟩ := exB_ok PySem.F.excBase_ValueError PySem.F.store_ValueError x
  obtain ⟨n1, t1⟩ := fB_ok (List.all_eq_true.mp y "value" (by simp))
  exact cl_5 (PySem.W.mg_of X G a) R n1 t1 (fun_mk (st := sI 5) l e kf)
theorem cm_6 {C fI : Addr} {oc kV dc pm cd ct : Value} {od an : Option Addr} {sl : Array (Option Value)} (X : K.In h) (G : h.Ns mainGlobals mg) (c : CF K "InvalidDay" "InvalidDay.__init__" ["value"] (sI 6) C fI [.type "ValueError", .type "Exception", .type "BaseException", .type "object"] "ValueError.__new__" oc kV dc pm cd ct od an sl) : Cl1 P w K mg base "InvalidDay" "value" C fI (PySem.W.fnOf "__init__" "InvalidDay.__init__" (defArgs (sI 6)) (defBody (sI 6)) (defScope (sI 6)) .none kV dc pm an cd ct) [.type "ValueError", .type "Exception", .type "BaseException", .type "object"] := by
  obtain ⟨a, i, l, e, x, y⟩ := c
  obtain ⟨R, kf⟩ := exB_ok PySem.F.excBase_ValueError PySem.F.store_ValueError x
  obtain ⟨n1, t1⟩ := fB_ok (List.all_eq_true.mp y "value" (by simp))
  exact cl_6 (PySem.W.mg_of X G a) R n1 t1 (fun_mk (st := sI 6) l e kf)
theorem cm_7 {C fI : Addr} {oc kV dc pm cd ct : Value} {od an : Option Addr} {sl : Array (Option Value)} (X : K.In h) (G : h.Ns mainGlobals mg) (c : CF K "InvalidTable" "InvalidTable.__init__" ["value"] (sI 7) C fI [.type "ValueError", .type "Exception", .type "BaseException", .type "object"] "ValueError.__new__" oc kV dc pm cd ct od an sl) : Cl1 P w K mg base "InvalidTable" "value" C fI (PySem.W.fnOf "__init__" "InvalidTable.__init__" (defArgs (sI 7)) (defBody (sI 7)) (defScope (sI 7)) .none kV dc pm an cd ct) [.type "ValueError", .type "Exception", .type "BaseException", .type "object"] := by
  obtain ⟨a, i, l, e, x, y⟩ := c
  obtain ⟨R, kf⟩ := exB_ok PySem.F.excBase_ValueError PySem.F.store_ValueError x
  obtain ⟨n1, t1⟩ := fB_ok (List.all_eq_true.mp y "value" (by simp))
  exact cl_7 (PySem.W.mg_of X G a) R n1 t1 (fun_mk (st := sI 7) l e kf)
theorem cm_8 {C fI : Addr} {oc kV dc pm cd ct : Value} {od an : Option Addr} {sl : Array (Option Value)} (X : K.In h) (G : h.Ns mainGlobals mg) (c : CF K "InvalidCount" "InvalidCount.__init__" ["value"] (sI 8) C fI [.type "ValueError", .type "Exception", .type "BaseException", .type "object"] "ValueError.__new__" oc kV dc pm cd ct od an sl) : Cl1 P w K mg base "InvalidCount" "value" C fI (PySem.W.fnOf "__init__" "InvalidCount.__init__" (defArgs (sI 8)) (defBody (sI 8)) (defScope (sI 8)) .none kV dc pm an cd ct) [.type "ValueError", .type "Exception", .type "BaseException", .type "object"] := by
  obtain ⟨a, i, l, e, x, y⟩ := c
  obtain ⟨R, kf⟩ := exB_ok PySem.F.excBase_ValueError PySem.F.store_ValueError x
  obtain ⟨n1, t1⟩ := fB_ok (List.all_eq_true.mp y "value" (by simp))
  exact cl_8 (PySem.W.mg_of X G a) R n1 t1 (fun_mk (st := sI 8) l e kf)
theorem cm_9 {C fI : Addr} {oc kV dc pm cd ct : Value} {od an : Option Addr} {sl : Array (Option Value)} (X : K.In h) (G : h.Ns mainGlobals mg) (c : CF K "InvalidLogs" "InvalidLogs.__init__" ["value"] (sI 9) C fI [.type "ValueError", .type "Exception", .type "BaseException", .type "object"] "ValueError.__new__" oc kV dc pm cd ct od an sl) : Cl1 P w K mg base "InvalidLogs" "value" C fI (PySem.W.fnOf "__init__" "InvalidLogs.__init__" (defArgs (sI 9)) (defBody (sI 9)) (defScope (sI 9)) .none kV dc pm an cd ct) [.type "ValueError", .type "Exception", .type "BaseException", .type "object"] := by
  obtain ⟨a, i, l, e, x, y⟩ := c
  obtain ⟨R, kf⟩ := exB_ok PySem.F.excBase_ValueError PySem.F.store_ValueError x
  obtain ⟨n1, t1⟩ := fB_ok (List.all_eq_true.mp y "value" (by simp))
  exact cl_9 (PySem.W.mg_of X G a) R n1 t1 (fun_mk (st := sI 9) l e kf)
theorem cm_10 {C fI : Addr} {oc kV dc pm cd ct : Value} {od an : Option Addr} {sl : Array (Option Value)} (X : K.In h) (G : h.Ns mainGlobals mg) (c : CF K "InvalidStatement" "InvalidStatement.__init__" ["index"] (sI 10) C fI [.type "ValueError", .type "Exception", .type "BaseException", .type "object"] "ValueError.__new__" oc kV dc pm cd ct od an sl) : Cl1 P w K mg base "InvalidStatement" "index" C fI (PySem.W.fnOf "__init__" "InvalidStatement.__init__" (defArgs (sI 10)) (defBody (sI 10)) (defScope (sI 10)) .none kV dc pm an cd ct) [.type "ValueError", .type "Exception", .type "BaseException", .type "object"] := by
  obtain ⟨a, i, l, e, x, y⟩ := c
  obtain ⟨R, kf⟩ := exB_ok PySem.F.excBase_ValueError PySem.F.store_ValueError x
  obtain ⟨n1, t1⟩ := fB_ok (List.all_eq_true.mp y "index" (by simp))
  exact cl_10 (PySem.W.mg_of X G a) R n1 t1 (fun_mk (st := sI 10) l e kf)
theorem cm_11 {C fI : Addr} {oc kV dc pm cd ct : Value} {od an : Option Addr} {sl : Array (Option Value)} (X : K.In h) (G : h.Ns mainGlobals mg) (c : CF K "InvalidPart" "InvalidPart.__init__" ["index"] (sI 11) C fI [.type "ValueError", .type "Exception", .type "BaseException", .type "object"] "ValueError.__new__" oc kV dc pm cd ct od an sl) : Cl1 P w K mg base "InvalidPart" "index" C fI (PySem.W.fnOf "__init__" "InvalidPart.__init__" (defArgs (sI 11)) (defBody (sI 11)) (defScope (sI 11)) .none kV dc pm an cd ct) [.type "ValueError", .type "Exception", .type "BaseException", .type "object"] := by
  obtain ⟨a, i, l, e, x, y⟩ := c
  obtain ⟨R, kf⟩ := exB_ok PySem.F.excBase_ValueError PySem.F.store_ValueError x
  obtain ⟨n1, t1⟩ := fB_ok (List.all_eq_true.mp y "index" (by simp))
  exact cl_11 (PySem.W.mg_of X G a) R n1 t1 (fun_mk (st := sI 11) l e kf)
theorem cm_12 {C fI : Addr} {oc kV dc pm cd ct : Value} {od an : Option Addr} {sl : Array (Option Value)} (X : K.In h) (G : h.Ns mainGlobals mg) (c : CF K "InvalidGuard" "InvalidGuard.__init__" ["index"] (sI 12) C fI [.type "ValueError", .type "Exception", .type "BaseException", .type "object"] "ValueError.__new__" oc kV dc pm cd ct od an sl) : Cl1 P w K mg base "InvalidGuard" "index" C fI (PySem.W.fnOf "__init__" "InvalidGuard.__init__" (defArgs (sI 12)) (defBody (sI 12)) (defScope (sI 12)) .none kV dc pm an cd ct) [.type "ValueError", .type "Exception", .type "BaseException", .type "object"] := by
  obtain ⟨a, i, l, e, x, y⟩ := c
  obtain ⟨R, kf⟩ := exB_ok PySem.F.excBase_ValueError PySem.F.store_ValueError x
  obtain ⟨n1, t1⟩ := fB_ok (List.all_eq_true.mp y "index" (by simp))
  exact cl_12 (PySem.W.mg_of X G a) R n1 t1 (fun_mk (st := sI 12) l e kf)
theorem cm_13 {C fI : Addr} {oc kV dc pm cd ct : Value} {od an : Option Addr} {sl : Array (Option Value)} (X : K.In h) (G : h.Ns mainGlobals mg) (c : CF K "InvalidText" "InvalidText.__init__" ["index"] (sI 13) C fI [.type "ValueError", .type "Exception", .type "BaseException", .type "object"] "ValueError.__new__" oc kV dc pm cd ct od an sl) : Cl1 P w K mg base "InvalidText" "index" C fI (PySem.W.fnOf "__init__" "InvalidText.__init__" (defArgs (sI 13)) (defBody (sI 13)) (defScope (sI 13)) .none kV dc pm an cd ct) [.type "ValueError", .type "Exception", .type "BaseException", .type "object"] := by
  obtain ⟨a, i, l, e, x, y⟩ := c
  obtain ⟨R, kf⟩ := exB_ok PySem.F.excBase_ValueError PySem.F.store_ValueError x
  obtain ⟨n1, t1⟩ := fB_ok (List.all_eq_true.mp y "index" (by simp))
  exact cl_13 (PySem.W.mg_of X G a) R n1 t1 (fun_mk (st := sI 13) l e kf)
theorem cm_14 {C fI : Addr} {oc kV dc pm cd ct : Value} {od an : Option Addr} {sl : Array (Option Value)} (X : K.In h) (G : h.Ns mainGlobals mg) (c : CF K "InvalidLine" "InvalidLine.__init__" ["line", "index"] (sI 14) C fI [.type "ValueError", .type "Exception", .type "BaseException", .type "object"] "ValueError.__new__" oc kV dc pm cd ct od an sl) : Cl2 P w K mg base "InvalidLine" "line" "index" ["line", "index"] (fun l => l) C fI (PySem.W.fnOf "__init__" "InvalidLine.__init__" (defArgs (sI 14)) (defBody (sI 14)) (defScope (sI 14)) .none kV dc pm an cd ct) [.type "ValueError", .type "Exception", .type "BaseException", .type "object"] := by
  obtain ⟨a, i, l, e, x, y⟩ := c
  obtain ⟨R, kf⟩ := exB_ok PySem.F.excBase_ValueError PySem.F.store_ValueError x
  obtain ⟨n1, t1⟩ := fB_ok (List.all_eq_true.mp y "line" (by simp))
  obtain ⟨n2, t2⟩ := fB_ok (List.all_eq_true.mp y "index" (by simp))
  exact cl_14 (PySem.W.mg_of X G a) R n1 n2 t1 t2 (fun_mk (st := sI 14) l e kf)
theorem cm_15 {C fI : Addr} {oc kV dc pm cd ct : Value} {od an : Option Addr} {sl : Array (Option Value)} (X : K.In h) (G : h.Ns mainGlobals mg) (c : CF K "InvalidRow" "InvalidRow.__init__" ["row"] (sI 15) C fI [.type "ValueError", .type "Exception", .type "BaseException", .type "object"] "ValueError.__new__" oc kV dc pm cd ct od an sl) : Cl1 P w K mg base "InvalidRow" "row" C fI (PySem.W.fnOf "__init__" "InvalidRow.__init__" (defArgs (sI 15)) (defBody (sI 15)) (defScope (sI 15)) .none kV dc pm an cd ct) [.type "ValueError", .type "Exception", .type "BaseException", .type "object"] := by
  obtain ⟨a, i, l, e, x, y⟩ := c
  obtain ⟨R, kf⟩ := exB_ok PySem.F.excBase_ValueError PySem.F.store_ValueError x
  obtain ⟨n1, t1⟩ := fB_ok (List.all_eq_true.mp y "row" (by simp))
  exact cl_15 (PySem.W.mg_of X G a) R n1 t1 (fun_mk (st := sI 15) l e kf)
theorem cm_16 {C fI : Addr} {oc kV dc pm cd ct : Value} {od an : Option Addr} {sl : Array (Option Value)} (X : K.In h) (G : h.Ns mainGlobals mg) (c : CF K "Repeated" "Repeated.__init__" ["index"] (sI 16) C fI [.type "ValueError", .type "Exception", .type "BaseException", .type "object"] "ValueError.__new__" oc kV dc pm cd ct od an sl) : Cl1 P w K mg base "Repeated" "index" C fI (PySem.W.fnOf "__init__" "Repeated.__init__" (defArgs (sI 16)) (defBody (sI 16)) (defScope (sI 16)) .none kV dc pm an cd ct) [.type "ValueError", .type "Exception", .type "BaseException", .type "object"] := by
  obtain ⟨a, i, l, e, x, y⟩ := c
  obtain ⟨R, kf⟩ := exB_ok PySem.F.excBase_ValueError PySem.F.store_ValueError x
  obtain ⟨n1, t1⟩ := fB_ok (List.all_eq_true.mp y "index" (by simp))
  exact cl_16 (PySem.W.mg_of X G a) R n1 t1 (fun_mk (st := sI 16) l e kf)
theorem cm_17 {C fI : Addr} {oc kV dc pm cd ct : Value} {od an : Option Addr} {sl : Array (Option Value)} (X : K.In h) (G : h.Ns mainGlobals mg) (c : CF K "NotDone" "NotDone.__init__" ["index"] (sI 17) C fI [.type "ValueError", .type "Exception", .type "BaseException", .type "object"] "ValueError.__new__" oc kV dc pm cd ct od an sl) : Cl1 P w K mg base "NotDone" "index" C fI (PySem.W.fnOf "__init__" "NotDone.__init__" (defArgs (sI 17)) (defBody (sI 17)) (defScope (sI 17)) .none kV dc pm an cd ct) [.type "ValueError", .type "Exception", .type "BaseException", .type "object"] := by
  obtain ⟨a, i, l, e, x, y⟩ := c
  obtain ⟨R, kf⟩ := exB_ok PySem.F.excBase_ValueError PySem.F.store_ValueError x
  obtain ⟨n1, t1⟩ := fB_ok (List.all_eq_true.mp y "index" (by simp))
  exact cl_17 (PySem.W.mg_of X G a) R n1 t1 (fun_mk (st := sI 17) l e kf)
theorem cm_19 {C fI : Addr} {oc kV dc pm cd ct : Value} {od an : Option Addr} {sl : Array (Option Value)} (X : K.In h) (G : h.Ns mainGlobals mg) (c : CF K "OutOfRange" "OutOfRange.__init__" ["value"] (sI 19) C fI [.type "LookupError", .type "Exception", .type "BaseException", .type "object"] "LookupError.__new__" oc kV dc pm cd ct od an sl) : Cl1 P w K mg base "OutOfRange" "value" C fI (PySem.W.fnOf "__init__" "OutOfRange.__init__" (defArgs (sI 19)) (defBody (sI 19)) (defScope (sI 19)) .none kV dc pm an cd ct) [.type "LookupError", .type "Exception", .type "BaseException", .type "object"] := by
  obtain ⟨a, i, l, e, x, y⟩ := c
  obtain ⟨R, kf⟩ := exB_ok PySem.F.excBase_LookupError PySem.F.store_LookupError x
  obtain ⟨n1, t1⟩ := fB_ok (List.all_eq_true.mp y "value" (by simp))
  exact cl_19 (PySem.W.mg_of X G a) R n1 t1 (fun_mk (st := sI 19) l e kf)
theorem cm_20 {C fI : Addr} {oc kV dc pm cd ct : Value} {od an : Option Addr} {sl : Array (Option Value)} (X : K.In h) (G : h.Ns mainGlobals mg) (c : CF K "NotMeant" "NotMeant.__init__" ["word"] (sI 20) C fI [.type "LookupError", .type "Exception", .type "BaseException", .type "object"] "LookupError.__new__" oc kV dc pm cd ct od an sl) : Cl1 P w K mg base "NotMeant" "word" C fI (PySem.W.fnOf "__init__" "NotMeant.__init__" (defArgs (sI 20)) (defBody (sI 20)) (defScope (sI 20)) .none kV dc pm an cd ct) [.type "LookupError", .type "Exception", .type "BaseException", .type "object"] := by
  obtain ⟨a, i, l, e, x, y⟩ := c
  obtain ⟨R, kf⟩ := exB_ok PySem.F.excBase_LookupError PySem.F.store_LookupError x
  obtain ⟨n1, t1⟩ := fB_ok (List.all_eq_true.mp y "word" (by simp))
  exact cl_20 (PySem.W.mg_of X G a) R n1 t1 (fun_mk (st := sI 20) l e kf)
theorem cm_21 {C fI : Addr} {oc kV dc pm cd ct : Value} {od an : Option Addr} {sl : Array (Option Value)} (X : K.In h) (G : h.Ns mainGlobals mg) (c : CF K "Missing" "Missing.__init__" ["index"] (sI 21) C fI [.type "LookupError", .type "Exception", .type "BaseException", .type "object"] "LookupError.__new__" oc kV dc pm cd ct od an sl) : Cl1 P w K mg base "Missing" "index" C fI (PySem.W.fnOf "__init__" "Missing.__init__" (defArgs (sI 21)) (defBody (sI 21)) (defScope (sI 21)) .none kV dc pm an cd ct) [.type "LookupError", .type "Exception", .type "BaseException", .type "object"] := by
  obtain ⟨a, i, l, e, x, y⟩ := c
  obtain ⟨R, kf⟩ := exB_ok PySem.F.excBase_LookupError PySem.F.store_LookupError x
  obtain ⟨n1, t1⟩ := fB_ok (List.all_eq_true.mp y "index" (by simp))
  exact cl_21 (PySem.W.mg_of X G a) R n1 t1 (fun_mk (st := sI 21) l e kf)
theorem cm_22 {C fI : Addr} {oc kV dc pm cd ct : Value} {od an : Option Addr} {sl : Array (Option Value)} (X : K.In h) (G : h.Ns mainGlobals mg) (c : CF K "TooMany" "TooMany.__init__" ["limit"] (sI 22) C fI [.type "OverflowError", .type "ArithmeticError", .type "Exception", .type "BaseException", .type "object"] "OverflowError.__new__" oc kV dc pm cd ct od an sl) : Cl1 P w K mg base "TooMany" "limit" C fI (PySem.W.fnOf "__init__" "TooMany.__init__" (defArgs (sI 22)) (defBody (sI 22)) (defScope (sI 22)) .none kV dc pm an cd ct) [.type "OverflowError", .type "ArithmeticError", .type "Exception", .type "BaseException", .type "object"] := by
  obtain ⟨a, i, l, e, x, y⟩ := c
  obtain ⟨R, kf⟩ := exB_ok PySem.F.excBase_OverflowError PySem.F.store_OverflowError x
  obtain ⟨n1, t1⟩ := fB_ok (List.all_eq_true.mp y "limit" (by simp))
  exact cl_22 (PySem.W.mg_of X G a) R n1 t1 (fun_mk (st := sI 22) l e kf)
theorem cm_23 {C fI : Addr} {oc kV dc pm cd ct : Value} {od an : Option Addr} {sl : Array (Option Value)} (X : K.In h) (G : h.Ns mainGlobals mg) (c : CF K "Broken" "Broken.__init__" ["index"] (sI 23) C fI [.type "RuntimeError", .type "Exception", .type "BaseException", .type "object"] "RuntimeError.__new__" oc kV dc pm cd ct od an sl) : Cl1 P w K mg base "Broken" "index" C fI (PySem.W.fnOf "__init__" "Broken.__init__" (defArgs (sI 23)) (defBody (sI 23)) (defScope (sI 23)) .none kV dc pm an cd ct) [.type "RuntimeError", .type "Exception", .type "BaseException", .type "object"] := by
  obtain ⟨a, i, l, e, x, y⟩ := c
  obtain ⟨R, kf⟩ := exB_ok PySem.F.excBase_RuntimeError PySem.F.store_RuntimeError x
  obtain ⟨n1, t1⟩ := fB_ok (List.all_eq_true.mp y "index" (by simp))
  exact cl_23 (PySem.W.mg_of X G a) R n1 t1 (fun_mk (st := sI 23) l e kf)
theorem cm_24 {C fI : Addr} {oc kV dc pm cd ct : Value} {od an : Option Addr} {sl : Array (Option Value)} (X : K.In h) (G : h.Ns mainGlobals mg) (c : CF K "Closed" "Closed.__init__" ["index"] (sI 24) C fI [.type "RuntimeError", .type "Exception", .type "BaseException", .type "object"] "RuntimeError.__new__" oc kV dc pm cd ct od an sl) : Cl1 P w K mg base "Closed" "index" C fI (PySem.W.fnOf "__init__" "Closed.__init__" (defArgs (sI 24)) (defBody (sI 24)) (defScope (sI 24)) .none kV dc pm an cd ct) [.type "RuntimeError", .type "Exception", .type "BaseException", .type "object"] := by
  obtain ⟨a, i, l, e, x, y⟩ := c
  obtain ⟨R, kf⟩ := exB_ok PySem.F.excBase_RuntimeError PySem.F.store_RuntimeError x
  obtain ⟨n1, t1⟩ := fB_ok (List.all_eq_true.mp y "index" (by simp))
  exact cl_24 (PySem.W.mg_of X G a) R n1 t1 (fun_mk (st := sI 24) l e kf)
theorem cm_25 {C fI : Addr} {oc kV dc pm cd ct : Value} {od an : Option Addr} {sl : Array (Option Value)} (X : K.In h) (G : h.Ns mainGlobals mg) (c : CF K "Forked" "Forked.__init__" ["word", "line"] (sI 25) C fI [.type "RuntimeError", .type "Exception", .type "BaseException", .type "object"] "RuntimeError.__new__" oc kV dc pm cd ct od an sl) : Cl2 P w K mg base "Forked" "word" "line" ["line", "word"] (fun l => l.reverse) C fI (PySem.W.fnOf "__init__" "Forked.__init__" (defArgs (sI 25)) (defBody (sI 25)) (defScope (sI 25)) .none kV dc pm an cd ct) [.type "RuntimeError", .type "Exception", .type "BaseException", .type "object"] := by
  obtain ⟨a, i, l, e, x, y⟩ := c
  obtain ⟨R, kf⟩ := exB_ok PySem.F.excBase_RuntimeError PySem.F.store_RuntimeError x
  obtain ⟨n1, t1⟩ := fB_ok (List.all_eq_true.mp y "word" (by simp))
  obtain ⟨n2, t2⟩ := fB_ok (List.all_eq_true.mp y "line" (by simp))
  exact cl_25 (PySem.W.mg_of X G a) R n1 n2 t1 t2 (fun_mk (st := sI 25) l e kf)
theorem df_ok {x : Str} {st : Stmt} {a : Addr} {oc kV dc pm cd ct : Value} {od an : Option Addr} {sl : Array (Option Value)} (X : K.In h) (G : h.Ns mainGlobals mg) (d : DF K x st a oc kV dc pm cd ct od an sl) :
    mg x = some (.ref a) ∧ Fun K x x st a (PySem.W.fnOf x x (defArgs st) (defBody st) (defScope st) .none kV dc pm an cd ct) ∧ PySem.W.keepIn K (.ref a) = true := by
  obtain ⟨n, l, c, k⟩ := d
  exact ⟨PySem.W.mg_of X G n, fun_mk (st := st) l c k, k⟩
theorem cm_18 {C fI cda cc : Addr} {oc kV dc pm ct : Value} {od an : Option Addr} {sl : Array (Option Value)} {cl : Value} {cld : Option Addr} {csl : Array (Option Value)} {ccl : Value} {cdd : Option Addr} {vs : Array Value} {ccs : Array (Option Value)} {tf : Tok}
    (X : K.In h) (G : h.Ns mainGlobals mg) (c : NF K C fI cda cc oc kV dc pm ct od an sl cl cld csl ccl cdd vs ccs tf) : mg "NotLeast" = some (.ref C) ∧ ExK K C fI [.type "ValueError", .type "Exception", .type "BaseException", .type "object"] ∧
    (∀ base : Heap, FnOk PySem.Challenge.pw_namechains_k10_errors_and_limits w K mg base CX0 1 fI (PySem.W.ksFn "__init__" "NotLeast.__init__" (defArgs (sI 18)) (defBody (sI 18)) (defScope (sI 18)) .none kV dc pm an (.ref cda) ct cc) ["self"] (spS C)) ∧
    (∀ (s : Shared) (u : Value) (ws : List Value), K.In s.heap → ws.length = ([] : List Str).length → BindsTo s (PySem.W.ksFn "__init__" "NotLeast.__init__" (defArgs (sI 18)) (defBody (sI 18)) (defScope (sI 18)) .none kV dc pm an (.ref cda) ct cc) ⟨[u], ([] : List Str).zip ws⟩ (([Str.ofString "self"]).zip (u :: ws))) := by
  obtain ⟨a, i, l, e, lc, ld, v2, x, s, su, an'⟩ := c
  obtain ⟨R, kf⟩ := exB_ok PySem.F.excBase_ValueError PySem.F.store_ValueError x
  simp only [supB, Bool.and_eq_true, decide_eq_true_eq] at s
  obtain ⟨s1, s2, s3, s4⟩ := s
  obtain ⟨B, newId, initId, F, SF, q0⟩ := R.base
  have Y : ExSup K mg C fI [.type "ValueError", .type "Exception", .type "BaseException", .type "object"] (sI 18) (PySem.W.ksFn "__init__" "NotLeast.__init__" (defArgs (sI 18)) (defBody (sI 18)) (defScope (sI 18)) .none kV dc pm an (.ref cda) ct cc) := by
    have x2 := x
    simp only [exB, Bool.and_eq_true] at x2
    exact ⟨⟨"ValueError", "ValueError.__new__", "ValueError.__init__", PySem.F.excBase_ValueError, PySem.W.kxs_ValueError, x2.1, s1, s2⟩, ⟨"NotLeast.__init__", oc, od, kV, dc, pm, an, cda, cc, ct, sl, rfl, l, e, ⟨_, _, _, lc⟩, ccl, cdd, vs, ccs, _, tf, ld, v2, rfl⟩, s3, s4, PySem.W.mg_none_of X G su, an'⟩
  refine ⟨PySem.W.mg_of X G a, R, fun base => ok_18 Y, fun s u ws _ hl => ?_⟩
  match ws, hl with
  | [], _ => exact BindsTo.of_eq rfl
set_option maxHeartbeats 0 in
theorem all_mk {fa : Addr} (X : K.In h) (G : h.Ns mainGlobals mg) (hfa : mg "law" = some (.ref fa)) (lim : ∃ t, mg "LIMIT" = some (.int (10 ^ 30) t))
    {C1 f1 : Addr} {oc1 kV1 dc1 pm1 cd1 ct1 : Value} {od1 an1 : Option Addr} {sl1 : Array (Option Value)}
    {C2 f2 : Addr} {oc2 kV2 dc2 pm2 cd2 ct2 : Value} {od2 an2 : Option Addr} {sl2 : Array (Option Value)}
    {C3 f3 : Addr} {oc3 kV3 dc3 pm3 cd3 ct3 : Value} {od3 an3 : Option Addr} {sl3 : Array (Option Value)}
    {C4 f4 : Addr} {oc4 kV4 dc4 pm4 cd4 ct4 : Value} {od4 an4 : Option Addr} {sl4 : Array (Option Value)}
    {C5 f5 : Addr} {oc5 kV5 dc5 pm5 cd5 ct5 : Value} {od5 an5 : Option Addr} {sl5 : Array (Option Value)}
    {C6 f6 : Addr} {oc6 kV6 dc6 pm6 cd6 ct6 : Value} {od6 an6 : Option Addr} {sl6 : Array (Option Value)}
    {C7 f7 : Addr} {oc7 kV7 dc7 pm7 cd7 ct7 : Value} {od7 an7 : Option Addr} {sl7 : Array (Option Value)}
    {C8 f8 : Addr} {oc8 kV8 dc8 pm8 cd8 ct8 : Value} {od8 an8 : Option Addr} {sl8 : Array (Option Value)}
    {C9 f9 : Addr} {oc9 kV9 dc9 pm9 cd9 ct9 : Value} {od9 an9 : Option Addr} {sl9 : Array (Option Value)}
    {C10 f10 : Addr} {oc10 kV10 dc10 pm10 cd10 ct10 : Value} {od10 an10 : Option Addr} {sl10 : Array (Option Value)}
    {C11 f11 : Addr} {oc11 kV11 dc11 pm11 cd11 ct11 : Value} {od11 an11 : Option Addr} {sl11 : Array (Option Value)}
    {C12 f12 : Addr} {oc12 kV12 dc12 pm12 cd12 ct12 : Value} {od12 an12 : Option Addr} {sl12 : Array (Option Value)}
    {C13 f13 : Addr} {oc13 kV13 dc13 pm13 cd13 ct13 : Value} {od13 an13 : Option Addr} {sl13 : Array (Option Value)}
    {C14 f14 : Addr} {oc14 kV14 dc14 pm14 cd14 ct14 : Value} {od14 an14 : Option Addr} {sl14 : Array (Option Value)}
    {C15 f15 : Addr} {oc15 kV15 dc15 pm15 cd15 ct15 : Value} {od15 an15 : Option Addr} {sl15 : Array (Option Value)}
    {C16 f16 : Addr} {oc16 kV16 dc16 pm16 cd16 ct16 : Value} {od16 an16 : Option Addr} {sl16 : Array (Option Value)}
    {C17 f17 : Addr} {oc17 kV17 dc17 pm17 cd17 ct17 : Value} {od17 an17 : Option Addr} {sl17 : Array (Option Value)}
    {C18 f18 a18 c18 : Addr} {oc18 kV18 dc18 pm18 ct18 : Value} {od18 an18 : Option Addr} {sl18 : Array (Option Value)} {cl18 : Value} {cld18 : Option Addr} {csl18 : Array (Option Value)} {ccl18 : Value} {cdd18 : Option Addr} {vs18 : Array Value} {ccs18 : Array (Option Value)} {tf18 : Tok}
    {C19 f19 : Addr} {oc19 kV19 dc19 pm19 cd19 ct19 : Value} {od19 an19 : Option Addr} {sl19 : Array (Option Value)}
    {C20 f20 : Addr} {oc20 kV20 dc20 pm20 cd20 ct20 : Value} {od20 an20 : Option Addr} {sl20 : Array (Option Value)}
    {C21 f21 : Addr} {oc21 kV21 dc21 pm21 cd21 ct21 : Value} {od21 an21 : Option Addr} {sl21 : Array (Option Value)}
    {C22 f22 : Addr} {oc22 kV22 dc22 pm22 cd22 ct22 : Value} {od22 an22 : Option Addr} {sl22 : Array (Option Value)}
    {C23 f23 : Addr} {oc23 kV23 dc23 pm23 cd23 ct23 : Value} {od23 an23 : Option Addr} {sl23 : Array (Option Value)}
    {C24 f24 : Addr} {oc24 kV24 dc24 pm24 cd24 ct24 : Value} {od24 an24 : Option Addr} {sl24 : Array (Option Value)}
    {C25 f25 : Addr} {oc25 kV25 dc25 pm25 cd25 ct25 : Value} {od25 an25 : Option Addr} {sl25 : Array (Option Value)}
    {aPen : Addr} {ocPen kVPen dcPen pmPen cdPen ctPen : Value} {odPen anPen : Option Addr} {slPen : Array (Option Value)}
    {aDraw : Addr} {ocDraw kVDraw dcDraw pmDraw cdDraw ctDraw : Value} {odDraw anDraw : Option Addr} {slDraw : Array (Option Value)}
    {aPick : Addr} {ocPick kVPick dcPick pmPick cdPick ctPick : Value} {odPick anPick : Option Addr} {slPick : Array (Option Value)}
    {aAny : Addr} {ocAny kVAny dcAny pmAny cdAny ctAny : Value} {odAny anAny : Option Addr} {slAny : Array (Option Value)}
    {aSome : Addr} {ocSome kVSome dcSome pmSome cdSome ctSome : Value} {odSome anSome : Option Addr} {slSome : Array (Option Value)}
    {aOther : Addr} {ocOther kVOther dcOther pmOther cdOther ctOther : Value} {odOther anOther : Option Addr} {slOther : Array (Option Value)}
    {aCls : Addr} {ocCls kVCls dcCls pmCls cdCls ctCls : Value} {odCls anCls : Option Addr} {slCls : Array (Option Value)}
    {aSorts : Addr} {ocSorts kVSorts dcSorts pmSorts cdSorts ctSorts : Value} {odSorts anSorts : Option Addr} {slSorts : Array (Option Value)}
    {aLaw : Addr} {ocLaw kVLaw dcLaw pmLaw cdLaw ctLaw : Value} {odLaw anLaw : Option Addr} {slLaw : Array (Option Value)}
    {tm0 : Tok}
    {tm1 : Tok}
    {tm2 : Tok}
    {tm3 : Tok}
    {tm4 : Tok}
    {tm5 : Tok}
    (h1 : CF K "InvalidWord" "InvalidWord.__init__" ["value"] (sI 1) C1 f1 [.type "ValueError", .type "Exception", .type "BaseException", .type "object"] "ValueError.__new__" oc1 kV1 dc1 pm1 cd1 ct1 od1 an1 sl1)
    (h2 : CF K "InvalidChain" "InvalidChain.__init__" ["value"] (sI 2) C2 f2 [.type "ValueError", .type "Exception", .type "BaseException", .type "object"] "ValueError.__new__" oc2 kV2 dc2 pm2 cd2 ct2 od2 an2 sl2)
    (h3 : CF K "InvalidStretch" "InvalidStretch.__init__" ["value"] (sI 3) C3 f3 [.type "ValueError", .type "Exception", .type "BaseException", .type "object"] "ValueError.__new__" oc3 kV3 dc3 pm3 cd3 ct3 od3 an3 sl3)
    (h4 : CF K "InvalidSubject" "InvalidSubject.__init__" ["value"] (sI 4) C4 f4 [.type "ValueError", .type "Exception", .type "BaseException", .type "object"] "ValueError.__new__" oc4 kV4 dc4 pm4 cd4 ct4 od4 an4 sl4)
    (h5 : CF K "InvalidTimes" "InvalidTimes.__init__" ["value"] (sI 5) C5 f5 [.type "ValueError", .type "Exception", .type "BaseException", .type "object"] "ValueError.__new__" oc5 kV5 dc5 pm5 cd5 ct5 od5 an5 sl5)
    (h6 : CF K "InvalidDay" "InvalidDay.__init__" ["value"] (sI 6) C6 f6 [.type "ValueError", .type "Exception", .type "BaseException", .type "object"] "ValueError.__new__" oc6 kV6 dc6 pm6 cd6 ct6 od6 an6 sl6)
    (h7 : CF K "InvalidTable" "InvalidTable.__init__" ["value"] (sI 7) C7 f7 [.type "ValueError", .type "Exception", .type "BaseException", .type "object"] "ValueError.__new__" oc7 kV7 dc7 pm7 cd7 ct7 od7 an7 sl7)
    (h8 : CF K "InvalidCount" "InvalidCount.__init__" ["value"] (sI 8) C8 f8 [.type "ValueError", .type "Exception", .type "BaseException", .type "object"] "ValueError.__new__" oc8 kV8 dc8 pm8 cd8 ct8 od8 an8 sl8)
    (h9 : CF K "InvalidLogs" "InvalidLogs.__init__" ["value"] (sI 9) C9 f9 [.type "ValueError", .type "Exception", .type "BaseException", .type "object"] "ValueError.__new__" oc9 kV9 dc9 pm9 cd9 ct9 od9 an9 sl9)
    (h10 : CF K "InvalidStatement" "InvalidStatement.__init__" ["index"] (sI 10) C10 f10 [.type "ValueError", .type "Exception", .type "BaseException", .type "object"] "ValueError.__new__" oc10 kV10 dc10 pm10 cd10 ct10 od10 an10 sl10)
    (h11 : CF K "InvalidPart" "InvalidPart.__init__" ["index"] (sI 11) C11 f11 [.type "ValueError", .type "Exception", .type "BaseException", .type "object"] "ValueError.__new__" oc11 kV11 dc11 pm11 cd11 ct11 od11 an11 sl11)
    (h12 : CF K "InvalidGuard" "InvalidGuard.__init__" ["index"] (sI 12) C12 f12 [.type "ValueError", .type "Exception", .type "BaseException", .type "object"] "ValueError.__new__" oc12 kV12 dc12 pm12 cd12 ct12 od12 an12 sl12)
    (h13 : CF K "InvalidText" "InvalidText.__init__" ["index"] (sI 13) C13 f13 [.type "ValueError", .type "Exception", .type "BaseException", .type "object"] "ValueError.__new__" oc13 kV13 dc13 pm13 cd13 ct13 od13 an13 sl13)
    (h14 : CF K "InvalidLine" "InvalidLine.__init__" ["line", "index"] (sI 14) C14 f14 [.type "ValueError", .type "Exception", .type "BaseException", .type "object"] "ValueError.__new__" oc14 kV14 dc14 pm14 cd14 ct14 od14 an14 sl14)
    (h15 : CF K "InvalidRow" "InvalidRow.__init__" ["row"] (sI 15) C15 f15 [.type "ValueError", .type "Exception", .type "BaseException", .type "object"] "ValueError.__new__" oc15 kV15 dc15 pm15 cd15 ct15 od15 an15 sl15)
    (h16 : CF K "Repeated" "Repeated.__init__" ["index"] (sI 16) C16 f16 [.type "ValueError", .type "Exception", .type "BaseException", .type "object"] "ValueError.__new__" oc16 kV16 dc16 pm16 cd16 ct16 od16 an16 sl16)
    (h17 : CF K "NotDone" "NotDone.__init__" ["index"] (sI 17) C17 f17 [.type "ValueError", .type "Exception", .type "BaseException", .type "object"] "ValueError.__new__" oc17 kV17 dc17 pm17 cd17 ct17 od17 an17 sl17)
    (h18 : NF K C18 f18 a18 c18 oc18 kV18 dc18 pm18 ct18 od18 an18 sl18 cl18 cld18 csl18 ccl18 cdd18 vs18 ccs18 tf18)
    (h19 : CF K "OutOfRange" "OutOfRange.__init__" ["value"] (sI 19) C19 f19 [.type "LookupError", .type "Exception", .type "BaseException", .type "object"] "LookupError.__new__" oc19 kV19 dc19 pm19 cd19 ct19 od19 an19 sl19)
    (h20 : CF K "NotMeant" "NotMeant.__init__" ["word"] (sI 20) C20 f20 [.type "LookupError", .type "Exception", .type "BaseException", .type "object"] "LookupError.__new__" oc20 kV20 dc20 pm20 cd20 ct20 od20 an20 sl20)
    (h21 : CF K "Missing" "Missing.__init__" ["index"] (sI 21) C21 f21 [.type "LookupError", .type "Exception", .type "BaseException", .type "object"] "LookupError.__new__" oc21 kV21 dc21 pm21 cd21 ct21 od21 an21 sl21)
    (h22 : CF K "TooMany" "TooMany.__init__" ["limit"] (sI 22) C22 f22 [.type "OverflowError", .type "ArithmeticError", .type "Exception", .type "BaseException", .type "object"] "OverflowError.__new__" oc22 kV22 dc22 pm22 cd22 ct22 od22 an22 sl22)
    (h23 : CF K "Broken" "Broken.__init__" ["index"] (sI 23) C23 f23 [.type "RuntimeError", .type "Exception", .type "BaseException", .type "object"] "RuntimeError.__new__" oc23 kV23 dc23 pm23 cd23 ct23 od23 an23 sl23)
    (h24 : CF K "Closed" "Closed.__init__" ["index"] (sI 24) C24 f24 [.type "RuntimeError", .type "Exception", .type "BaseException", .type "object"] "RuntimeError.__new__" oc24 kV24 dc24 pm24 cd24 ct24 od24 an24 sl24)
    (h25 : CF K "Forked" "Forked.__init__" ["word", "line"] (sI 25) C25 f25 [.type "RuntimeError", .type "Exception", .type "BaseException", .type "object"] "RuntimeError.__new__" oc25 kV25 dc25 pm25 cd25 ct25 od25 an25 sl25)
    (hPen : DF K "_law_pen" (top 34) aPen ocPen kVPen dcPen pmPen cdPen ctPen odPen anPen slPen)
    (hDraw : DF K "_law_draw" (top 35) aDraw ocDraw kVDraw dcDraw pmDraw cdDraw ctDraw odDraw anDraw slDraw)
    (hPick : DF K "_law_pick" (top 36) aPick ocPick kVPick dcPick pmPick cdPick ctPick odPick anPick slPick)
    (hAny : DF K "_law_any_value" (top 37) aAny ocAny kVAny dcAny pmAny cdAny ctAny odAny anAny slAny)
    (hSome : DF K "_law_some_errors" (top 38) aSome ocSome kVSome dcSome pmSome cdSome ctSome odSome anSome slSome)
    (hOther : DF K "_law_other_errors" (top 39) aOther ocOther kVOther dcOther pmOther cdOther ctOther odOther anOther slOther)
    (hCls : DF K "_law_classes" (top 40) aCls ocCls kVCls dcCls pmCls cdCls ctCls odCls anCls slCls)
    (hSorts : DF K "_law_sorts" (top 41) aSorts ocSorts kVSorts dcSorts pmSorts cdSorts ctSorts odSorts anSorts slSorts)
    (hLaw : DF K "law" (top 42) aLaw ocLaw kVLaw dcLaw pmLaw cdLaw ctLaw odLaw anLaw slLaw)
    (z_int : PySem.W.nsIn K mainGlobals "int" = some none)
    (z_len : PySem.W.nsIn K mainGlobals "len" = some none)
    (z_abs : PySem.W.nsIn K mainGlobals "abs" = some none)
    (z_list : PySem.W.nsIn K mainGlobals "list" = some none)
    (z_isinstance : PySem.W.nsIn K mainGlobals "isinstance" = some none)
    (z_zip : PySem.W.nsIn K mainGlobals "zip" = some none)
    (z_ValueError : PySem.W.nsIn K mainGlobals "ValueError" = some none)
    (z_LookupError : PySem.W.nsIn K mainGlobals "LookupError" = some none)
    (z_OverflowError : PySem.W.nsIn K mainGlobals "OverflowError" = some none)
    (z_RuntimeError : PySem.W.nsIn K mainGlobals "RuntimeError" = some none)
    (z_IndexError : PySem.W.nsIn K mainGlobals "IndexError" = some none)
    (z_KeyError : PySem.W.nsIn K mainGlobals "KeyError" = some none)
    (z_NotImplementedError : PySem.W.nsIn K mainGlobals "NotImplementedError" = some none)
    (z_range : PySem.W.nsIn K mainGlobals "range" = some none)
    (z_min : PySem.W.nsIn K mainGlobals "min" = some none)
    (z_repr : PySem.W.nsIn K mainGlobals "repr" = some none)
    (m_0 : PySem.W.nsIn K mainGlobals "MAX_LETTERS" = some (some (.int 8 tm0)))
    (m_1 : PySem.W.nsIn K mainGlobals "MAX_NAMES" = some (some (.int 4 tm1)))
    (m_2 : PySem.W.nsIn K mainGlobals "MAX_ASKED" = some (some (.int 8 tm2)))
    (m_3 : PySem.W.nsIn K mainGlobals "MAX_STATEMENTS" = some (some (.int 24 tm3)))
    (m_4 : PySem.W.nsIn K mainGlobals "MAX_CHAINS" = some (some (.int 4 tm4)))
    (m_5 : PySem.W.nsIn K mainGlobals "MAX_TIMES" = some (some (.int 9 tm5)))
    (xd1 : PySem.W.specialIn K (.builtin "object.__class__") "__get__" = some (some (.builtin "getset_descriptor.__get__")))
    (xd2 : PySem.W.takesIn K (.builtin "object.__class__") = some true)
    (kit : kitB K [C1, C2, C3, C4, C5, C6, C7, C8, C9, C10, C11, C12, C13, C14, C15, C16, C17, C18, C19, C20, C21, C22, C23, C24, C25] = true)
    (cnt : cntB [C1, C2, C3, C4, C5, C6, C7, C8, C9, C10, C11, C12, C13, C14, C15, C16, C17, C18, C19, C20, C21, C22, C23, C24, C25] = true)
    (y1 : bitsB K C1 true false false false = true)
    (y2 : bitsB K C2 true false false false = true)
    (y3 : bitsB K C3 true false false false = true)
    (y4 : bitsB K C4 true false false false = true)
    (y5 : bitsB K C5 true false false false = true)
    (y6 : bitsB K C6 true false false false = true)
    (y7 : bitsB K C7 true false false false = true)
    (y8 : bitsB K C8 true false false false = true)
    (y9 : bitsB K C9 true false false false = true)
    (y10 : bitsB K C10 true false false false = true)
    (y11 : bitsB K C11 true false false false = true)
    (y12 : bitsB K C12 true false false false = true)
    (y13 : bitsB K C13 true false false false = true)
    (y14 : bitsB K C14 true false false false = true)
    (y15 : bitsB K C15 true false false false = true)
    (y16 : bitsB K C16 true false false false = true)
    (y17 : bitsB K C17 true false false false = true)
    (y18 : bitsB K C18 true false false false = true)
    (y19 : bitsB K C19 false true false false = true)
    (y20 : bitsB K C20 false true false false = true)
    (y21 : bitsB K C21 false true false false = true)
    (y22 : bitsB K C22 false false true false = true)
    (y23 : bitsB K C23 false false false true = true)
    (y24 : bitsB K C24 false false false true = true)
    (y25 : bitsB K C25 false false false true = true) :
    ∃ fd : FuncData, (∀ (s : Shared) (u : Value), BindsTo s fd ⟨[u], []⟩ [("_law_script", u)]) ∧ RunA PySem.Challenge.pw_namechains_k10_errors_and_limits w K mg callerA fa fd ["_law_script"] (spLaw K) := by
  obtain ⟨mPen, FPen, kPen⟩ := df_ok X G hPen
  obtain ⟨mDraw, FDraw, kDraw⟩ := df_ok X G hDraw
  obtain ⟨mPick, FPick, kPick⟩ := df_ok X G hPick
  obtain ⟨mAny, FAny, kAny⟩ := df_ok X G hAny
  obtain ⟨mSome, FSome, kSome⟩ := df_ok X G hSome
  obtain ⟨mOther, FOther, kOther⟩ := df_ok X G hOther
  obtain ⟨mCls, FCls, kCls⟩ := df_ok X G hCls
  obtain ⟨mSorts, FSorts, kSorts⟩ := df_ok X G hSorts
  obtain ⟨mLaw, FLaw, kLaw⟩ := df_ok X G hLaw
  have e := hfa.symm.trans mLaw
  cases e
  have none_ : ∀ {n : Str}, PySem.W.nsIn K mainGlobals n = some none → mg n = none := fun z => PySem.W.mg_none_of X G z
  have T : Bt mg := ⟨none_ z_int, none_ z_len, none_ z_abs, none_ z_list⟩
  have ED : ExD K := ⟨xd1, xd2⟩
  have BX : Bx mg := ⟨none_ z_isinstance, none_ z_zip, none_ z_ValueError, none_ z_LookupError, none_ z_OverflowError, none_ z_RuntimeError, none_ z_IndexError, none_ z_KeyError, none_ z_NotImplementedError⟩
  have BL : Bl mg := ⟨none_ z_range, none_ z_min, none_ z_len, none_ z_repr, ⟨_, PySem.W.mg_of X G m_0⟩, ⟨_, PySem.W.mg_of X G m_1⟩, ⟨_, PySem.W.mg_of X G m_2⟩, ⟨_, PySem.W.mg_of X G m_3⟩, ⟨_, PySem.W.mg_of X G m_4⟩, ⟨_, PySem.W.mg_of X G m_5⟩, lim⟩
  obtain ⟨g18, R18, I18, b18⟩ := cm_18 (w := w) X G h18
  have bPen := FPen.binds (ps := ["_law_script"]) fun _ _ _ _ _ _ us hl => match us, hl with | [_], _ => rfl
  have bDraw := FDraw.binds (ps := ["_law_pen_here", "_law_many"]) fun _ _ _ _ _ _ us hl => match us, hl with | [_, _], _ => rfl
  have bPick := FPick.binds (ps := ["_law_pen_here", "_law_options"]) fun _ _ _ _ _ _ us hl => match us, hl with | [_, _], _ => rfl
  have bAny := FAny.binds (ps := ["_law_pen_here"]) fun _ _ _ _ _ _ us hl => match us, hl with | [_], _ => rfl
  have bSome := FSome.binds (ps := ["_law_thing"]) fun _ _ _ _ _ _ us hl => match us, hl with | [_], _ => rfl
  have bOther := FOther.binds (ps := ["_law_thing"]) fun _ _ _ _ _ _ us hl => match us, hl with | [_], _ => rfl
  have bCls := FCls.binds (ps := ["_law_error"]) fun _ _ _ _ _ _ us hl => match us, hl with | [_], _ => rfl
  have bSorts := FSorts.binds (ps := ["_law_error"]) fun _ _ _ _ _ _ us hl => match us, hl with | [_], _ => rfl
  have GD : ∀ base : Heap, FnOk PySem.Challenge.pw_namechains_k10_errors_and_limits w K mg base CX0 1 aDraw _ ["_law_pen_here", "_law_many"] spDraw := fun base => ok_draw FDraw T
  have GK : ∀ base : Heap, FnOk PySem.Challenge.pw_namechains_k10_errors_and_limits w K mg base CX0 2 aPick _ ["_law_pen_here", "_law_options"] (spPick K) := fun base => ok_pick FPick T (GD base) mDraw kDraw bDraw
  have GA : ∀ base : Heap, FnOk PySem.Challenge.pw_namechains_k10_errors_and_limits w K mg base CX0 3 aAny _ ["_law_pen_here"] (spAny K) := fun base => ok_any FAny (GK base) mPick kPick bPick
  have GS : ∀ base : Heap, FnOk PySem.Challenge.pw_namechains_k10_errors_and_limits w K mg base CX0 3 aSome _ ["_law_thing"] (spRows [(C1, "value"), (C2, "value"), (C3, "value"), (C4, "value"), (C5, "value"), (C6, "value"), (C7, "value"), (C8, "value"), (C9, "value"), (C10, "value"), (C11, "value"), (C12, "value")]) := fun base => ok_some FSome (cm_1 X G h1) (cm_2 X G h2) (cm_3 X G h3) (cm_4 X G h4) (cm_5 X G h5) (cm_6 X G h6) (cm_7 X G h7) (cm_8 X G h8) (cm_9 X G h9) (cm_10 X G h10) (cm_11 X G h11) (cm_12 X G h12)
  have GO : ∀ base : Heap, FnOk PySem.Challenge.pw_namechains_k10_errors_and_limits w K mg base CX0 3 aOther _ ["_law_thing"] (spRows [(C13, "value"), (C14, "value"), (C15, "value"), (C16, "value"), (C17, "value"), (C18, "value"), (C19, "lookup"), (C20, "lookup"), (C21, "lookup"), (C22, "overflow"), (C23, "runtime"), (C24, "runtime"), (C25, "runtime")]) := fun base => ok_other FOther (cm_13 X G h13) (cm_14 X G h14) (cm_15 X G h15) (cm_16 X G h16) (cm_17 X G h17) g18 R18 (I18 base) b18 (cm_19 X G h19) (cm_20 X G h20) (cm_21 X G h21) (cm_22 X G h22) (cm_23 X G h23) (cm_24 X G h24) (cm_25 X G h25)
  have GC : ∀ base : Heap, FnOk PySem.Challenge.pw_namechains_k10_errors_and_limits w K mg base CX0 1 aCls _ ["_law_error"] (spCls K [C1, C2, C3, C4, C5, C6, C7, C8, C9, C10, C11, C12, C13, C14, C15, C16, C17, C18, C19, C20, C21, C22, C23, C24, C25]) := fun base => ok_cls FCls ED (none_ z_isinstance) (PySem.W.mg_of X G h1.1) (PySem.W.mg_of X G h2.1) (PySem.W.mg_of X G h3.1) (PySem.W.mg_of X G h4.1) (PySem.W.mg_of X G h5.1) (PySem.W.mg_of X G h6.1) (PySem.W.mg_of X G h7.1) (PySem.W.mg_of X G h8.1) (PySem.W.mg_of X G h9.1) (PySem.W.mg_of X G h10.1) (PySem.W.mg_of X G h11.1) (PySem.W.mg_of X G h12.1) (PySem.W.mg_of X G h13.1) (PySem.W.mg_of X G h14.1) (PySem.W.mg_of X G h15.1) (PySem.W.mg_of X G h16.1) (PySem.W.mg_of X G h17.1) g18 (PySem.W.mg_of X G h19.1) (PySem.W.mg_of X G h20.1) (PySem.W.mg_of X G h21.1) (PySem.W.mg_of X G h22.1) (PySem.W.mg_of X G h23.1) (PySem.W.mg_of X G h24.1) (PySem.W.mg_of X G h25.1)
  have GT : ∀ base : Heap, FnOk PySem.Challenge.pw_namechains_k10_errors_and_limits w K mg base CX0 1 aSorts _ ["_law_error"] (spSorts K) := fun base => ok_sorts FSorts ED BX
  have GP : ∀ base : Heap, FnOk PySem.Challenge.pw_namechains_k10_errors_and_limits w K mg base CX0 1 aPen _ ["_law_script"] (spPen K) := fun base => ok_pen FPen T
  have R1 := (exB_ok PySem.F.excBase_ValueError PySem.F.store_ValueError h1.2.2.2.2.1).1
  have R2 := (exB_ok PySem.F.excBase_ValueError PySem.F.store_ValueError h2.2.2.2.2.1).1
  have R3 := (exB_ok PySem.F.excBase_ValueError PySem.F.store_ValueError h3.2.2.2.2.1).1
  have R4 := (exB_ok PySem.F.excBase_ValueError PySem.F.store_ValueError h4.2.2.2.2.1).1
  have R5 := (exB_ok PySem.F.excBase_ValueError PySem.F.store_ValueError h5.2.2.2.2.1).1
  have R6 := (exB_ok PySem.F.excBase_ValueError PySem.F.store_ValueError h6.2.2.2.2.1).1
  have R7 := (exB_ok PySem.F.excBase_ValueError PySem.F.store_ValueError h7.2.2.2.2.1).1
  have R8 := (exB_ok PySem.F.excBase_ValueError PySem.F.store_ValueError h8.2.2.2.2.1).1
  have R9 := (exB_ok PySem.F.excBase_ValueError PySem.F.store_ValueError h9.2.2.2.2.1).1
  have R10 := (exB_ok PySem.F.excBase_ValueError PySem.F.store_ValueError h10.2.2.2.2.1).1
  have R11 := (exB_ok PySem.F.excBase_ValueError PySem.F.store_ValueError h11.2.2.2.2.1).1
  have R12 := (exB_ok PySem.F.excBase_ValueError PySem.F.store_ValueError h12.2.2.2.2.1).1
  have R13 := (exB_ok PySem.F.excBase_ValueError PySem.F.store_ValueError h13.2.2.2.2.1).1
  have R14 := (exB_ok PySem.F.excBase_ValueError PySem.F.store_ValueError h14.2.2.2.2.1).1
  have R15 := (exB_ok PySem.F.excBase_ValueError PySem.F.store_ValueError h15.2.2.2.2.1).1
  have R16 := (exB_ok PySem.F.excBase_ValueError PySem.F.store_ValueError h16.2.2.2.2.1).1
  have R17 := (exB_ok PySem.F.excBase_ValueError PySem.F.store_ValueError h17.2.2.2.2.1).1
  have R19 := (exB_ok PySem.F.excBase_LookupError PySem.F.store_LookupError h19.2.2.2.2.1).1
  have R20 := (exB_ok PySem.F.excBase_LookupError PySem.F.store_LookupError h20.2.2.2.2.1).1
  have R21 := (exB_ok PySem.F.excBase_LookupError PySem.F.store_LookupError h21.2.2.2.2.1).1
  have R22 := (exB_ok PySem.F.excBase_OverflowError PySem.F.store_OverflowError h22.2.2.2.2.1).1
  have R23 := (exB_ok PySem.F.excBase_RuntimeError PySem.F.store_RuntimeError h23.2.2.2.2.1).1
  have R24 := (exB_ok PySem.F.excBase_RuntimeError PySem.F.store_RuntimeError h24.2.2.2.2.1).1
  have R25 := (exB_ok PySem.F.excBase_RuntimeError PySem.F.store_RuntimeError h25.2.2.2.2.1).1
  have ok : ∀ q ∈ ([(C1, "value"), (C2, "value"), (C3, "value"), (C4, "value"), (C5, "value"), (C6, "value"), (C7, "value"), (C8, "value"), (C9, "value"), (C10, "value"), (C11, "value"), (C12, "value")] : List (Addr × Str)) ++ ([(C13, "value"), (C14, "value"), (C15, "value"), (C16, "value"), (C17, "value"), (C18, "value"), (C19, "lookup"), (C20, "lookup"), (C21, "lookup"), (C22, "overflow"), (C23, "runtime"), (C24, "runtime"), (C25, "runtime")] : List (Addr × Str)), SortOk K [C1, C2, C3, C4, C5, C6, C7, C8, C9, C10, C11, C12, C13, C14, C15, C16, C17, C18, C19, C20, C21, C22, C23, C24, C25] q.1 q.2 := (List.forall_mem_cons.mpr ⟨sort_ok R1 kit cnt (by simp) y1 pick_v so_v, (List.forall_mem_cons.mpr ⟨sort_ok R2 kit cnt (by simp) y2 pick_v so_v, (List.forall_mem_cons.mpr ⟨sort_ok R3 kit cnt (by simp) y3 pick_v so_v, (List.forall_mem_cons.mpr ⟨sort_ok R4 kit cnt (by simp) y4 pick_v so_v, (List.forall_mem_cons.mpr ⟨sort_ok R5 kit cnt (by simp) y5 pick_v so_v, (List.forall_mem_cons.mpr ⟨sort_ok R6 kit cnt (by simp) y6 pick_v so_v, (List.forall_mem_cons.mpr ⟨sort_ok R7 kit cnt (by simp) y7 pick_v so_v, (List.forall_mem_cons.mpr ⟨sort_ok R8 kit cnt (by simp) y8 pick_v so_v, (List.forall_mem_cons.mpr ⟨sort_ok R9 kit cnt (by simp) y9 pick_v so_v, (List.forall_mem_cons.mpr ⟨sort_ok R10 kit cnt (by simp) y10 pick_v so_v, (List.forall_mem_cons.mpr ⟨sort_ok R11 kit cnt (by simp) y11 pick_v so_v, (List.forall_mem_cons.mpr ⟨sort_ok R12 kit cnt (by simp) y12 pick_v so_v, (List.forall_mem_cons.mpr ⟨sort_ok R13 kit cnt (by simp) y13 pick_v so_v, (List.forall_mem_cons.mpr ⟨sort_ok R14 kit cnt (by simp) y14 pick_v so_v, (List.forall_mem_cons.mpr ⟨sort_ok R15 kit cnt (by simp) y15 pick_v so_v, (List.forall_mem_cons.mpr ⟨sort_ok R16 kit cnt (by simp) y16 pick_v so_v, (List.forall_mem_cons.mpr ⟨sort_ok R17 kit cnt (by simp) y17 pick_v so_v, (List.forall_mem_cons.mpr ⟨sort_ok R18 kit cnt (by simp) y18 pick_v so_v, (List.forall_mem_cons.mpr ⟨sort_ok R19 kit cnt (by simp) y19 pick_l so_l, (List.forall_mem_cons.mpr ⟨sort_ok R20 kit cnt (by simp) y20 pick_l so_l, (List.forall_mem_cons.mpr ⟨sort_ok R21 kit cnt (by simp) y21 pick_l so_l, (List.forall_mem_cons.mpr ⟨sort_ok R22 kit cnt (by simp) y22 pick_o so_o, (List.forall_mem_cons.mpr ⟨sort_ok R23 kit cnt (by simp) y23 pick_r so_r, (List.forall_mem_cons.mpr ⟨sort_ok R24 kit cnt (by simp) y24 pick_r so_r, (List.forall_mem_cons.mpr ⟨sort_ok R25 kit cnt (by simp) y25 pick_r so_r, (List.forall_mem_nil _)⟩)⟩)⟩)⟩)⟩)⟩)⟩)⟩)⟩)⟩)⟩)⟩)⟩)⟩)⟩)⟩)⟩)⟩)⟩)⟩)⟩)⟩)⟩)⟩)⟩)
  exact ⟨_, fun s u => .of_eq rfl, run_law FLaw BL ok mPen kPen bPen mAny kAny bAny mSome kSome bSome mOther kOther bOther mSorts kSorts bSorts mCls kCls bCls GP GA GS GO GT GC⟩
end
end LW
namespace LW
open PySem PySem.W PyProof.Rows L2 G
theorem walkX {l : PySem.W.OpenLaw} {n : Nat} {q : Program} {loose : List Str} {XP : (Str → Option Value) → Heap → Prop} {YP : World → Heap → Prop} {d : DefRec} {K : Params → PySem.W.Frag} {sp : PySem.W.Frag → Sp} {x : Str}
    (hn : l.most = some n) (hn2 : n ≤ sizeLine) (hdf : d.params.defaults = []) (hY : ∀ (w : World) (h : Heap), YP w h → (K w.params).In h)
    (F : ∀ (w : World) (mg : Str → Option Value) (fa : Addr) (h : Heap), (K w.params).In h → h.Ns mainGlobals mg → mg d.name = some (.ref fa) → XP mg h →
      ∃ fd : FuncData, (∀ (s : Shared) (u : Value), BindsTo s fd ⟨[u], []⟩ [(x, u)]) ∧ RunA l.prog w (K w.params) mg callerA fa fd [x] (sp (K w.params)))
    (hsp : ∀ (K : PySem.W.Frag) (H : Hp) (a : Addr) (ns : List Int), ns.length ≤ n → Only H → SqL K H a (ns.map V.int) → sp K [.ref a] H (fun v _ => v = .bl true) fun _ _ _ => False) :
    PySem.W.WalkO q loose XP YP l.row.toRowW d [] (fun f vs => PySem.call f vs) := by
  refine Att.attach_call hn hdf fun w s0 s1 mg mb fa o pm cd doc a vs ns Gr Y ho hd hcd hmg hobj hints hlen hg => ?_
  obtain ⟨fd, hb, R⟩ := F w mg fa _ (hY w _ Y) Gr.T.g hmg Gr.X
  exact law_callA (hY w _ Y) Gr.T.g Gr.T.b Gr.T.builtins Gr.T.nolimit hg hobj hints (Nat.le_trans hlen hn2) R hb fun H hO hS => hsp _ H a ns hlen hO hS
theorem lim_of {q : Program} {mg : Str → Option Value} {h : Heap} (X : PySem.W.XL q [(Str.ofString "LIMIT", WData.int 1000000000000000000000000000000)] mg h) : ∃ t, mg "LIMIT" = some (.int (10 ^ 30) t) := by
  obtain ⟨v, hv, r⟩ := X.2.val _ List.mem_cons_self
  cases r
  exact ⟨_, by rw [hv]; rfl⟩
end LW
open PySem PySem.W PyProof.Rows
set_option maxHeartbeats 0 in
theorem PySem.Challenge.cw_namechains_k10_errors_and_limits_holds : PySem.Challenge.rw_namechains_k10_errors_and_limits.Holds := by
  w_on; o_law; k_head; (case hw => w_witness2)
  k_fill
  refine LW.walkX (l := PySem.Challenge.rw_namechains_k10_errors_and_limits) (n := 63) (x := "_law_script") (sp := LW.spLaw) rfl (by decide) rfl (fun w h Y => PySem.W.kIn_of Y) ?F (fun K H a ns hl _ hS => ⟨a, ns, rfl, hS, hl, fun _ => rfl⟩)
  case F =>
    intro w mg fa h KX G hmg X
    refine' LW.all_mk KX G hmg (LW.lim_of X) ?h1 ?h2 ?h3 ?h4 ?h5 ?h6 ?h7 ?h8 ?h9 ?h10 ?h11 ?h12 ?h13 ?h14 ?h15 ?h16 ?h17 ?h18 ?h19 ?h20 ?h21 ?h22 ?h23 ?h24 ?h25 ?hPen ?hDraw ?hPick ?hAny ?hSome ?hOther ?hCls ?hSorts ?hLaw ?z_int ?z_len ?z_abs ?z_list ?z_isinstance ?z_zip ?z_ValueError ?z_LookupError ?z_OverflowError ?z_RuntimeError ?z_IndexError ?z_KeyError ?z_NotImplementedError ?z_range ?z_min ?z_repr ?m_0 ?m_1 ?m_2 ?m_3 ?m_4 ?m_5 ?xd1 ?xd2 ?kit ?cnt ?y1 ?y2 ?y3 ?y4 ?y5 ?y6 ?y7 ?y8 ?y9 ?y10 ?y11 ?y12 ?y13 ?y14 ?y15 ?y16 ?y17 ?y18 ?y19 ?y20 ?y21 ?y22 ?y23 ?y24 ?y25
    (case h1 => refine' ⟨?_, ?_, ?_, ?_, ?_, ?_⟩; k_is; k_is; k_is; k_is; kernel_rfl; kernel_rfl)
    (case h2 => refine' ⟨?_, ?_, ?_, ?_, ?_, ?_⟩; k_is; k_is; k_is; k_is; kernel_rfl; kernel_rfl)
    (case h3 => refine' ⟨?_, ?_, ?_, ?_, ?_, ?_⟩; k_is; k_is; k_is; k_is; kernel_rfl; kernel_rfl)
    (case h4 => refine' ⟨?_, ?_, ?_, ?_, ?_, ?_⟩; k_is; k_is; k_is; k_is; kernel_rfl; kernel_rfl)
    (case h5 => refine' ⟨?_, ?_, ?_, ?_, ?_, ?_⟩; k_is; k_is; k_is; k_is; kernel_rfl; kernel_rfl)
    (case h6 => refine' ⟨?_, ?_, ?_, ?_, ?_, ?_⟩; k_is; k_is; k_is; k_is; kernel_rfl; kernel_rfl)
    (case h7 => refine' ⟨?_, ?_, ?_, ?_, ?_, ?_⟩; k_is; k_is; k_is; k_is; kernel_rfl; kernel_rfl)
    (case h8 => refine' ⟨?_, ?_, ?_, ?_, ?_, ?_⟩; k_is; k_is; k_is; k_is; kernel_rfl; kernel_rfl)
    (case h9 => refine' ⟨?_, ?_, ?_, ?_, ?_, ?_⟩; k_is; k_is; k_is; k_is; kernel_rfl; kernel_rfl)
    (case h10 => refine' ⟨?_, ?_, ?_, ?_, ?_, ?_⟩; k_is; k_is; k_is; k_is; kernel_rfl; kernel_rfl)
    (case h11 => refine' ⟨?_, ?_, ?_, ?_, ?_, ?_⟩; k_is; k_is; k_is; k_is; kernel_rfl; kernel_rfl)
    (case h12 => refine' ⟨?_, ?_, ?_, ?_, ?_, ?_⟩; k_is; k_is; k_is; k_is; kernel_rfl; kernel_rfl)
    (case h13 => refine' ⟨?_, ?_, ?_, ?_, ?_, ?_⟩; k_is; k_is; k_is; k_is; kernel_rfl; kernel_rfl)
    (case h14 => refine' ⟨?_, ?_, ?_, ?_, ?_, ?_⟩; k_is; k_is; k_is; k_is; kernel_rfl; kernel_rfl)
    (case h15 => refine' ⟨?_, ?_, ?_, ?_, ?_, ?_⟩; k_is; k_is; k_is; k_is; kernel_rfl; kernel_rfl)
    (case h16 => refine' ⟨?_, ?_, ?_, ?_, ?_, ?_⟩; k_is; k_is; k_is; k_is; kernel_rfl; kernel_rfl)
    (case h17 => refine' ⟨?_, ?_, ?_, ?_, ?_, ?_⟩; k_is; k_is; k_is; k_is; kernel_rfl; kernel_rfl)
    (case h18 => refine' ⟨?_, ?_, ?_, ?_, ?_, ?_, ?_, ?_, ?_, ?_, ?_⟩; k_is; k_is; k_is; k_is; k_is; k_is; rfl; kernel_rfl; kernel_rfl; k_is; k_is)
    (case h19 => refine' ⟨?_, ?_, ?_, ?_, ?_, ?_⟩; k_is; k_is; k_is; k_is; kernel_rfl; kernel_rfl)
    (case h20 => refine' ⟨?_, ?_, ?_, ?_, ?_, ?_⟩; k_is; k_is; k_is; k_is; kernel_rfl; kernel_rfl)
    (case h21 => refine' ⟨?_, ?_, ?_, ?_, ?_, ?_⟩; k_is; k_is; k_is; k_is; kernel_rfl; kernel_rfl)
    (case h22 => refine' ⟨?_, ?_, ?_, ?_, ?_, ?_⟩; k_is; k_is; k_is; k_is; kernel_rfl; kernel_rfl)
    (case h23 => refine' ⟨?_, ?_, ?_, ?_, ?_, ?_⟩; k_is; k_is; k_is; k_is; kernel_rfl; kernel_rfl)
    (case h24 => refine' ⟨?_, ?_, ?_, ?_, ?_, ?_⟩; k_is; k_is; k_is; k_is; kernel_rfl; kernel_rfl)
    (case h25 => refine' ⟨?_, ?_, ?_, ?_, ?_, ?_⟩; k_is; k_is; k_is; k_is; kernel_rfl; kernel_rfl)
    (case hPen => refine' ⟨?_, ?_, ?_, ?_⟩; k_is; k_is; k_is; k_is)
    (case hDraw => refine' ⟨?_, ?_, ?_, ?_⟩; k_is; k_is; k_is; k_is)
    (case hPick => refine' ⟨?_, ?_, ?_, ?_⟩; k_is; k_is; k_is; k_is)
    (case hAny => refine' ⟨?_, ?_, ?_, ?_⟩; k_is; k_is; k_is; k_is)
    (case hSome => refine' ⟨?_, ?_, ?_, ?_⟩; k_is; k_is; k_is; k_is)
    (case hOther => refine' ⟨?_, ?_, ?_, ?_⟩; k_is; k_is; k_is; k_is)
    (case hCls => refine' ⟨?_, ?_, ?_, ?_⟩; k_is; k_is; k_is; k_is)
    (case hSorts => refine' ⟨?_, ?_, ?_, ?_⟩; k_is; k_is; k_is; k_is)
    (case hLaw => refine' ⟨?_, ?_, ?_, ?_⟩; k_is; k_is; k_is; k_is)
    (case z_int => k_is)
    (case z_len => k_is)
    (case z_abs => k_is)
    (case z_list => k_is)
    (case z_isinstance => k_is)
    (case z_zip => k_is)
    (case z_ValueError => k_is)
    (case z_LookupError => k_is)
    (case z_OverflowError => k_is)
    (case z_RuntimeError => k_is)
    (case z_IndexError => k_is)
    (case z_KeyError => k_is)
    (case z_NotImplementedError => k_is)
    (case z_range => k_is)
    (case z_min => k_is)
    (case z_repr => k_is)
    (case m_0 => k_is)
    (case m_1 => k_is)
    (case m_2 => k_is)
    (case m_3 => k_is)
    (case m_4 => k_is)
    (case m_5 => k_is)
    (case xd1 => k_is)
    (case xd2 => k_is)
    (case kit => kernel_rfl); (case cnt => kernel_rfl)
    (case y1 => kernel_rfl)
    (case y2 => kernel_rfl)
    (case y3 => kernel_rfl)
    (case y4 => kernel_rfl)
    (case y5 => kernel_rfl)
    (case y6 => kernel_rfl)
    (case y7 => kernel_rfl)
    (case y8 => kernel_rfl)
    (case y9 => kernel_rfl)
    (case y10 => kernel_rfl)
    (case y11 => kernel_rfl)
    (case y12 => kernel_rfl)
    (case y13 => kernel_rfl)
    (case y14 => kernel_rfl)
    (case y15 => kernel_rfl)
    (case y16 => kernel_rfl)
    (case y17 => kernel_rfl)
    (case y18 => kernel_rfl)
    (case y19 => kernel_rfl)
    (case y20 => kernel_rfl)
    (case y21 => kernel_rfl)
    (case y22 => kernel_rfl)
    (case y23 => kernel_rfl)
    (case y24 => kernel_rfl)
    (case y25 => kernel_rfl)
