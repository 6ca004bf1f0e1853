import PyProof.Rows.All
import Wide.All
import OpenK.AllK
import Wide.FinOn
import HandS.ForMost
import HandS.ExcInit
import HandS.IsInst
import HandS.ExcIs
import PyProof.ReprReads
import KE.KExcInit
import HandS.ExcField
import KE.KDictWalk
import PyProof.CallFns
import PySem.Challenge.RW_namechains_k02_leaves_made_and_refused
import HandS.Style
import HandS.Walk
import HandS.List
import HandS.WordsExc
import HandS.FStr
import PyProof.Rows.StrJoinMade
import KE.KSuper
import HandS.ClsMeth
import HandS.Defaults
import HandS.OwnEq
import PyProof.InstNe
import HandS.Property
import HandS.TupSets
import HandS.SetFor
import KE.KDictKeyed
import HandS.TryMany
import KE.KExcIs
import HandS.Lambda
import PyProof.Rows.StrDigitsNeg
import PyProof.StrLawsRepr
import PyProof.FitsInt
import HandS.Deep
import HandS.TupAny
import HandS.TupMul
import HandS.MakeKwOnly
import PyProof.P3Eq
import HandS.EndOwn
set_option Elab.async false
set_option linter.all false
set_option maxRecDepth 100000
set_option maxHeartbeats 8000000
/-! A def whose run is told at one surrounding alone (so that what is being shown by repr is known), and a law's call by it. -/
namespace G
open PySem PySem.Spec PyProof.Rows L2
section
variable {P : Program} {w : World} {K : PySem.W.Frag} {mg : Str → Option Value}
/-- the def at f keeps sp, called within A -/
def RunA (P : Program) (w : World) (K : PySem.W.Frag) (mg : Str → Option Value) (A : Around) (f : Addr) (fd : FuncData) (ps : List Str) (sp : Sp) : Prop :=
  ∀ (base : Heap) (outer : List Env) (s : Shared) (H : Hp) (args : Args) (us : List Value) (vs : List V) (Q : VK) (E : XK), K.In base → base.Ns mainGlobals mg →
    Env0 P w K mg base A outer s H → BindsTo s fd args (ps.zip us) → Vals vs us → sp vs H Q E → codeAny (model P w) A (.call (.ref f) args) (CR CX0 outer P w H s Q E) s
theorem runA_of {A : Around} {nm ql : Str} {st : Stmt} {f : Addr} {fd : FuncData} {N ps : List Str} {k : Nat} {sp : Sp} (T : Fun K nm ql st f fd) (S : FnScope N ps (defScope st))
    (hl : ∀ vs H Q E, sp vs H Q E → vs.length = ps.length) (room : Room (k + 1) A)
    (body : ∀ (base : Heap) (cdv : Value) (outer : List Env) (s : Shared) (H : Hp) (vs : List V) (Q : VK) (E : XK), K.In base → base.Ns mainGlobals mg → Room k (A.deeper (envOfC ql (defScope st) s.heap.objs.size f cdv)) → sp vs H Q E →
      ∃ t, PSs (cxOf CX0 P w K mg base N ql (defScope st) f cdv A outer s H E).nox (defBody st) t ∧ t { nx := fun _ G => Q .non G, rt := Q } (start N vs) H) :
    RunA P w K mg A f fd ps sp := by
  intro base outer s H args us vs Q E kb nb env bt rv hp
  obtain ⟨oc, od, kV, doc, pm, an, cdv, ct, osl, rfl, look, code⟩ := T.ex
  have len := hl _ _ _ _ hp
  have inHeap : K.In s.heap := env.mod.kin.keeps fun a o z => (env.bs a o z).1
  have free : s.heap.NoLimit := env.mod.nolimit.keeps fun a o z => (env.bs a o z).1
  refine codeAny_call_function room.depth (inHeap _ _ look) rfl S.co S.gen rfl (PySem.W.codeRec_of inHeap code) (bt _ _ _ _ ?_)
  have kinds : ∀ y ∈ ps.zip us, (defScope st).names.lookup y.1 = some .local ∨ ((defScope st).names.lookup y.1 = some .cell ∧ ((cellsFrom (s.heap.objs.size + 1) (defScope st).names []).lookup y.1).isSome = true) := by
    rintro ⟨n, v⟩ hy
    cases S.par n (List.of_mem_zip hy).1 with
    | inl q => exact Or.inl q
    | inr q => exact Or.inr ⟨q, PySem.W.cellsFrom_some _ _ _ (Or.inl q)⟩
  refine wpAny_newFunctionEnv_cells S.kind kinds fun e2 he s1 into => ?_
  subst he
  obtain ⟨t, pt, q⟩ := body base cdv outer s H vs Q E kb nb (room.deeper _) hp
  refine ⟨free.keeps into.toInCall.keep, codeAny_func ?_⟩
  have I0 : Inv (cxOf CX0 P w K mg base N ql (defScope st) f cdv A outer s H E) [] (start N vs) H s1 := inv_start S room.hd env len rv into
  refine wpAny_mono (pt.nox.run [] s1 _ H _ I0 q) (fun flow s2 z => ?_) (fun _ _ z => z)
  match flow, z with
  | .ret u, ⟨v, σ2, H2, J, r2, z⟩ => exact ⟨v, H2, J.os, J.bare, J.base, J.hok, r2, z⟩
  | .next, ⟨σ2, H2, J, z⟩ => exact ⟨V.non, H2, J.os, J.bare, J.base, J.hok, rfl, z⟩
  | .brk, ⟨_, _, _, z⟩ => exact z.elim
  | .cont, ⟨_, _, _, z⟩ => exact z.elim
end
section
variable {P : Program} {w : World} {K : PySem.W.Frag} {mg mb : Str → Option Value} {fa a : Addr} {fd : FuncData} {x : Str} {sp : Sp} {s1 : Shared} {vs : List Value} {ns : List Int}
/-- what a law's call must give -/
abbrev LawEnd (s1 : Shared) : Result → Shared → Prop := fun r s' => r = .ok (.ret (.bool true)) ∧ OldK s1.heap s'.heap ∧ s'.os = s1.os ∧ AllBare s'.gens
/-- nothing but the script is tracked: H tells of it, or nothing -/
theorem law_from (KX : K.In s1.heap) (gl : s1.heap.Ns mainGlobals mg) (bl : s1.heap.Ns builtinsNs mb) (bb : ∀ x : Str, x ≠ "__name__" → mb x = bootBuiltins x) (lim : s1.heap.NoLimit) (g0 : s1.gens = #[])
    (isL : s1.heap.get? a = some { cls := .type "list", data := .seq vs.toArray }) (R : RunA P w K mg callerA fa fd [x] sp) (bind : ∀ (s : Shared) (u : Value), BindsTo s fd ⟨[u], []⟩ [(x, u)])
    {H : Hp} (only : Only H) (ok : HOk P w H s1.heap) (atA : ∀ b, H b ≠ none → b = a) (notK : H a ≠ none → K.lookup a = none) (h : sp [.ref a] H (fun v _ => v = .bl true) fun _ _ _ => False) :
    codeAny (model P w) callerA (.call (.ref fa) ⟨[.ref a], []⟩) (LawEnd s1) s1 := by
  have untr : ∀ {b : Addr}, b ≠ a → H b = none := fun {b} ne => by
    cases q : H b with
    | none => rfl
    | some u => exact absurd (atA b (by rw [q]; exact fun z => nomatch z)) ne
  have dictsOut : ∀ {b : Addr} {o : Obj} {es : Array DictEntry} {ep : Nat}, s1.heap.get? b = some o → o.data = .dict es ep → H b = none := fun {b o es ep} e d => untr fun z => by
    rw [z, isL] at e
    cases e
    exact nomatch d
  have ns_hid : ∀ {b : Addr} {m : Str → Option Value}, s1.heap.Ns b m → (hidT s1.heap H).Ns b m := by
    rintro b m ⟨o, es, ep, e, d, r⟩
    exact ⟨o, es, ep, hidT_get e (dictsOut e d), d, r⟩
  have kin : K.In (hidT s1.heap H) := fun b o e => hidT_get (KX b o e) (by
    by_cases z : b = a
    · cases q : H b with
      | none => rfl
      | some u =>
        rw [z, notK (by rw [← z, q]; exact fun z => nomatch z)] at e
        cases e
    · exact untr z)
  obtain ⟨mc, c1, c2⟩ := lim
  have env : Env0 P w K mg (hidT s1.heap H) callerA [] s1 H :=
    { frames := rfl, mod := ⟨kin, ns_hid gl, ⟨mb, ns_hid bl, bb⟩, ⟨mc, ns_hid c1, c2⟩⟩, bs := fun b o e => of_hidT e, bsz := Nat.le_of_eq (hidT_size _ _), funs := trivial, frf := fun b hb => (List.not_mem_nil hb).elim, hok := ok, bare := .of_eq g0 }
  refine codeAny_mono (R _ [] s1 H ⟨[.ref a], []⟩ [.ref a] [.ref a] _ _ kin (ns_hid gl) env (bind s1 (.ref a)) (.cons rfl .nil) h) fun r s2 z => ?_
  match r, z with
  | .error _, z => exact z.elim
  | .ok (.ret u), ⟨v, H2, os, bare, un, ok2, rv, q⟩ =>
    obtain rfl : v = V.bl true := q
    obtain rfl : u = Value.bool true := rv
    refine ⟨rfl, OldK.of_keep fun b o e => ?_, os, bare⟩
    cases only b with
    | inl n => exact un.keep b o e n (fun z => (List.not_mem_nil z).elim) (fun z => (List.not_mem_nil z).elim)
    | inr n =>
      obtain ⟨ob, xs, n⟩ := n
      have here := (ok b _ n).1
      have there := (ok2 b _ (un.frzs b ob _ n)).1
      rw [here] at e
      cases e
      exact there
  | .ok .next, z => exact z.elim
  | .ok .brk, z => exact z.elim
  | .ok .cont, z => exact z.elim
theorem law_callA (KX : K.In s1.heap) (gl : s1.heap.Ns mainGlobals mg) (bl : s1.heap.Ns builtinsNs mb) (bb : ∀ x : Str, x ≠ "__name__" → mb x = bootBuiltins x) (lim : s1.heap.NoLimit) (g0 : s1.gens = #[])
    (isL : s1.heap.get? a = some { cls := .type "list", data := .seq vs.toArray }) (hin : IntsAre vs ns) (few : ns.length ≤ sizeLine) (R : RunA P w K mg callerA fa fd [x] sp) (bind : ∀ (s : Shared) (u : Value), BindsTo s fd ⟨[u], []⟩ [(x, u)])
    (h : ∀ H : Hp, Only H → SqL K H a (ns.map V.int) → sp [.ref a] H (fun v _ => v = .bl true) fun _ _ _ => False) :
    codeAny (model P w) callerA (.call (.ref fa) ⟨[.ref a], []⟩) (LawEnd s1) s1 := by
  have rv := vals_ints hin
  cases hk : K.lookup a with
  | some o =>
    have e := KX a o hk
    rw [isL] at e
    cases e
    refine law_from KX gl bl bb lim g0 isL R bind (H := fun _ => none) (fun _ => Or.inl rfl) (fun b u z => nomatch z) (fun b z => absurd rfl z) (fun z => absurd rfl z) (h _ (fun _ => Or.inl rfl) (Or.inr ⟨_, vs.toArray, _, hk, rfl, rfl, rfl, ?_, ?_⟩))
    · rw [List.size_toArray, hin.length]
      exact few
    · simpa using rv
  | none =>
    have only : Only (fun b => if b = a then some (HO.frz { cls := .type "list", data := .seq vs.toArray } (.lst (ns.map V.int))) else none) := fun b => by
      by_cases z : b = a
      · exact Or.inr ⟨_, _, if_pos z⟩
      · exact Or.inl (if_neg z)
    refine law_from KX gl bl bb lim g0 isL R bind only (fun b u z => ?_) (fun b z => ?_) (fun _ => hk) (h _ only (Or.inl (Or.inr ⟨_, if_pos rfl⟩)))
    · by_cases q : b = a
      · rw [if_pos q] at z
        cases z
        subst q
        refine ⟨isL, ?_, vs, _, rv, isL⟩
        rw [List.length_map]
        exact few
      · rw [if_neg q] at z
        cases z
    · by_cases q : b = a
      · exact q
      · exact absurd (if_neg q) z
end
/-- THE END: a law by its run within the caller -/
theorem walkA {l : PySem.W.OpenLaw} {n : Nat} {q : Program} {loose : List Str} {XP : (Str → Option Value) → Heap → Prop} {YP : World → Heap → Prop} {d : DefRec} {K : Params → PySem.W.Frag} {sp : PySem.W.Frag → Sp} {x : Str}
    (hn : l.most = some n) (hn2 : n ≤ sizeLine) (hdf : d.params.defaults = []) (hY : ∀ (w : World) (h : Heap), YP w h → (K w.params).In h)
    (F : ∀ (w : World) (mg : Str → Option Value) (fa : Addr) (h : Heap), (K w.params).In h → h.Ns mainGlobals mg → mg d.name = some (.ref fa) →
      ∃ fd : FuncData, (∀ (s : Shared) (u : Value), BindsTo s fd ⟨[u], []⟩ [(x, u)]) ∧ RunA l.prog w (K w.params) mg callerA fa fd [x] (sp (K w.params)))
    (hsp : ∀ (K : PySem.W.Frag) (H : Hp) (a : Addr) (ns : List Int), ns.length ≤ n → Only H → SqL K H a (ns.map V.int) → sp K [.ref a] H (fun v _ => v = .bl true) fun _ _ _ => False) :
    PySem.W.WalkO q loose XP YP l.row.toRowW d [] (fun f vs => PySem.call f vs) := by
  refine Att.attach_call hn hdf fun w s0 s1 mg mb fa o pm cd doc a vs ns Gr Y ho hd hcd hmg hobj hints hlen hg => ?_
  obtain ⟨fd, hb, R⟩ := F w mg fa _ (hY w _ Y) Gr.T.g hmg
  exact law_callA (hY w _ Y) Gr.T.g Gr.T.b Gr.T.builtins Gr.T.nolimit hg hobj hints (Nat.le_trans hlen hn2) R hb fun H hO hS => hsp _ H a ns hlen hO hS
end G

/-! Own exceptions as plain values: made by a call, their fields read, asked by isinstance; any built-in base. -/
namespace G
open PySem PySem.Spec PyProof.Rows L2
open PySem.W (Frag)
/-- the base T (its mro) of an own exception class at C; its __init__ at fI -/
structure ExK (K : Frag) (C fI : Addr) (T : List Value) : Prop where
  base : ∃ B newId initId, ExcBaseFacts B newId initId T ∧ StoreFacts B T "object.__setattr__" "object" ∧ PySem.W.excInitIn K C T newId = true
  over : PySem.W.excOver K C T = true
  sa : PySem.W.findIn K (.ref C) "__setattr__" = some (some (.builtin "object.__setattr__"))
  ga : PySem.W.findIn K (.ref C) "__getattribute__" = some (some (.builtin "BaseException.__getattribute__"))
  gg : PySem.W.findIn K (.ref C) "__getattr__" = some none
  exC : PySem.W.subIn K (.ref C) (.type "BaseException") = some true
  hd : PySem.W.hasDictIn K C = true
  kp : PySem.W.keepIn K (.ref C) = true
  iC : PySem.W.findIn K (.ref C) "__init__" = some (some (.ref fI))
  iF : PySem.W.isFn K (.ref fI) = true
  cl : PySem.W.findIn K (.ref C) "__class__" = some (some (.builtin "object.__class__"))
  ob : PySem.W.mroIn K C (.type "object") = some true
/-- the library's own descriptors, the same for all classes -/
structure ExD (K : Frag) : Prop where
  hn : PySem.W.specialIn K (.builtin "object.__class__") "__get__" = some (some (.builtin "getset_descriptor.__get__"))
  ht : PySem.W.takesIn K (.builtin "object.__class__") = some true
section
variable {X : Cx} {pins : List (Addr × Obj)} {σ : L2.St} {H : Hp} {s : Shared} {a C fI dx : Addr} {T : List Value} {f : Str} {y : V} {u : Value} {fs : List (Str × V)} {E : Value → Shared → Prop} {A : Around}
/-- what is written at a and (new) at dx -/
theorem inv_two {o : HO} {t' : Nat} {g : HO} {h' : Heap} (I : Inv X pins σ H s) (e : H a = some o) (o1 : ∀ x, o ≠ .own x) (o2 : ∀ xs, o ≠ .tup xs) (o3 : ∀ b v, o ≠ .frz b v) (o4 : ∀ ps, o ≠ .tbl ps) (new : s.heap.objs.size ≤ dx)
    (k : ∀ b u, b ≠ a → s.heap.get? b = some u → h'.get? b = some u) (there : ∃ u, h'.get? a = some u) {oa : HO} (okA : ObjOk X.prog X.w (upd (upd H dx g) a oa) h' a oa) (okD : ObjOk X.prog X.w (upd (upd H dx g) a oa) h' dx g) :
    Inv X pins σ (upd (upd H dx g) a oa) { s with heap := h', toks := t' } := by
  have free : H dx = none := I.hok.fresh new
  have old : ∀ {b : Addr} {w : Obj}, s.heap.get? b = some w → b ≠ dx := fun z => Nat.ne_of_lt (Nat.lt_of_lt_of_le (Heap.lt_size z) new)
  have notA : ∀ {b : Addr}, H b = none → b ≠ a := fun {b} n z => by
    rw [z, e] at n
    exact nomatch n
  have keepO : ∀ {b : Addr} {w : HO}, H b = some w → o ≠ w → upd (upd H dx g) a oa b = some w := fun {b w} z n => by
    rw [upd_ne (at_ne e z n), upd_ne (ne_of_none z free)]
    exact z
  refine I.un (t' := t') ⟨fun b w z n _ _ => k b w (notA n) z, fun b w z n _ _ => ⟨w.slots, k b w (notA n) z⟩, fun b w z n _ => ?_, fun b w z _ => ?_, fun b xs z => keepO z (o2 xs), fun b w v z => keepO z (o3 w v), fun b ps z => ⟨#[], ?_⟩⟩ fun b w z => ?_
  · rw [upd_ne (notA n), upd_ne (old z)]
    exact n
  · by_cases q : b = a
    · rw [q]
      exact there
    · exact ⟨w, k b w q z⟩
  · rw [keepO z (o4 ps), Array.append_empty]
  · by_cases q : b = a
    · subst q
      rw [upd_same] at z
      cases z
      exact okA
    · rw [upd_ne q] at z
      by_cases r : b = dx
      · subst r
        rw [upd_same] at z
        cases z
        exact okD
      · rw [upd_ne r] at z
        exact (I.hok b w z).stay (fun c v hc l => k c v (by
            cases hc with
            | inl hc => rw [hc]; exact q
            | inr hc => exact at_ne e hc (o1 _)) l) (fun c hc => keepO hc (o1 _)) fun c xs hc => keepO hc (o2 xs)
/-- the first field of an exception -/
theorem set_first (R : ExK X.K C fI T) (I : Inv X pins σ H s) (e : H a = some (exo a C none)) (tk : PySem.W.takerIn X.K C f = some none) (ry : RelV y u) {Q : Unit → Shared → Prop}
    (h : ∀ d s', H d = none → d ≠ a → Inv X pins σ (upd (upd H d (exd d [(f, y)])) a (exo a C (some d))) s' → Q () s') : wpAny (model X.prog X.w) A (setAttr (.ref a) f u) Q E s := by
  obtain ⟨t1, ho⟩ := exo_at I.hok e
  obtain ⟨B, newId, initId, F, SF, _⟩ := R.base
  obtain ⟨cd, hc, hdc⟩ := PySem.W.any_some R.hd
  have I0 := I
  obtain ⟨hp, g, d, t, os⟩ := s
  have lt : a < hp.objs.size := Heap.lt_size ho
  refine PySem.W.set_plain I.kIn (od := none) ⟨ho, rfl, rfl, trivial⟩ R.sa (PySem.W.osa_openX (s := ⟨hp, g, d, t + 1, os⟩) (od := none) SF I.kIn ⟨ho, rfl, rfl, trivial⟩ R.over tk fun b => ?_)
  refine wpAny_bind (wpAny_pure (wpAny_bind (PySem.W.instanceDict_exc (c2 := .none) ho (PySem.W.looks_clsIn I.kIn hc) hdc ?_)))
  have he : hp.objs.size ≠ a := Nat.ne_of_gt lt
  refine HandSPX.store_in_new (hp := (hp.push (PySem.W.dictOf [] 0)).update a fun o => { o with dict := some hp.objs.size }) ⟨PySem.W.dictOf [] 0, #[], 0, ?_, rfl, fun e he => absurd he (by simp), fun _ => rfl⟩ fun h' tk' hn' hs => ?_
  · rw [Heap.get?_update_ne _ _ _ _ he]
    exact Heap.get?_push_at rfl rfl
  · have at1 : (hp.push (PySem.W.dictOf [] 0)).get? a = some _ := Heap.get?_push_of_some _ ho
    have hx := (hs.2 a he.symm).trans (Heap.get?_update_self _ at1 rfl)
    refine h hp.objs.size _ (I0.hok.fresh (Nat.le_refl _)) he (inv_two (t' := tk') I0 e (fun _ => exo_own) (fun _ => exo_tup) (fun _ _ => exo_frz) (fun _ => exo_tbl) (Nat.le_refl _) (fun b w hb q => ?_) ⟨_, hx⟩ (exo_ok hx) (exd_ok hn' (relO_put (fs := []) ry fun _ => True.intro)))
    exact (hs.2 b (Nat.ne_of_lt (Heap.lt_size q))).trans ((Heap.get?_update_ne _ _ _ _ hb).trans (Heap.get?_push_of_some _ q))
/-- a further field -/
theorem set_more (R : ExK X.K C fI T) (I : Inv X pins σ H s) (e : H a = some (exo a C (some dx))) (ed : H dx = some (exd dx fs)) (few : fs.length ≤ 900) (tk : PySem.W.takerIn X.K C f = some none) (ry : RelV y u) {Q : Unit → Shared → Prop}
    (h : ∀ s', Inv X pins σ (upd H dx (exd dx ((f, y) :: fs))) s' → Q () s') : wpAny (model X.prog X.w) A (setAttr (.ref a) f u) Q E s := by
  obtain ⟨t1, ho⟩ := exo_at I.hok e
  obtain ⟨mA, hns, rel⟩ := exd_at I.hok ed
  obtain ⟨B, newId, initId, F, SF, _⟩ := R.base
  obtain ⟨cd, hc, hdc⟩ := PySem.W.any_some R.hd
  have wi := within_of rel
  obtain ⟨oD, _, _, hoD, _, _⟩ := hns.count wi
  have I0 := I
  obtain ⟨hp, g, d, t, os⟩ := s
  refine PySem.W.set_plain I.kIn (od := some oD) ⟨ho, rfl, rfl, hoD⟩ R.sa (PySem.W.osa_openX (s := ⟨hp, g, d, t + 1, os⟩) (od := some oD) SF I.kIn ⟨ho, rfl, rfl, hoD⟩ R.over tk fun b => ?_)
  refine wpAny_bind (wpAny_pure (wpAny_bind (wpAny_bind (wpAny_loadPart ho (wpAny_bind ((PySem.W.looks_clsIn I.kIn hc).at ?_))))))
  rw [hdc]
  refine wpAny_pure (a := some dx) ?_
  refine OEX.store_in_old hns wi (by rw [List.length_map]; omega) fun h' tk' hn' hs => ?_
  obtain ⟨o2, es, ep, here, r⟩ := id hn'
  exact h _ (I0.write (t' := tk') (x := dx) (e := dx) (o := exd dx ((f, y) :: fs)) (by rw [ed]; exact True.intro) (.inl rfl) (fun b w hb q => (hs.2 b hb).trans q) ⟨_, here⟩ (exd_ok hn' (relO_put ry rel)))
end
/-- self.f = e, on an exception that is being made -/
def tSet (K : Frag) (f : Str) (to te : TE) : TS := fun D σ H => te σ H fun y H1 => to σ H1 fun x H2 => ∃ (a C fI : Addr) (T : List Value), x = .ref a ∧ ExK K C fI T ∧ PySem.W.takerIn K C f = some none ∧
  ((H2 a = some (exo a C none) ∧ ∀ d, H2 d = none → d ≠ a → D.nx σ (upd (upd H2 d (exd d [(f, y)])) a (exo a C (some d)))) ∨
    ∃ (d : Addr) (fs : List (Str × V)), H2 a = some (exo a C (some d)) ∧ H2 d = some (exd d fs) ∧ fs.length ≤ 900 ∧ D.nx σ (upd H2 d (exd d ((f, y) :: fs))))
/-- C(..) of an exception class, whose __init__ keeps sp -/
def tMk (C : Addr) (sp : Sp) (ta : TA) : TE := fun σ H Q => ta σ H fun vs H1 => vs.length ≤ 1000 ∧ ∀ a, H1 a = none → sp (.ref a :: vs) (upd H1 a (exo a C none)) (fun v H2 => v = .non ∧ Q (.ref a) H2) (fun _ _ _ => False)
/-- e.f of an exception -/
def tGet (K : Frag) (f : Str) (te : TE) : TE := fun σ H Q => te σ H fun x H1 => ∃ (a C fI d : Addr) (T : List Value) (fs : List (Str × V)) (v : V) (at_ : Option Value), x = .ref a ∧ ExK K C fI T ∧ H1 a = some (exo a C (some d)) ∧ H1 d = some (exd d fs) ∧
  PySem.W.findIn K (.ref C) f = some at_ ∧ PySem.W.noGet K at_ = true ∧ fs.lookup f = some v ∧ Q v H1
section
variable {X : Cx} {o e : Expr} {es : List Expr} {to te : TE} {ta : TA} {f x : Str} {p p' pos : Pos}
theorem ps_set_ex (ho : PE X o to) (he : PE X e te) (hs : swapsWith e (some (.Attribute o f p')) pos.line X.env = pure false := by rfl) : PS X (.Assign [.Attribute o f p'] e pos) (tSet X.K f to te) := by
  constructor
  intro pins s σ H D I h
  refine plainObj_wpAny_Assign_Attribute (wpAny_mono (he.run pins s σ H _ I h) (fun v s1 z => ?_) fun _ _ z => z) hs
  obtain ⟨y, H1, I1, r1, q1⟩ := z
  refine wpAny_mono (ho.run pins s1 σ H1 _ I1 q1) (fun u s2 z => ?_) fun _ _ z => z
  obtain ⟨x, H2, I2, r2, a, C, fI, T, rfl, R, tk, q⟩ := z
  cases r2
  cases q with
  | inl q => exact set_first R I2 q.1 tk r1 fun d s' n ne J => ⟨σ, _, J, q.2 d n ne⟩
  | inr q =>
    obtain ⟨d, fs, e1, e2, few, q⟩ := q
    exact set_more R I2 e1 e2 few tk r1 fun s' J => ⟨σ, _, J, q⟩
theorem pe_get_ex (he : PE X e te) (hb : attributeBase e f X.env (eval e X.env) = eval e X.env := by rfl) : PE X (.Attribute e f pos) (tGet X.K f te) := by
  constructor
  intro pins s σ H Q I h
  refine attr_of hb (wpAny_mono (he.run pins s σ H _ I h) (fun u s1 z => ?_) fun _ _ z => z)
  obtain ⟨x, H1, I1, rx, a, C, fI, d, T, fs, v, at_, rfl, R, e1, e2, fa, ng, l, q⟩ := z
  cases rx
  obtain ⟨t1, ho⟩ := exo_at I1.hok e1
  obtain ⟨mA, hns, rel⟩ := exd_at I1.hok e2
  obtain ⟨od, hod, hl⟩ := lookIn_ns hns
  obtain ⟨u, hu, ru⟩ := RelO.some_of (v := v) (o := mA f) (by rw [← l]; exact rel f)
  have J : PySem.W.InstAt s1.heap a _ C (some od) := ⟨ho, rfl, rfl, hod⟩
  exact HandSPX.exc_get I1.kIn J R.ga R.gg R.exC (PySem.W.findObj_own R.hd fa ng (by rw [hl, hu])) (handed_of ru) ⟨v, H1, I1.tok _, ru, q⟩
theorem pe_mk_ex {k : Nat} {C fI : Addr} {T : List Value} {fd : FuncData} {ps : List Str} {sp : Sp} (R : ExK X.K C fI T) (F1 : FnOk X.prog X.w X.K X.mg X.base CX0 k fI fd ps sp) (hr : Room (k + 1) X.A) (hb : Binds X.K fd ps []) (hg : Gl X x) (hm : X.mg x = some (.ref C)) (ha : PA X (e :: es) ta)
    (hdb : (x == ("__debug__" : Str)) = false := by decide) (he : starEach (e :: es) X.env = (false, eval e X.env) :: starEach es X.env := by rfl) (hpl : (backTo pos (starEach es X.env)).any (·.1) = false := by rfl) :
    PE X (.Call (.Name x p) (e :: es) [] pos) (tMk C sp ta) := by
  constructor
  intro pins s σ H Q I h
  obtain ⟨B, newId, initId, F, SF, q0⟩ := R.base
  refine wpAny_Call_Name_kw (ld_glob I hg hm ?_ hdb)
  refine PySem.W.callWith_K (h₀ := X.base) I.ok.mod.kin R.kp (wpAny_mono (ha.run pos pins s σ H _ I h) (fun us s1 z => ?_) fun _ _ z => z) he hpl
  obtain ⟨vs, H1, I1, r1, few, q1⟩ := z
  refine ⟨I1.kIn, ?_⟩
  obtain ⟨nm, N', qn, bs, bm, hdct, sn, sub, ab, col, dd, k0, k1, k2, k3, k5, hC, hT⟩ := PySem.W.excInit_of I1.kIn q0
  obtain ⟨oI, hoI, hcI⟩ := Option.map_eq_some_iff.mp (show (X.K.lookup fI).map (·.cls) = some (.type "function") from beq_iff_eq.mp R.iF)
  have look := PySem.W.looks_findIn (M := model X.prog X.w) I1.kIn R.iC
  have bnd := fun self => PySem.W.exc_bind (M := model X.prog X.w) (I1.kIn _ _ hoI) hcI self
  obtain ⟨hp, g, dr, tk, os⟩ := s1
  have new : H1 (hp.objs.size + 1) = none := I1.hok.fresh (Nat.le_succ _)
  have q2 := q1 _ new
  have I2 : Inv X pins σ (upd H1 (hp.objs.size + 1) (exo (hp.objs.size + 1) C none)) ⟨(hp.push (PySem.W.kdv_tup us)).push (PX.excO C hp.objs.size), g, dr, tk, os⟩ :=
    I1.laid (t' := tk) (o := exo (hp.objs.size + 1) C none) (h' := (hp.push (PySem.W.kdv_tup us)).push (PX.excO C hp.objs.size)) (fun b w q => Heap.get?_push_of_some _ (Heap.get?_push_of_some _ q)) (Nat.le_succ _) (exo_ok (t1 := hp.objs.size) (by heap_get))
  have r2 : Vals (V.ref (hp.objs.size + 1) :: vs) (Value.ref (hp.objs.size + 1) :: us) := .cons rfl r1
  have len : (Value.ref (hp.objs.size + 1) :: us).length = ps.length := by
    rw [← r2.length]
    exact F1.len _ _ _ _ q2
  have size : us.length ≤ sizeLine := by
    rw [← r1.length, sizeLine_eq]
    omega
  have hbd := hb ⟨(hp.push (PySem.W.kdv_tup us)).push (PX.excO C hp.objs.size), g, dr, tk, os⟩ (Value.ref (hp.objs.size + 1) :: us) I2.kIn (by simpa using len)
  rw [List.append_nil] at hbd
  refine wpAny_call (PX.call_own F hT hC look bnd size (codeAny_mono (F1.run _ X.stack _ _ ⟨Value.ref (hp.objs.size + 1) :: us, []⟩ (Value.ref (hp.objs.size + 1) :: us) _ _ (fun _ _ _ => False) (hr.make C us []) (I2.env0.make C us []) hbd r2 q2) fun r s2 z => ?_))
  match r, z with
  | .error _, z => exact z.elim
  | .ok (.ret u), ⟨v, H2, os2, bare, un, ok2, rv, ev, q3⟩ =>
    subst ev
    exact ⟨rv, .ref (hp.objs.size + 1), H2, I2.call' (ch := []) os2 un ok2 bare (fun b z => (List.not_mem_nil z).elim), rfl, q3⟩
  | .ok .next, z => exact z.elim
  | .ok .brk, z => exact z.elim
  | .ok .cont, z => exact z.elim
end
end G

/-! C(k = v, ..) of an own exception class. -/
namespace G
open PySem PySem.Spec PySem.Calls L2
open PySem.W (Frag)
section
variable {prog : Program} {w : World} {A : Around} {E : Value → Shared → Prop} {R : Result → Shared → Prop} {h : Heap} {g : Array GenState} {d : Drawn} {t : Nat} {os : OsState}
variable {nm q : Str} {C N : Addr} {bs bm bmB : List Value} {hdct : Bool} {sn : List Str} {sub : List Value} {ab : Bool} {col : Option Bool} {dd : Option Addr} {k0 k1 k2 k3 k5 : Option Value} {B newId initId : String}
theorem checked_new (F : ExcBaseFacts B newId initId bmB) (same : ∀ X : String, bm.contains (.type X) = bmB.contains (.type X)) {us : List Value} {kw : List (Str × Value)} {Q : Unit → Shared → Prop}
    (at_ : h.get? C = some (excClassObj nm q C N bs bm hdct sn sub ab col dd k0 k1 k2 k3 k5 newId)) (z : Q () ⟨h, g, d, t, os⟩) : wpAny (model prog w) A (checkBuiltinCall newId ⟨.ref C :: us, kw⟩) Q E ⟨h, g, d, t, os⟩ := by
  have isB : (Value.ref C :: bm).contains (.type B) = true := by rw [List.contains_cons, same, F.hasB, Bool.or_true]
  have nostar := F.noStar
  simp only [checkBuiltinCall, F.newKind, F.newSplit, F.newRow]
  repeat (first | refine wpAny_loadPart_at at_ ?_ | (refine wpAny_isSubtype_exc at_ ?_; rw [isB]) | refine wpAny_staticBase_exc at_ ?_ | refine wpAny_madeBy_exc at_ ?_ | simp only [bne_self_eq_false, Bool.false_eq_true, if_false] | wp_step)
  exact z
theorem ran_new (F : ExcBaseFacts B newId initId bmB) (same : ∀ X : String, bm.contains (.type X) = bmB.contains (.type X)) {us : List Value} {kw : List (Str × Value)}
    (at_ : h.get? C = some (excClassObj nm q C N bs bm hdct sn sub ab col dd k0 k1 k2 k3 k5 newId)) (few : us.length ≤ sizeLine)
    (z : R (.ok (.ret (.ref (h.objs.size + 1)))) ⟨(h.push (PySem.W.kdv_tup us)).push (PX.excO C h.objs.size), g, d, t, os⟩) : codeAny (model prog w) A (.builtin newId ⟨.ref C :: us, kw⟩) R ⟨h, g, d, t, os⟩ := by
  have ends := F.ends
  have is1 : (Value.ref C :: bm).contains (.type B) = true := by rw [List.contains_cons, same, F.hasB, Bool.or_true]
  have is2 : (Value.ref C :: bm).contains (.type "AttributeError") = false := by rw [List.contains_cons, same, F.noAttr, Bool.or_false]; rfl
  have is3 : (Value.ref C :: bm).contains (.type "NameError") = false := by rw [List.contains_cons, same, F.noName, Bool.or_false]; rfl
  refine codeAny_builtinAt F.entry ?_
  unfold Builtin.«BaseException.__new__»
  refine wpAt_bind ?_
  show wpAt _ _ _ (stack >>= _) _ _ _
  refine wpAt_bind (wpAt_stack fun _ _ => wpAt_of_wpAny ?_)
  wp_walk
  refine wpAt_of_wpAny ?_
  rw [F.owner]
  repeat (first | with_reducible refine wpAny_madeHere_exc F.canon at_ ?_ | with_reducible refine wpAny_loadPart_at at_ ?_ | (with_reducible refine wpAny_isSubtype_exc at_ ?_; first | rw [is1] | rw [is2] | rw [is3]) | wp_step)
  show R _ _
  rw [Heap.size_push]
  exact z
theorem ran_type (F : ExcBaseFacts B newId initId bmB) (same : ∀ X : String, bm.contains (.type X) = bmB.contains (.type X)) {us : List Value} {kw : List (Str × Value)} {fI : Addr} {Q : Fin → Shared → Prop}
    (at_ : h.get? C = some (excClassObj nm q C N bs bm hdct sn sub ab col dd k0 k1 k2 k3 k5 newId)) (look : PySem.W.Looks (model prog w) h (typeLookup (.ref C) "__init__") (some (.ref fI)))
    (bnd : ∀ self, PySem.W.Looks (model prog w) h (bindSpecial (.ref fI) self) (.ref fI, [self])) (few : us.length ≤ sizeLine)
    (z : codeAny (model prog w) A (.call (.ref fI) ⟨.ref (h.objs.size + 1) :: us, kw⟩) (fun r s' => match r with | .ok (.ret v) => v = .none ∧ Q (.done (.ret (.ref (h.objs.size + 1)))) s' | .ok _ => False | .error e => E e s')
      ⟨(h.push (PySem.W.kdv_tup us)).push (PX.excO C h.objs.size), g, d, t, os⟩) : wpAny (model prog w) A (Builtin.«type.__call__» ⟨.ref C :: us, kw⟩) Q E ⟨h, g, d, t, os⟩ := by
  repeat (first | with_reducible refine wpAny_loadPart_at at_ ?_ | with_reducible refine wpAny_madeBy_exc at_ ?_ | wp_step)
  refine codeAny_call_builtin_code (Code.quiet_builtin _ F.quiet) (checked_new F same at_ ?_)
  refine ran_new F same at_ few ?_
  show wpAny _ _ _ _ _ _
  have old : ∀ b o, h.get? b = some o → ((h.push (PySem.W.kdv_tup us)).push (PX.excO C h.objs.size)).get? b = some o := fun b o e => Heap.get?_push_of_some _ (Heap.get?_push_of_some _ e)
  have at2 := old _ _ at_
  have obj : ((h.push (PySem.W.kdv_tup us)).push (PX.excO C h.objs.size)).get? (h.objs.size + 1) = some (PX.excO C h.objs.size) := by heap_get
  have own : (Value.ref C :: bm).contains (.ref C) = true := by simp
  have look2 := look.keeps old
  have bnd2 := (bnd (.ref (h.objs.size + 1))).keeps old
  unfold isInstance
  repeat (first | with_reducible refine wpAny_loadPart_at obj ?_ | (with_reducible refine wpAny_isSubtype_exc at2 ?_; rw [own]) | wp_step)
  show wpAny _ _ (typeLookup (.ref C) _) _ _ _
  refine look2.at (wpAny_holding (wpAny_bind (bnd2.at (wpAny_bind (wpAny_call (codeAny_mono z fun r s' y => ?_))))))
  rcases r with e | (v | _ | _ | _) <;> first | exact y | exact y.elim | skip
  obtain ⟨rfl, y⟩ := y
  first
    | exact wpAny_pure (wpAny_pure y)
    | (wp_walk; exact y)
theorem ran_class (F : ExcBaseFacts B newId initId bmB) (same : ∀ X : String, bm.contains (.type X) = bmB.contains (.type X)) {us : List Value} {kw : List (Str × Value)} {fI : Addr}
    (at_ : h.get? C = some (excClassObj nm q C N bs bm hdct sn sub ab col dd k0 k1 k2 k3 k5 newId)) (look : PySem.W.Looks (model prog w) h (typeLookup (.ref C) "__init__") (some (.ref fI)))
    (bnd : ∀ self, PySem.W.Looks (model prog w) h (bindSpecial (.ref fI) self) (.ref fI, [self])) (few : us.length ≤ sizeLine)
    (z : codeAny (model prog w) (A.under (.builtin "type.__call__" ⟨.ref C :: us, kw⟩)) (.call (.ref fI) ⟨.ref (h.objs.size + 1) :: us, kw⟩) (PySem.W.InitBack (h.objs.size + 1) R) ⟨(h.push (PySem.W.kdv_tup us)).push (PX.excO C h.objs.size), g, d, t, os⟩) :
    codeAny (model prog w) A (.call (.ref C) ⟨us, kw⟩) R ⟨h, g, d, t, os⟩ := by
  have f1 := tc_lookup
  have f2 := tc_bind (.ref C)
  have ty : (⟨h, g, d, t, os⟩ : Shared).TypeIs (.ref C) "type" := ⟨_, at_, rfl⟩
  refine codeAny_of_tree ?_
  show wpAny _ _ (callAny (.ref C) _) _ _ _
  repeat (any_goals (first | assumption | with_reducible refine wpAny_loadPart_at at_ ?_ | wp_step))
  refine ⟨rfl, ?_⟩
  refine codeAny_call_builtin_at (Code.quiet_builtin _ (by decide +kernel)) entry_typeCall (wpAny_check_type_call_sub at_ (ran_type F same at_ look bnd few (codeAny_mono z fun r s' y => ?_)))
  rcases r with e | (v | _ | _ | _) <;> exact y
end
end G

namespace G
open PySem PySem.Spec PyProof.Rows L2
open PySem.W (Frag)
/-- C(k = v, ..) of an exception class: perm puts the values into the order of the parameters -/
def tMkK (C : Addr) (m : Nat) (perm : {α : Type} → List α → List α) (sp : Sp) (tk : TA) : TE := fun σ H Q => tk σ H fun zs H1 => zs.length = m ∧ ∀ a, H1 a = none → sp (.ref a :: perm zs) (upd H1 a (exo a C none)) (fun v H2 => v = .non ∧ Q (.ref a) H2) (fun _ _ _ => False)
section
variable {X : Cx} {x : Str} {p pos : Pos} {kws : List Keyword} {tk : TA}
theorem pe_mk_exK {k : Nat} {C fI : Addr} {T : List Value} {fd : FuncData} {ps ks : List Str} {sp : Sp} (perm : {α : Type} → List α → List α) (hp : ∀ {zs : List V} {ws : List Value}, Vals zs ws → Vals (perm zs) (perm ws))
    (R : ExK X.K C fI T) (F1 : FnOk X.prog X.w X.K X.mg X.base CX0 k fI fd ps sp) (hr : Room (k + 1) X.A) (hb : ∀ (s : Shared) (u : Value) (ws : List Value), X.K.In s.heap → ws.length = ks.length → BindsTo s fd ⟨[u], ks.zip ws⟩ (ps.zip (u :: perm ws))) (hg : Gl X x) (hm : X.mg x = some (.ref C)) (hkw : PK X kws tk)
    (hall : (backToKw pos (keywordEach kws X.env)).all (·.1.isSome) = true := by rfl) (hks : (backToKw pos (keywordEach kws X.env)).filterMap (·.1) = ks := by rfl) (hdb : (x == ("__debug__" : Str)) = false := by decide)
    (hpl : ((backTo pos (starEach [] X.env)).any (·.1) || (backToKw pos (keywordEach kws X.env)).any (·.1.isNone)) = false := by rfl) :
    PE X (.Call (.Name x p) [] kws pos) (tMkK C ks.length perm sp tk) := by
  constructor
  intro pins s σ H Q I h
  obtain ⟨B, newId, initId, F, SF, q0⟩ := R.base
  refine wpAny_Call_Name_kw (ld_glob I hg hm (PySem.W.callWith_KW0 (h₀ := X.base) I.ok.mod.kin R.kp hall (wpAny_mono (hkw.run pos pins s σ H _ I h) (fun ws s1 z => ?_) fun _ _ z => z) hpl) hdb)
  obtain ⟨zs, H1, I1, r1, len, q1⟩ := z
  refine ⟨I1.kIn, ?_⟩
  rw [hks]
  obtain ⟨nm, N', qn, bs, bm, hdct, sn, sub, ab, col, dd, k0, k1, k2, k3, k5, hC, hT⟩ := PySem.W.excInit_of I1.kIn q0
  obtain ⟨oI, hoI, hcI⟩ := Option.map_eq_some_iff.mp (show (X.K.lookup fI).map (·.cls) = some (.type "function") from beq_iff_eq.mp R.iF)
  have look := PySem.W.looks_findIn (M := model X.prog X.w) I1.kIn R.iC
  have bnd := fun self => PySem.W.exc_bind (M := model X.prog X.w) (I1.kIn _ _ hoI) hcI self
  obtain ⟨hp1, g, dr, tk1, os⟩ := s1
  have new : H1 (hp1.objs.size + 1) = none := I1.hok.fresh (Nat.le_succ _)
  have q2 := q1 _ new
  have I2 : Inv X pins σ (upd H1 (hp1.objs.size + 1) (exo (hp1.objs.size + 1) C none)) ⟨(hp1.push (PySem.W.kdv_tup [])).push (PX.excO C hp1.objs.size), g, dr, tk1, os⟩ :=
    I1.laid (t' := tk1) (o := exo (hp1.objs.size + 1) C none) (h' := (hp1.push (PySem.W.kdv_tup [])).push (PX.excO C hp1.objs.size)) (fun b w q => Heap.get?_push_of_some _ (Heap.get?_push_of_some _ q)) (Nat.le_succ _) (exo_ok (t1 := hp1.objs.size) (by heap_get))
  have r2 : Vals (V.ref (hp1.objs.size + 1) :: perm zs) (Value.ref (hp1.objs.size + 1) :: perm ws) := .cons rfl (hp r1)
  have lw : ws.length = ks.length := by rw [← r1.length]; exact len
  have hbd := hb ⟨(hp1.push (PySem.W.kdv_tup [])).push (PX.excO C hp1.objs.size), g, dr, tk1, os⟩ (Value.ref (hp1.objs.size + 1)) ws I2.kIn lw
  refine wpAny_call (ran_class F hT hC look bnd (by decide) (codeAny_mono (F1.run _ X.stack _ _ ⟨[Value.ref (hp1.objs.size + 1)], ks.zip ws⟩ (Value.ref (hp1.objs.size + 1) :: perm ws) _ _ (fun _ _ _ => False) (hr.make C [] (ks.zip ws)) (I2.env0.make C [] (ks.zip ws)) hbd r2 q2) fun r s2 z => ?_))
  match r, z with
  | .error _, z => exact z.elim
  | .ok (.ret u), ⟨v, H2, os2, bare, un, ok2, rv, ev, q3⟩ =>
    subst ev
    exact ⟨rv, .ref (hp1.objs.size + 1), H2, I2.call' (ch := []) os2 un ok2 bare (fun b z => (List.not_mem_nil z).elim), rfl, q3⟩
  | .ok .next, z => exact z.elim
  | .ok .brk, z => exact z.elim
  | .ok .cont, z => exact z.elim
end
end G

/-! repr of what is tracked: None, bools, ints, texts, lists, tuples, dicts, nested. -/
namespace G
open PySem PySem.Spec PyProof.Rows L2
mutual
/-- v is the data d in H; no list of it stands where sys.modules does -/
inductive Da (K : PySem.W.Frag) (H : Hp) : V → PyData → Prop
  | non : Da K H .non .none
  | bl (b : Bool) : Da K H (.bl b) (.bool b)
  | int (i : Int) : Da K H (.int i) (.int i)
  | str (x : Str) : Da K H (.str x) (.str x)
  | lst {a : Addr} {xs : List V} {ds : List PyData} : a ≠ sysModules → SqL K H a xs → DaAll K H xs ds → Da K H (.ref a) (.list ds)
  | tup {a : Addr} {xs : List V} {ds : List PyData} : SqT K H a xs → DaAll K H xs ds → Da K H (.ref a) (.tuple ds)
  | dct {a : Addr} {kvs : List (Key × V)} {ds : List (PyData × PyData)} : H a = some (.dK kvs) → DaAll K H (kvs.map fun p => kV p.1) (ds.map (·.1)) → DaAll K H (kvs.map (·.2)) (ds.map (·.2)) → Da K H (.ref a) (.dict ds)
inductive DaAll (K : PySem.W.Frag) (H : Hp) : List V → List PyData → Prop
  | nil : DaAll K H [] []
  | cons {v : V} {vs : List V} {d : PyData} {ds : List PyData} : Da K H v d → DaAll K H vs ds → DaAll K H (v :: vs) (d :: ds)
end
mutual
theorem Da.same {K : PySem.W.Frag} {H G : Hp} (e : Same H G) : ∀ {v : V} {d : PyData}, Da K H v d → Da K G v d
  | _, _, .non => .non
  | _, _, .bl b => .bl b
  | _, _, .int i => .int i
  | _, _, .str x => .str x
  | _, _, .lst n s a => .lst n (e.seq s) (DaAll.same e a)
  | _, _, .tup s a => .tup (by
      rcases s with (s | ⟨o, s⟩) | s
      · exact .inl (.inl (e _ _ s))
      · exact .inl (.inr ⟨o, e _ _ s⟩)
      · exact .inr s) (DaAll.same e a)
  | _, _, .dct h a b => .dct (e _ _ h) (DaAll.same e a) (DaAll.same e b)
theorem DaAll.same {K : PySem.W.Frag} {H G : Hp} (e : Same H G) : ∀ {vs : List V} {ds : List PyData}, DaAll K H vs ds → DaAll K G vs ds
  | _, _, .nil => .nil
  | _, _, .cons h t => .cons (Da.same e h) (DaAll.same e t)
end
theorem keys_vals {κ : Type} {f : κ → V} {g : κ → Value → Bool} (hf : ∀ k u, g k u = true → RelV (f k) u) {prog : Program} {w : World} {knd : κ → Value → Bool} (hk : ∀ k u, knd k u = g k u) :
    ∀ {kvs : List (κ × V)} {vs : List (κ × Value)} {es : List DictEntry}, KV kvs vs → es.length = vs.length → (∀ (i : Nat) (e : DictEntry) (k : κ) (v : Value), es[i]? = some e → vs[i]? = some (k, v) → knd k e.key = true ∧ e.val = v) →
      Vals (kvs.map fun p => f p.1) (es.map (·.key)) ∧ Vals (kvs.map (·.2)) (es.map (·.val))
  | [], [], [], .nil, _, _ => ⟨.nil, .nil⟩
  | (k, x) :: kvs, (k', u) :: vs, e :: es, .cons ⟨ek, r⟩ t, l, h => by
    obtain rfl : k = k' := ek
    obtain ⟨h1, h2⟩ := h 0 e k u rfl rfl
    obtain ⟨i1, i2⟩ := keys_vals hf (prog := prog) (w := w) hk t (by simpa using l) fun i e' k' v' a b => h (i + 1) e' k' v' (by simpa using a) (by simpa using b)
    refine ⟨.cons (hf _ _ (by rw [← hk]; exact h1)) i1, .cons ?_ i2⟩
    show RelV x e.val
    rw [h2]
    exact r
section
variable {X : Cx} {pins : List (Addr × Obj)} {σ : L2.St} {H : Hp} {s : Shared}
theorem dict_vals (I : Inv X pins σ H s) {a : Addr} {kvs : List (Key × V)} (h : H a = some (.dK kvs)) :
    (a == sysModules) = false ∧ ∃ o es n, s.heap.get? a = some o ∧ o.cls = .type "dict" ∧ o.data = .dict es n ∧ Vals (kvs.map fun p => kV p.1) (es.toList.map (·.key)) ∧ Vals (kvs.map (·.2)) (es.toList.map (·.val)) := by
  obtain ⟨_, sm, vs, r, d⟩ := dk_of I.hok h
  obtain ⟨es, ep, ⟨o, ho, ex, hd⟩, hl, hall⟩ := Heap.DictOf.raw d
  refine ⟨sm, o, es, ep, ho, ex.1, hd, ?_⟩
  refine keys_vals (g := keyIs) (knd := keyIs) (prog := X.prog) (w := X.w) (fun k u e => ?_) (fun _ _ => rfl) r (by rw [Array.length_toList]; exact hl) fun i e k v h1 h2 => ?_
  · rcases keyIs_shape e with ⟨i, t, rfl, rfl⟩ | ⟨x, t, rfl, rfl⟩
    · exact ⟨t, rfl⟩
    · exact ⟨t, rfl⟩
  · rw [Array.getElem?_toList] at h1
    obtain ⟨hi, he⟩ := Array.getElem?_eq_some_iff.mp h1
    have q := hall i hi k v h2
    rw [he] at q
    exact q
mutual
theorem Da.reads (I : Inv X pins σ H s) : ∀ {v : V} {d : PyData} {u : Value}, Da X.K H v d → RelV v u → ∃ as, Reads s.heap u d as ∧ sysModules ∉ as
  | _, _, _, .non, r => by
    cases r
    exact ⟨_, .none, fun z => nomatch z⟩
  | _, _, _, .bl b, r => by
    cases r
    exact ⟨_, .bool b, fun z => nomatch z⟩
  | _, _, _, .int i, r => by
    obtain ⟨t, rfl⟩ := r
    exact ⟨_, .int i t, fun z => nomatch z⟩
  | _, _, _, .str x, r => by
    obtain ⟨t, rfl⟩ := r
    exact ⟨_, .str x t, fun z => nomatch z⟩
  | _, _, _, .lst ne q ha, r => by
    cases r
    obtain ⟨its, rv, ⟨o, n, ho, hc, _, hd⟩, _⟩ := I.list q
    obtain ⟨as, hr, hn⟩ := DaAll.reads I ha rv
    exact ⟨_, .list ho hc hd hr, fun z => by
      rcases List.mem_cons.mp z with z | z
      · exact ne z.symm
      · exact hn z⟩
  | _, _, _, .tup q ha, r => by
    cases r
    obtain ⟨its, rv, ⟨o, ho, hc, n, hd⟩, _⟩ := I.tuple q
    obtain ⟨as, hr, hn⟩ := DaAll.reads I ha rv
    exact ⟨_, .tuple ho hc hd hr, hn⟩
  | _, _, _, .dct q ha hb, r => by
    cases r
    obtain ⟨sm, o, es, n, ho, hc, hd, rk, rv⟩ := dict_vals I q
    obtain ⟨as, h1, n1⟩ := DaAll.reads I ha rk
    obtain ⟨bs, h2, n2⟩ := DaAll.reads I hb rv
    exact ⟨_, .dict ho hc hd h1 h2, fun z => by
      rcases List.mem_append.mp z with z | z
      · rcases List.mem_cons.mp z with z | z
        · rw [← z] at sm
          exact absurd sm (by decide)
        · exact n1 z
      · exact n2 z⟩
theorem DaAll.reads (I : Inv X pins σ H s) : ∀ {vs : List V} {ds : List PyData} {us : List Value}, DaAll X.K H vs ds → Vals vs us → ∃ as, ReadsAll s.heap us ds as ∧ sysModules ∉ as
  | _, _, _, .nil, r => by
    cases r
    exact ⟨_, .nil, fun z => nomatch z⟩
  | _, _, _, .cons h t, r => by
    cases r with
    | cons r1 r2 =>
      obtain ⟨as, h1, n1⟩ := Da.reads I h r1
      obtain ⟨bs, h2, n2⟩ := DaAll.reads I t r2
      exact ⟨_, .cons h1 h2, fun z => (List.mem_append.mp z).elim n1 n2⟩
end
end
section
variable {X : Cx}
def rRepr (K : PySem.W.Frag) : List V → Hp → VK → Prop := fun xs H Q => ∃ v d, xs = [v] ∧ Da K H v d ∧ d.showable = true ∧ d.depth ≤ 32 ∧ d.shown.length ≤ sizeLine ∧ Q (.str d.shown) H
theorem call_repr (hg : X.A.guards = some []) (hu : X.A.units + 64 < cLine) : CallR X (.builtin "repr") (rRepr X.K) := by
  rintro pins s σ H xs us Q I r ⟨v, d, rfl, hd, sh, dp, sz, q⟩
  cases r with
  | cons r1 r2 =>
    cases r2
    obtain ⟨as, hr, hn⟩ := Da.reads I hd r1
    cases hd with
    | non =>
      cases r1
      exact PySem.P.repr_of_none ⟨.str _, H, I.tok _, ⟨_, rfl⟩, q⟩
    | bl b =>
      cases r1
      exact PySem.P.repr_of_bool ⟨.str _, H, I.tok _, ⟨_, rfl⟩, q⟩
    | int i =>
      obtain ⟨t, rfl⟩ := r1
      exact PySem.P.repr_of_int (by simpa [PyData.showable] using sh) ⟨.str _, H, I.tok _, ⟨_, rfl⟩, q⟩
    | str x =>
      obtain ⟨t, rfl⟩ := r1
      exact PySem.P.repr_of_str ⟨.str _, H, I.tok _, ⟨_, rfl⟩, q⟩ (by simpa only [PyData.shown] using sz)
    | lst ne a b =>
      cases r1
      exact repr_of_reads' hr sh (fun _ => hn) hg (by omega) (fun _ _ e => e) (fun h' u tk k => ⟨.str _, H, I.kept (t' := tk) k, ⟨_, rfl⟩, q⟩) sz
    | tup a b =>
      cases r1
      exact repr_of_reads' hr sh (fun _ => hn) hg (by omega) (fun _ _ e => e) (fun h' u tk k => ⟨.str _, H, I.kept (t' := tk) k, ⟨_, rfl⟩, q⟩) sz
    | dct a b c =>
      cases r1
      exact repr_of_reads' hr sh (fun _ => hn) hg (by omega) (fun _ _ e => e) (fun h' u tk k => ⟨.str _, H, I.kept (t' := tk) k, ⟨_, rfl⟩, q⟩) sz
/-- [a, b, ..]: a new list, not at the place of sys.modules -/
def tLstS (t : TA) : TE := fun σ H Q => t σ H fun xs H1 => xs.length ≤ sizeLine ∧ ∀ p, H1 p = none → p ≠ sysModules → Q (.ref p) (upd H1 p (.lst xs))
theorem pe_lstS {es : List Expr} {t : TA} {pos : Pos} (h : PA X es t) : PE X (.List es pos) (tLstS t) := by
  constructor
  intro pins s σ H Q I hq
  refine wpAny_List_spliced (wpAny_mono (h.run pos pins s σ H _ I hq) (fun us s1 z => ?_) fun _ _ z => z)
  obtain ⟨xs, H1, J, r, few, q⟩ := z
  have new : H1 s1.heap.objs.size = none := J.hok.fresh (Nat.le_refl _)
  refine ⟨by rw [← r.length]; exact few, .ref s1.heap.objs.size, upd H1 s1.heap.objs.size (.lst xs), J.laid (o := .lst xs) (t' := s1.toks) (fun b u e => Heap.get?_push_of_some _ e) (Nat.le_refl _) ⟨few, us, 0, r, Heap.get?_push_size _ rfl⟩, rfl, q _ new (Nat.ne_of_gt J.big)⟩
end
end G

/-! The law's pen: a dict of cells, of a turn and of what is left of a great cell; a draw hands back a number below the bound. -/
namespace LW
open PySem L2 G
def top (i : Nat) : Stmt := PySem.Challenge.pw_namechains_k02_leaves_made_and_refused.main.body.getD i (.Pass ⟨0, 0, 0, 0⟩)
abbrev sPen : Stmt := top 38
abbrev sDraw : Stmt := top 39
abbrev sPick : Stmt := top 40
abbrev kCe : Key := Sum.inr (Str.ofString "cells")
abbrev kTu : Key := Sum.inr (Str.ofString "turn")
abbrev kLe : Key := Sum.inr (Str.ofString "left")
/-- the pen at p, its list of cells at c -/
structure PenAt (H : Hp) (p c : Addr) (cells : List Int) (t l : Int) : Prop where
  pen : H p = some (.dK [(kCe, .ref c), (kTu, .int t), (kLe, .int l)])
  lst : H c = some (.lst (cells.map V.int))
  few : cells.length ≤ 63
  t0 : 0 ≤ t
theorem k12 : ¬ ((kCe : Key) = kTu) := by decide +kernel
theorem k13 : ¬ ((kCe : Key) = kLe) := by decide +kernel
theorem k23 : ¬ ((kTu : Key) = kLe) := by decide +kernel
theorem v1 {a b d : V} : valV ([(kCe, a), (kTu, b), (kLe, d)] : List (Key × V)) (kCe) = some a := by simp [valV]
theorem v2 {a b d : V} : valV ([(kCe, a), (kTu, b), (kLe, d)] : List (Key × V)) (kTu) = some b := by
  unfold valV
  rw [List.find?_cons_of_neg (by simpa using k12), List.find?_cons_of_pos (by simp)]
  rfl
theorem v3 {a b d : V} : valV ([(kCe, a), (kTu, b), (kLe, d)] : List (Key × V)) (kLe) = some d := by
  unfold valV
  rw [List.find?_cons_of_neg (by simpa using k13), List.find?_cons_of_neg (by simpa using k23), List.find?_cons_of_pos (by simp)]
  rfl
theorem p2 {a b d x : V} : putK ([(kCe, a), (kTu, b), (kLe, d)] : List (Key × V)) (kTu) x = [(kCe, a), (kTu, x), (kLe, d)] := by
  have h1 : ¬ ((kLe : Key) = kTu) := fun z => k23 z.symm
  unfold putK
  rw [if_pos (by simp), List.map_cons, List.map_cons, List.map_cons, List.map_nil, if_neg k12, if_pos rfl, if_neg h1]
theorem p3 {a b d x : V} : putK ([(kCe, a), (kTu, b), (kLe, d)] : List (Key × V)) (kLe) x = [(kCe, a), (kTu, b), (kLe, x)] := by
  unfold putK
  rw [if_pos (by simp), List.map_cons, List.map_cons, List.map_cons, List.map_nil, if_neg k13, if_neg k23, if_pos rfl]
theorem merge3 {a b d : V} : mergeK [] ([(kCe, a), (kTu, b), (kLe, d)] : List (Key × V)) = [(kCe, a), (kTu, b), (kLe, d)] := by
  have e1 : ¬ (Str.ofString "cells" = Str.ofString "turn") := by decide +kernel
  have e2 : ¬ (Str.ofString "cells" = Str.ofString "left") := by decide +kernel
  have e3 : ¬ (Str.ofString "turn" = Str.ofString "left") := by decide +kernel
  simp [mergeK, putK, e1, e2, e3]
theorem PenAt.npc {H : Hp} {p c : Addr} {cells : List Int} {t l : Int} (N : PenAt H p c cells t l) : c ≠ p := ne_of N.lst N.pen (by intro z; cases z)
theorem PenAt.left {H : Hp} {p c : Addr} {cells : List Int} {t l : Int} (N : PenAt H p c cells t l) (x : Int) : PenAt (upd H p (.dK (putK [(kCe, .ref c), (kTu, .int t), (kLe, .int l)] kLe (.int x)))) p c cells t x :=
  ⟨by rw [upd_same, p3], by rw [upd_ne N.npc]; exact N.lst, N.few, N.t0⟩
theorem PenAt.turn {H : Hp} {p c : Addr} {cells : List Int} {t l : Int} (N : PenAt H p c cells t l) {x : Int} (h : 0 ≤ x) : PenAt (upd H p (.dK (putK [(kCe, .ref c), (kTu, .int t), (kLe, .int l)] kTu (.int x)))) p c cells x l :=
  ⟨by rw [upd_same, p2], by rw [upd_ne N.npc]; exact N.lst, N.few, h⟩
theorem PenAt.same {H H' : Hp} {p c : Addr} {cells : List Int} {t l : Int} (N : PenAt H p c cells t l) (e : Same H H') : PenAt H' p c cells t l := ⟨e _ _ N.pen, e _ _ N.lst, N.few, N.t0⟩
theorem PenAt.gL {H : Hp} {p c : Addr} {cells : List Int} {t l : Int} (N : PenAt H p c cells t l) : DGet H p (.str "left") (some (.int l)) := v3 (a := .ref c) (b := .int t) (d := .int l) ▸ DGet.k (k := kLe) N.pen
theorem PenAt.gT {H : Hp} {p c : Addr} {cells : List Int} {t l : Int} (N : PenAt H p c cells t l) : DGet H p (.str "turn") (some (.int t)) := v2 (a := .ref c) (b := .int t) (d := .int l) ▸ DGet.k (k := kTu) N.pen
theorem PenAt.gC {H : Hp} {p c : Addr} {cells : List Int} {t l : Int} (N : PenAt H p c cells t l) : DGet H p (.str "cells") (some (.ref c)) := v1 (a := .ref c) (b := .int t) (d := .int l) ▸ DGet.k (k := kCe) N.pen
theorem penLen {c : Addr} {t l : Int} : ([(kCe, V.ref c), (kTu, .int t), (kLe, .int l)] : List (Key × V)).length < sizeLine := by show 3 < sizeLine; decide
theorem dpInts (K : PySem.W.Frag) (H : Hp) : ∀ l : List Int, DpAll K H (l.map V.int) (l.map PyData.int)
  | [] => .nil
  | i :: l => .cons (.int i) (dpInts K H l)
theorem layInts : ∀ l : List Int, PyData.canLayAll0 (l.map PyData.int) = true
  | [] => by simp only [List.map_nil, PyData.canLayAll0]
  | i :: l => by simp only [List.map_cons, PyData.canLayAll0, PyData.canLay0, layInts l, Bool.and_self]
theorem depInts : ∀ l : List Int, PyData.depthAll (l.map PyData.int) = 0
  | [] => by simp only [List.map_nil, PyData.depthAll]
  | i :: l => by simp only [List.map_cons, PyData.depthAll, PyData.depth, depInts l, Nat.max_self]
theorem shapedInts (l : List Int) : SeqAt.shaped (.list (l.map PyData.int)) = true := by
  have h1 : (PyData.list (l.map PyData.int)).canLay0 = true := by simp only [PyData.canLay0, layInts]
  have h2 : (PyData.list (l.map PyData.int)).depth ≤ 64 := by simp only [PyData.depth, depInts]; omega
  simp only [SeqAt.shaped, h1, h2, decide_true, Bool.and_self]
theorem eqvNil : ∀ l : List Int, PyData.eqv (.list (l.map PyData.int)) (.list []) = decide (l = [])
  | [] => by simp [PyData.eqv, PyData.eqvAll]
  | i :: l => by simp [PyData.eqv, PyData.eqvAll]
theorem atCells {l : List Int} {i : Int} (h0 : 0 ≤ i) (h : i < l.length) : ∃ z, atI (l.map V.int) i = some (.int z) := by
  have hl : i.toNat < l.length := by omega
  exact ⟨l[i.toNat], at_of (j := i.toNat) (by omega) (by rw [List.getElem?_map, List.getElem?_eq_getElem hl]; rfl)⟩
/-- a number of the row of primes -/
def primes : List Int := [2147483629, 2147483647, 2147483587, 2147483563, 2147483579]
theorem prime_at {i : Int} (h0 : 0 ≤ i) (h5 : i < 5) : ∃ q : Int, atI (primes.map V.int) i = some (.int q) ∧ 2147483563 ≤ q ∧ q ≤ 2147483647 := by
  have h : i = 0 ∨ i = 1 ∨ i = 2 ∨ i = 3 ∨ i = 4 := by omega
  rcases h with rfl | rfl | rfl | rfl | rfl
  · exact ⟨2147483629, by decide +kernel, by omega, by omega⟩
  · exact ⟨2147483647, by decide +kernel, by omega, by omega⟩
  · exact ⟨2147483587, by decide +kernel, by omega, by omega⟩
  · exact ⟨2147483563, by decide +kernel, by omega, by omega⟩
  · exact ⟨2147483579, by decide +kernel, by omega, by omega⟩
theorem fm {i j : Int} (h : 0 < j) : 0 ≤ i.fmod j ∧ i.fmod j < j := ⟨Int.fmod_nonneg_of_pos i h, Int.fmod_lt_of_pos i h⟩
theorem cut63 (ns : List Int) (h : ns.length ≤ 63) : cutV (ns.map V.int) none (some 63) = ns.map V.int := by
  have e1 : HT.sIx (ns.map V.int).length 0 none = 0 := rfl
  have e2 : (ns.map V.int).length ≤ HT.sIx (ns.map V.int).length (ns.map V.int).length (some 63) := by
    rw [List.length_map]
    rw [show ((63 : Int)) = ((63 : Nat) : Int) from rfl, HT.sIx_nat]
    omega
  unfold cutV
  rw [e1, List.drop_zero, Nat.sub_zero]
  exact List.take_of_length_le e2
/-- what the walk asks of the built-ins -/
structure Bt (mg : Str → Option Value) : Prop where
  int : mg "int" = none
  len : mg "len" = none
  abs : mg "abs" = none
  list : mg "list" = none
def spDraw : Sp := fun vs H Q _ => ∃ (p c : Addr) (cells : List Int) (t l many : Int), vs = [.ref p, .int many] ∧ PenAt H p c cells t l ∧ t ≤ 1000000 ∧ 1 ≤ many ∧ many ≤ 1000000 ∧
  ∀ (r t' l' : Int) (H' : Hp), 0 ≤ r → r < many → t' ≤ t + 1 → PenAt H' p c cells t' l' → (∀ b o, H b = some o → b ≠ p → H' b = some o) → Q (.int r) H'
section
variable {P : Program} {w : World} {K : PySem.W.Frag} {mg : Str → Option Value} {base : Heap}
theorem scD : FnScope ["_law_pen_here", "_law_many", "_law_digit", "_law_turn", "_law_cell", "_law_primes", "_law_prime", "_law_drawn"] ["_law_pen_here", "_law_many"] (defScope sDraw) := ⟨rfl, rfl, rfl, by decide +kernel, rfl, by decide +kernel, by decide +kernel⟩
theorem ok_draw {f : Addr} {fd : FuncData} (F : Fun K "_law_draw" "_law_draw" sDraw f fd) (T : Bt mg) : FnOk P w K mg base CX0 1 f fd ["_law_pen_here", "_law_many"] spDraw := by
  refine F.ok scD (fun vs H Q E h => ?_) (fun cdv A outer s H vs Q E hr h => ?_)
  · obtain ⟨p, c, cells, t, l, many, rfl, _⟩ := h
    rfl
  · obtain ⟨p, c, cells, t, l, many, rfl, N, ht, hm1, hm2, k⟩ := h
    have hu := hu_of hr
    have hu64 := hr.units
    refine ⟨_, pss_cons (ps_if (pt_cmpR op_gt (pe_dget hu (pv 0) pe_str (fun _ _ => rfl)) pe_int (nomark _))
        (pss_cons (ps_set (i := 2) scD.nd rfl (Or.inl rfl) (pe_op op_modN (pe_callTy call_int1 (by rfl) T.int (by decide +kernel) (pa_cons (pe_dget hu (pv 0) pe_str (fun _ _ => rfl)) pa_nil)) (pv 1)))
        (pss_cons (ps_dput hu (pv 0) pe_str (pe_op op_fdivN (pe_dget hu (pv 0) pe_str (fun _ _ => rfl)) (pv 1)) rfl)
        (pss_one (ps_ret (pv 2))))) pss_nil)
      (pss_cons (ps_set (i := 3) scD.nd rfl (Or.inl rfl) (pe_dget hu (pv 0) pe_str (fun _ _ => rfl)))
      (pss_cons (ps_dput hu (pv 0) pe_str (pe_op op_add (pv 3) pe_int) rfl)
      (pss_cons (ps_set (i := 4) scD.nd rfl (Or.inl rfl) (pe_op op_add (pe_op op_mul pe_int (pv 3)) pe_int))
      (pss_cons (ps_if (pt_cmpR (op_neD hu64) (pe_dget hu (pv 0) pe_str (fun _ _ => rfl)) (pe_lst pa_nil) (nomark _))
        (pss_one (ps_set (i := 4) scD.nd rfl (Or.inl rfl) (pe_ix ix_list (pe_dget hu (pv 0) pe_str (fun _ _ => rfl))
          (pe_op op_modN (pe_callTy call_int1 (by rfl) T.int (by decide +kernel) (pa_cons (pv 3) pa_nil)) (pe_callB call_len (by rfl) T.len PySem.boot_len (pa_cons (pe_dget hu (pv 0) pe_str (fun _ _ => rfl)) pa_nil))) (fun _ _ => rfl)))) pss_nil)
      (pss_cons (ps_if (PW.pt (pw_and (pt_cmpR op_lt (pv 3) (pe_callB call_len (by rfl) T.len PySem.boot_len (pa_cons (pe_dget hu (pv 0) pe_str (fun _ _ => rfl)) pa_nil)) (nomark _))
          (pw_and1 (pt_cmpR op_ge (pe_callB call_abs (by rfl) T.abs (by decide +kernel) (pa_cons (pv 4) pa_nil)) (pe_op op_pow pe_int pe_int) (nomark _)))))
        (pss_cons (ps_dput hu (pv 0) pe_str (pe_op op_fdivN (pe_op op_sub (pe_callB call_abs (by rfl) T.abs (by decide +kernel) (pa_cons (pv 4) pa_nil)) (pe_op op_pow pe_int pe_int)) (pv 1)) rfl)
        (pss_one (ps_ret (pe_op op_modN (pe_op op_sub (pe_callB call_abs (by rfl) T.abs (by decide +kernel) (pa_cons (pv 4) pa_nil)) (pe_op op_pow pe_int pe_int)) (pv 1))))) pss_nil)
      (pss_cons (ps_set (i := 5) scD.nd rfl (Or.inl rfl) (pe_lst (pa_cons pe_int (pa_cons pe_int (pa_cons pe_int (pa_cons pe_int (pa_cons pe_int pa_nil)))))))
      (pss_cons (ps_set (i := 6) scD.nd rfl (Or.inl rfl) (pe_ix ix_list (pv 5) (pe_op op_modN (pe_callTy call_int1 (by rfl) T.int (by decide +kernel) (pa_cons (pv 3) pa_nil)) pe_int) (fun _ _ => rfl)))
      (pss_cons (ps_set (i := 7) scD.nd rfl (Or.inl rfl) (pe_op op_modN (pe_callTy call_int1 (by rfl) T.int (by decide +kernel) (pa_cons
          (pe_op op_add (pe_op op_add (pe_op op_mul (pe_op op_modN (pe_callTy call_int1 (by rfl) T.int (by decide +kernel) (pa_cons (pv 4) pa_nil)) (pv 6)) pe_int) (pe_op op_mul (pv 3) (pe_op op_add (pe_op op_mul pe_int (pv 3)) pe_int))) pe_int) pa_nil)) (pv 6)))
      (pss_cons (ps_set (i := 7) scD.nd rfl (Or.inl rfl) (pe_op op_modN (pe_callTy call_int1 (by rfl) T.int (by decide +kernel) (pa_cons (pe_op op_mul (pv 7) (pe_op op_add (pv 7) pe_int)) pa_nil))
          (pe_ix ix_list (pv 5) (pe_op op_modN (pe_callTy call_int1 (by rfl) T.int (by decide +kernel) (pa_cons (pe_op op_add (pv 3) pe_int) pa_nil)) pe_int) (fun _ _ => rfl))))
      (pss_one (ps_ret (pe_op op_modN (pe_callTy call_int1 (by rfl) T.int (by decide +kernel) (pa_cons (pe_op op_fdivN (pe_op op_modN (pe_callTy call_int1 (by rfl) T.int (by decide +kernel) (pa_cons
          (pe_op op_add (pe_op op_add (pe_op op_mul (pv 7) (pv 7)) (pe_op op_mul pe_int (pv 7))) (pv 3)) pa_nil)) pe_int) pe_int) pa_nil)) (pv 1))))))))))))), ?_⟩
    have ne0 : many ≠ 0 := by omega
    have cdn : many ≠ 0 ∧ many.natAbs < 1073741824 := ⟨ne0, by omega⟩
    have fmM : ∀ i : Int, 0 ≤ i.fmod many ∧ i.fmod many < many := fun i => fm (by omega)
    refine ⟨_, rfl, p, _, rfl, N.gL, _, _, rfl, rfl, _, rfl, ?_⟩
    refine ite2 (fun _ => ?_) (fun _ => ?_)
    · refine ⟨_, rfl, p, _, rfl, N.gL, .inl ⟨_, rfl, _, rfl, _, _, rfl, rfl, ne0, ?_⟩⟩
      refine ⟨_, rfl, p, _, rfl, N.gL, _, rfl, _, _, rfl, rfl, cdn, _, rfl, p, _, rfl, DPut.k (k := kLe) N.pen penLen, ?_⟩
      refine ⟨_, rfl, ?_⟩
      exact k _ t (l.fdiv many) _ (fmM l).1 (fmM l).2 (by omega) (N.left _) fun b o e hb => by rw [upd_ne hb]; exact e
    · refine ⟨_, rfl, p, _, rfl, N.gT, ?_⟩
      refine ⟨_, rfl, _, _, rfl, rfl, _, rfl, p, _, rfl, DPut.k (k := kTu) N.pen penLen, ?_⟩
      have N1 := N.turn (x := t + 1) (by have := N.t0; omega)
      have old1 : ∀ b o, H b = some o → b ≠ p → (upd H p (.dK (putK [(kCe, .ref c), (kTu, .int t), (kLe, .int l)] kTu (.int (t + 1))))) b = some o := fun b o e hb => by rw [upd_ne hb]; exact e
      revert N1 old1
      generalize (upd H p (.dK (putK [(kCe, .ref c), (kTu, .int t), (kLe, .int l)] kTu (.int (t + 1))))) = H1
      intro N1 old1
      refine ⟨_, rfl, _, _, rfl, rfl, .inl ⟨by decide, by decide⟩, _, _, rfl, rfl, ?_⟩
      refine ⟨_, rfl, p, _, rfl, N1.gC, by decide, fun q hq => ?_⟩
      have e1 : (upd H1 q (.lst [])) c = some (.lst (cells.map V.int)) := by rw [upd_ne (ne_of_none N1.lst hq)]; exact N1.lst
      refine ⟨.list (cells.map PyData.int), .list [], .lst (Or.inl (Or.inl e1)) (dpInts _ _ cells), .lst (Or.inl (Or.inl upd_same)) .nil, shapedInts cells, by decide +kernel, _, rfl, ?_⟩
      have s1 : Same H1 (upd H1 q (.lst [])) := fun b o e => by rw [upd_ne (ne_of_none e hq)]; exact e
      have N2 := N1.same s1
      have old2 : ∀ b o, H b = some o → b ≠ p → (upd H1 q (.lst [])) b = some o := fun b o e hb => s1 b o (old1 b o e hb)
      revert N2 old2
      generalize upd H1 q (.lst []) = H2
      intro N2 old2
      rw [eqvNil]
      by_cases hc : cells = []
      rw [decide_eq_true hc]
      refine iteF ?_
      rotate_left
      rw [decide_eq_false hc]
      refine iteT ?_
      have pos : (0 : Int) < cells.length := by
        have := List.length_pos_iff.mpr hc
        omega
      obtain ⟨z, hz⟩ := atCells (l := cells) (fm (i := t) pos).1 (fm (i := t) pos).2
      refine ⟨_, rfl, p, _, rfl, N2.gC, _, rfl, .inl ⟨_, rfl, _, rfl, p, _, rfl, N2.gC, _, cells.length, rfl, .inl ⟨_, Or.inl (Or.inl N2.lst), (List.length_map ..).symm⟩, _, _, rfl, rfl, (by omega), c, _, _, _, rfl, rfl, Or.inl (Or.inl N2.lst), hz, ?_⟩⟩
      all_goals
        have pw : (0 : Int) ≤ 18 ∧ (18 : Int) ≤ 1000000 ∧ (10 : Int).natAbs < 2 ^ 64 := ⟨by decide, by decide, by decide⟩
        refine ⟨_, rfl, _, rfl, p, _, rfl, N2.gC, _, cells.length, rfl, .inl ⟨_, Or.inl (Or.inl N2.lst), (List.length_map ..).symm⟩, _, _, rfl, rfl, _, rfl, ?_⟩
        refine ite2 (fun hA => ?_) (fun hA => ?_)
      all_goals try refine ⟨_, rfl, _, rfl, _, _, rfl, rfl, pw, _, _, rfl, rfl, _, rfl, ?_⟩
      all_goals try refine ite2 (fun hB => ?_) (fun hB => ?_)
      all_goals try first
        | exact absurd hB Bool.false_ne_true
        | (refine ⟨_, rfl, _, rfl, _, _, rfl, rfl, pw, _, _, rfl, rfl, _, rfl, _, _, rfl, rfl, cdn, _, rfl, p, _, rfl, DPut.k (k := kLe) N2.pen penLen, ?_⟩
           refine ⟨_, rfl, _, rfl, _, _, rfl, rfl, pw, _, _, rfl, rfl, _, rfl, _, _, rfl, rfl, ne0, ?_⟩
           exact k _ (t + 1) _ _ (fmM _).1 (fmM _).2 (by omega) (N2.left _) (fun b o e hb => by rw [upd_ne hb]; exact old2 b o e hb))
      all_goals
        obtain ⟨q1, hq1, lo1, hi1⟩ := prime_at (fm (i := t) (j := 5) (by decide)).1 (fm (i := t) (j := 5) (by decide)).2
        obtain ⟨q2, hq2, lo2, hi2⟩ := prime_at (fm (i := t + 2) (j := 5) (by decide)).1 (fm (i := t + 2) (j := 5) (by decide)).2
        have t0 := N.t0
        refine ⟨by decide, fun pr hpr => ?_⟩
        have here : (upd H2 pr (.lst (primes.map V.int))) pr = some (.lst (primes.map V.int)) := upd_same
        have s2 : Same H2 (upd H2 pr (.lst (primes.map V.int))) := fun b o e => by rw [upd_ne (ne_of_none e hpr)]; exact e
        have N3 := N2.same s2
        have old3 : ∀ b o, H b = some o → b ≠ p → (upd H2 pr (.lst (primes.map V.int))) b = some o := fun b o e hb => s2 b o (old2 b o e hb)
        have b1 : ∀ i : Int, -(2 ^ 64) < i.fmod q1 ∧ i.fmod q1 < 2 ^ 64 := fun i => ⟨by have := (fm (i := i) (j := q1) (by omega)).1; omega, by have := (fm (i := i) (j := q1) (by omega)).2; omega⟩
        have b2 : ∀ i : Int, -(2 ^ 64) < i.fmod q2 ∧ i.fmod q2 < 2 ^ 64 := fun i => ⟨by have := (fm (i := i) (j := q2) (by omega)).1; omega, by have := (fm (i := i) (j := q2) (by omega)).2; omega⟩
        have n1 : q1 ≠ 0 := by omega
        have n2 : q2 ≠ 0 := by omega
        have bt : -(2 ^ 64) < t ∧ t < 2 ^ 64 := ⟨by omega, by omega⟩
        refine ⟨_, rfl, _, rfl, .inl ⟨_, rfl, _, _, rfl, rfl, (show (5 : Int) ≠ 0 by decide), pr, _, _, _, rfl, rfl, Or.inl (Or.inl here), hq1, ?_⟩⟩
        refine ⟨_, rfl, .inl ⟨_, rfl, _, rfl, _, _, rfl, rfl, n1, _, _, rfl, rfl, .inr ⟨by decide, by decide⟩, _, rfl, _, rfl, _, _, rfl, rfl, .inl ⟨by decide, by decide⟩, _, _, rfl, rfl, _, _, rfl, rfl, .inl bt, _, _, rfl, rfl, _, _, rfl, rfl, .inl ⟨_, rfl, _, rfl, _, _, rfl, rfl, n1, ?_⟩⟩⟩
        refine ⟨_, rfl, _, rfl, _, _, rfl, rfl, _, _, rfl, rfl, .inl (b1 _), .inl ⟨_, rfl, _, rfl, _, rfl, _, _, rfl, rfl, .inl ⟨_, rfl, _, _, rfl, rfl, (show (5 : Int) ≠ 0 by decide), pr, _, _, _, rfl, rfl, Or.inl (Or.inl here), hq2, _, _, rfl, rfl, n2, ?_⟩⟩⟩
        refine ⟨_, rfl, _, rfl, _, _, rfl, rfl, .inl (b2 _), _, rfl, _, _, rfl, rfl, .inl ⟨by decide, by decide⟩, _, _, rfl, rfl, _, rfl, _, _, rfl, rfl, .inl ⟨_, rfl, _, _, rfl, rfl, (show (2147483549 : Int) ≠ 0 by decide), _, _, rfl, rfl, ⟨by decide, by decide⟩, .inl ⟨_, rfl, _, rfl, _, _, rfl, rfl, ne0, ?_⟩⟩⟩
        exact k _ (t + 1) _ _ (fmM _).1 (fmM _).2 (by omega) N3 old3
/-- the pen is made of the script -/
def spPen (K : PySem.W.Frag) : Sp := fun vs H Q _ => ∃ (a : Addr) (ns : List Int), vs = [.ref a] ∧ SqL K H a (ns.map V.int) ∧ ns.length ≤ 63 ∧ ∀ (p c : Addr) (H' : Hp), H p = none → H c = none → Same H H' → PenAt H' p c ns 0 0 → Q (.ref p) H'
theorem scPen : FnScope ["_law_script"] ["_law_script"] (defScope sPen) := ⟨rfl, rfl, rfl, by decide +kernel, rfl, by decide +kernel, by decide +kernel⟩
theorem ok_pen {f : Addr} {fd : FuncData} (F : Fun K "_law_pen" "_law_pen" sPen f fd) (T : Bt mg) : FnOk P w K mg base CX0 1 f fd ["_law_script"] (spPen K) := by
  refine F.ok scPen (fun vs H Q E h => ?_) (fun cdv A outer s H vs Q E hr h => ?_)
  · obtain ⟨a, ns, rfl, _⟩ := h
    rfl
  · obtain ⟨a, ns, rfl, hS, few, k⟩ := h
    refine ⟨_, pss_one (ps_ret (pe_disp (pps_cons pe_str (pe_callTy call_list_of (by rfl) T.list (by decide +kernel) (pa_cons (pe_slice sl_list (pv 0) po_none (po_some pe_int)) pa_nil))
      (pps_cons pe_str pe_int (pps_cons pe_str pe_int pps_nil))) (by rfl) (by rfl) (fun z => by cases z) (by decide))), ?_⟩
    intro p hp
    have s0 : Same H (upd H p (.dK [])) := fun b o e => by rw [upd_ne (ne_of_none e hp)]; exact e
    refine ⟨_, rfl, _, rfl, a, _, rfl, s0.seq hS, fun q hq => ?_⟩
    refine ⟨q, _, rfl, .inl (Or.inl (Or.inl upd_same)), fun c hc => ?_⟩
    rw [cut63 ns few] at hc ⊢
    have s1 : Same (upd H p (.dK [])) (upd (upd H p (.dK [])) q (.lst (ns.map V.int))) := fun b o e => by rw [upd_ne (ne_of_none e hq)]; exact e
    have s2 : Same (upd (upd H p (.dK [])) q (.lst (ns.map V.int))) (upd (upd (upd H p (.dK [])) q (.lst (ns.map V.int))) c (.lst (ns.map V.int))) := fun b o e => by rw [upd_ne (ne_of_none e hc)]; exact e
    have hpc : (upd (upd (upd H p (.dK [])) q (.lst (ns.map V.int))) c (.lst (ns.map V.int))) p = some (.dK []) := s2 _ _ (s1 _ _ upd_same)
    have npc : c ≠ p := fun z => by
      rw [z] at hc
      rw [s1 _ _ upd_same] at hc
      cases hc
    refine ⟨hpc, [(kCe, .ref c), (kTu, .int 0), (kLe, .int 0)], rfl, (show 3 ≤ 15 by decide), ?_⟩
    rw [merge3]
    refine k p c _ hp (s0.free (s1.free hc)) (fun b o e => ?_) ⟨upd_same, ?_, few, by decide⟩
    · rw [upd_ne (ne_of_none e hp)]
      exact s2 _ _ (s1 _ _ (s0 _ _ e))
    · rw [upd_ne npc, upd_same]
def spPick (K : PySem.W.Frag) : Sp := fun vs H Q _ => ∃ (p c o : Addr) (cells : List Int) (t l : Int) (xs : List V), vs = [.ref p, .ref o] ∧ PenAt H p c cells t l ∧ t ≤ 1000000 ∧ H o = some (.lst xs) ∧ 1 ≤ xs.length ∧ xs.length ≤ 1000000 ∧
  ∀ (x : V) (t' l' : Int) (H' : Hp), x ∈ xs → t' ≤ t + 1 → PenAt H' p c cells t' l' → (∀ b o, H b = some o → b ≠ p → H' b = some o) → Q x H'
theorem scPick : FnScope ["_law_pen_here", "_law_options"] ["_law_pen_here", "_law_options"] (defScope sPick) := ⟨rfl, rfl, rfl, by decide +kernel, rfl, by decide +kernel, by decide +kernel⟩
theorem ok_pick {f fD : Addr} {fd fdD : FuncData} (F : Fun K "_law_pick" "_law_pick" sPick f fd) (T : Bt mg) (GD : FnOk P w K mg base CX0 1 fD fdD ["_law_pen_here", "_law_many"] spDraw) (mD : mg "_law_draw" = some (.ref fD)) (kD : PySem.W.keepIn K (.ref fD) = true) (bD : Binds K fdD ["_law_pen_here", "_law_many"] []) :
    FnOk P w K mg base CX0 2 f fd ["_law_pen_here", "_law_options"] (spPick K) := by
  refine F.ok scPick (fun vs H Q E h => ?_) (fun cdv A outer s H vs Q E hr h => ?_)
  · obtain ⟨p, c, o, cells, t, l, xs, rfl, _⟩ := h
    rfl
  · obtain ⟨p, c, o, cells, t, l, xs, rfl, N, ht, ho, n1, n2, k⟩ := h
    refine ⟨_, pss_one (ps_ret (pe_ix ix_list (pv 1) (pe_call GD hr (by rfl) mD kD bD .nil pass0 (pa_cons (pv 0) (pa_cons (pe_callB call_len (by rfl) T.len PySem.boot_len (pa_cons (pv 1) pa_nil)) pa_nil))) (fun _ _ => rfl))), ?_⟩
    have nop : o ≠ p := ne_of ho N.pen (by intro z; cases z)
    refine ⟨_, rfl, _, rfl, _, rfl, .ref o, xs.length, rfl, .inl ⟨_, Or.inl (Or.inl ho), rfl⟩, ?_⟩
    refine ⟨p, c, cells, t, l, xs.length, rfl, N, ht, by omega, by omega, fun r t' l' H' r0 r1 ht' N' old => ?_⟩
    have hl : r.toNat < xs.length := by omega
    refine ⟨o, xs, r, xs[r.toNat], rfl, rfl, Or.inl (Or.inl (old _ _ ho nop)), at_of (j := r.toNat) (by omega) (List.getElem?_eq_getElem hl), ?_⟩
    exact k _ t' l' H' (List.getElem_mem hl) ht' N' old
end
end LW

/-! Readings that make data: what they leave is the datum told, and all that was tracked stays. -/
namespace G
open PySem PySem.Spec L2
open PySem.W (Frag)
def Dt (K : Frag) (te : TE) (d : PyData) : Prop := ∀ (σ : L2.St) (H : Hp) (Q : VK), (∀ v H', Same H H' → Da K H' v d → Q v H') → te σ H Q
def DtAll (K : Frag) (ta : TA) (ds : List PyData) : Prop := ∀ (σ : L2.St) (H : Hp) (Q : List V → Hp → Prop), (∀ xs H', Same H H' → DaAll K H' xs ds → Q xs H') → ta σ H Q
theorem same_new {H : Hp} {p : Addr} {o : HO} (h : H p = none) : Same H (upd H p o) := fun b u e => by
  rw [upd_ne (ne_of_none e h)]
  exact e
theorem DaAll.length {K : Frag} {H : Hp} : ∀ {xs : List V} {ds : List PyData}, DaAll K H xs ds → xs.length = ds.length
  | _, _, .nil => rfl
  | _, _, .cons _ t => congrArg Nat.succ (DaAll.length t)
theorem DaAll.append {K : Frag} {H : Hp} : ∀ {xs ys : List V} {ds es : List PyData}, DaAll K H xs ds → DaAll K H ys es → DaAll K H (xs ++ ys) (ds ++ es)
  | _, _, _, _, .nil, h => h
  | _, _, _, _, .cons a t, h => .cons a (DaAll.append t h)
theorem DaAll.mem {K : Frag} {H : Hp} : ∀ {xs : List V} {ds : List PyData} {x : V}, DaAll K H xs ds → x ∈ xs → ∃ d ∈ ds, Da K H x d
  | _, _, _, .nil, h => (List.not_mem_nil h).elim
  | _, _, _, .cons a t, h => by
    rcases List.mem_cons.mp h with rfl | h
    · exact ⟨_, List.mem_cons_self, a⟩
    · obtain ⟨d, h1, h2⟩ := DaAll.mem t h
      exact ⟨d, List.mem_cons_of_mem _ h1, h2⟩
section
variable {K : Frag} {te : TE} {ta : TA} {d : PyData} {ds : List PyData}
theorem dt_non : Dt K (tC .non) .none := fun σ H Q h => h _ H (Same.refl H) .non
theorem dt_bl {b : Bool} : Dt K (tC (.bl b)) (.bool b) := fun σ H Q h => h _ H (Same.refl H) (.bl b)
theorem dt_int {i : Int} : Dt K (tC (.int i)) (.int i) := fun σ H Q h => h _ H (Same.refl H) (.int i)
theorem dt_str {x : Str} : Dt K (tC (.str x)) (.str x) := fun σ H Q h => h _ H (Same.refl H) (.str x)
theorem dta_nil : DtAll K tNil [] := fun σ H Q h => h [] H (Same.refl H) .nil
theorem dta_cons (a : Dt K te d) (b : DtAll K ta ds) : DtAll K (tCons te ta) (d :: ds) := fun σ H Q h => by
  refine a σ H _ fun v H1 s1 h1 => ?_
  refine b σ H1 _ fun xs H2 s2 h2 => ?_
  exact h _ H2 (s1.trans s2) (.cons (h1.same s2) h2)
theorem dt_tup (a : DtAll K ta ds) (few : ds.length ≤ 1000 := by simp) : Dt K (tTup ta) (.tuple ds) := fun σ H Q h => by
  refine a σ H _ fun xs H1 s1 h1 => ⟨?_, fun p hp => ?_⟩
  · rw [h1.length, sizeLine_eq]
    omega
  · exact h _ _ (s1.trans (same_new hp)) (.tup (Or.inl (Or.inl upd_same)) (h1.same (same_new hp)))
theorem dt_lst (a : DtAll K ta ds) (few : ds.length ≤ 1000 := by simp) : Dt K (tLstS ta) (.list ds) := fun σ H Q h => by
  refine a σ H _ fun xs H1 s1 h1 => ⟨?_, fun p hp np => ?_⟩
  · rw [h1.length, sizeLine_eq]
    omega
  · exact h _ _ (s1.trans (same_new hp)) (.lst np (Or.inl (Or.inl upd_same)) (h1.same (same_new hp)))
end
end G

/-! Data stay when one dict of three entries is written. -/
namespace G
open PySem PySem.Spec L2
open PySem.W (Frag)
mutual
def nd3 : PyData → Bool
  | .none | .bool _ | .int _ | .str _ => true
  | .list xs | .tuple xs => nd3All xs
  | .dict kvs => !decide (kvs.length = 3) && nd3Kv kvs
def nd3All : List PyData → Bool
  | [] => true
  | x :: xs => nd3 x && nd3All xs
def nd3Kv : List (PyData × PyData) → Bool
  | [] => true
  | (k, v) :: r => nd3 k && nd3 v && nd3Kv r
end
theorem nd3Kv_split : ∀ {kvs : List (PyData × PyData)}, nd3Kv kvs = true → nd3All (kvs.map (·.1)) = true ∧ nd3All (kvs.map (·.2)) = true
  | [], _ => by simp [nd3All]
  | (k, v) :: r, h => by
    have h2 : (nd3 k = true ∧ nd3 v = true) ∧ nd3Kv r = true := by simpa [nd3Kv] using h
    obtain ⟨a, b⟩ := nd3Kv_split h2.2
    simp [nd3All, h2.1.1, h2.1.2, a, b]
section
variable {K : Frag} {H H' : Hp} {p : Addr} {kvp : List (Key × V)}
mutual
theorem Da.but (hp : H p = some (.dK kvp)) (n3 : kvp.length = 3) (e : ∀ b o, H b = some o → b ≠ p → H' b = some o) : ∀ {v : V} {d : PyData}, Da K H v d → nd3 d = true → Da K H' v d
  | _, _, .non, _ => .non
  | _, _, .bl b, _ => .bl b
  | _, _, .int i, _ => .int i
  | _, _, .str x, _ => .str x
  | _, _, .lst n s a, h => .lst n (by
      rcases s with (s | ⟨o, s⟩) | s
      · exact .inl (.inl (e _ _ s (ne_of s hp (by intro z; cases z))))
      · exact .inl (.inr ⟨o, e _ _ s (ne_of s hp (by intro z; cases z))⟩)
      · exact .inr s) (DaAll.but hp n3 e a (by simpa [nd3] using h))
  | _, _, .tup s a, h => .tup (by
      rcases s with (s | ⟨o, s⟩) | s
      · exact .inl (.inl (e _ _ s (ne_of s hp (by intro z; cases z))))
      · exact .inl (.inr ⟨o, e _ _ s (ne_of s hp (by intro z; cases z))⟩)
      · exact .inr s) (DaAll.but hp n3 e a (by simpa [nd3] using h))
  | _, _, .dct (kvs := kvs) (ds := ds) s a b, h => by
    have h2 : ¬ ds.length = 3 ∧ nd3Kv ds = true := by simpa [nd3] using h
    obtain ⟨h3, h4⟩ := nd3Kv_split h2.2
    refine .dct (e _ _ s fun z => h2.1 ?_) (DaAll.but hp n3 e a h3) (DaAll.but hp n3 e b h4)
    have l := b.length
    rw [z, hp] at s
    cases s
    rw [List.length_map, List.length_map] at l
    omega
theorem DaAll.but (hp : H p = some (.dK kvp)) (n3 : kvp.length = 3) (e : ∀ b o, H b = some o → b ≠ p → H' b = some o) : ∀ {vs : List V} {ds : List PyData}, DaAll K H vs ds → nd3All ds = true → DaAll K H' vs ds
  | _, _, .nil, _ => .nil
  | _, _, .cons (d := d) (ds := ds) h t, z => by
    have z2 : nd3 d = true ∧ nd3All ds = true := by simpa [nd3All] using z
    exact .cons (Da.but hp n3 e h z2.1) (DaAll.but hp n3 e t z2.2)
end
end
end G

/-! What the laws draw: a sign of a text, a great number, a day, a stretch, a chain. -/
namespace LW
open PySem L2 G
abbrev sGreat : Stmt := top 41
abbrev sSpot : Stmt := top 47
abbrev sSpan : Stmt := top 48
abbrev sChain : Stmt := top 49
/-- all but the pen stays as it was -/
def Old (p : Addr) (H H' : Hp) : Prop := ∀ b o, H b = some o → b ≠ p → H' b = some o
theorem Old.refl {p : Addr} {H : Hp} : Old p H H := fun _ _ e _ => e
theorem Old.trans {p : Addr} {H H1 H2 : Hp} (a : Old p H H1) (b : Old p H1 H2) : Old p H H2 := fun q o e n => b q o (a q o e n) n
theorem Same.old {p : Addr} {H H' : Hp} (s : Same H H') : Old p H H' := fun q o e _ => s q o e
def spPickS : Sp := fun vs H Q _ => ∃ (p c : Addr) (cells : List Int) (t l : Int) (z : Str), vs = [.ref p, .str z] ∧ PenAt H p c cells t l ∧ t ≤ 1000000 ∧ 1 ≤ z.length ∧ z.length ≤ 1000000 ∧
  ∀ (x : Nat) (t' l' : Int) (H' : Hp), x ∈ z.cps.toList → t' ≤ t + 1 → PenAt H' p c cells t' l' → Old p H H' → Q (.str ⟨#[x]⟩) H'
def spGreat : Sp := fun vs H Q _ => ∃ (p c : Addr) (cells : List Int) (t l d : Int), vs = [.ref p, .int d] ∧ PenAt H p c cells t l ∧ 0 ≤ d ∧ t + d ≤ 1000000 ∧
  ∀ (r t' l' : Int) (H' : Hp), 0 ≤ r → r < 10 ^ d.toNat → t' ≤ t + d → PenAt H' p c cells t' l' → Old p H H' → Q (.int r) H'
def spSpot : Sp := fun vs H Q _ => ∃ (p c : Addr) (cells : List Int) (t l : Int), vs = [.ref p] ∧ PenAt H p c cells t l ∧ t ≤ 900000 ∧
  ∀ (r t' l' : Int) (H' : Hp), 0 ≤ r → r ≤ 10 ^ 30 → t' ≤ t + 32 → PenAt H' p c cells t' l' → Old p H H' → Q (.int r) H'
def spSpan : Sp := fun vs H Q _ => ∃ (p c : Addr) (cells : List Int) (t l : Int), vs = [.ref p] ∧ PenAt H p c cells t l ∧ t ≤ 800000 ∧
  ∀ (q : Addr) (a b t' l' : Int) (H' : Hp), 0 ≤ a → a ≤ b → b ≤ 10 ^ 30 → H' q = some (.tup [.int a, .int b]) → q ≠ p → t' ≤ t + 64 → PenAt H' p c cells t' l' → Old p H H' → Q (.ref q) H'
section
variable {P : Program} {w : World} {K : PySem.W.Frag} {mg : Str → Option Value} {base : Heap}
variable {fD fK fG fS : Addr} {fdD fdK fdG fdS : FuncData}
theorem ok_pickS {f : Addr} {fd : FuncData} (F : Fun K "_law_pick" "_law_pick" sPick f fd) (T : Bt mg) (GD : FnOk P w K mg base CX0 1 fD fdD ["_law_pen_here", "_law_many"] spDraw) (mD : mg "_law_draw" = some (.ref fD)) (kD : PySem.W.keepIn K (.ref fD) = true) (bD : Binds K fdD ["_law_pen_here", "_law_many"] []) :
    FnOk P w K mg base CX0 2 f fd ["_law_pen_here", "_law_options"] spPickS := by
  refine F.ok scPick (fun vs H Q E h => ?_) (fun cdv A outer s H vs Q E hr h => ?_)
  · obtain ⟨p, c, cells, t, l, z, rfl, _⟩ := h
    rfl
  · obtain ⟨p, c, cells, t, l, z, rfl, N, ht, n1, n2, k⟩ := h
    have hz : z.length ≤ sizeLine := by rw [sizeLine_eq]; omega
    refine ⟨_, pss_one (ps_ret (pe_ix ix_str (pv 1) (pe_call GD hr (by rfl) mD kD bD .nil pass0 (pa_cons (pv 0) (pa_cons (pe_callB call_len (by rfl) T.len PySem.boot_len (pa_cons (pv 1) pa_nil)) pa_nil))) (fun _ _ => rfl))), ?_⟩
    refine ⟨_, rfl, _, rfl, _, rfl, .str z, z.length, rfl, ⟨hz, rfl⟩, ?_⟩
    refine ⟨p, c, cells, t, l, z.length, rfl, N, ht, by omega, by omega, fun r t' l' H' r0 r1 ht' N' old => ?_⟩
    have el : z.cps.toList.length = z.length := by simp [Str.length]
    have hl : r.toNat < z.cps.toList.length := by omega
    have ha : atI z.cps.toList ((r.toNat : Nat) : Int) = some z.cps.toList[r.toNat] := atI_nat (List.getElem?_eq_getElem hl)
    rw [show ((r.toNat : Nat) : Int) = r by omega] at ha
    refine ⟨z, r, _, rfl, rfl, hz, ha, ?_⟩
    exact k _ t' l' H' (List.getElem_mem hl) ht' N' old
theorem scGreat : FnScope ["_law_pen_here", "_law_digits", "_law_found", "_law_k"] ["_law_pen_here", "_law_digits"] (defScope sGreat) := ⟨rfl, rfl, rfl, by decide +kernel, rfl, by decide +kernel, by decide +kernel⟩
theorem ok_great {f : Addr} {fd : FuncData} (F : Fun K "_law_great" "_law_great" sGreat f fd) (R : mg "range" = none) (GD : FnOk P w K mg base CX0 1 fD fdD ["_law_pen_here", "_law_many"] spDraw) (mD : mg "_law_draw" = some (.ref fD)) (kD : PySem.W.keepIn K (.ref fD) = true) (bD : Binds K fdD ["_law_pen_here", "_law_many"] []) :
    FnOk P w K mg base CX0 2 f fd ["_law_pen_here", "_law_digits"] spGreat := by
  refine F.ok scGreat (fun vs H Q E h => ?_) (fun cdv A outer s H vs Q E hr h => ?_)
  · obtain ⟨p, c, cells, t, l, d, rfl, _⟩ := h
    rfl
  · obtain ⟨p, c, cells, t, l, d, rfl, N, d0, hd, k⟩ := h
    refine ⟨_, pss_cons (ps_set (i := 2) scGreat.nd rfl (Or.inl rfl) pe_int)
      (pss_cons (ps_for PassesOwn.never rfl (pi_range1 rfl R (pa_cons (pv 1) pa_nil)) (pg_name (i := 3) scGreat.nd rfl (Or.inl rfl))
        (pss_one (ps_set (i := 2) scGreat.nd rfl (Or.inl rfl) (pe_op op_add (pe_op op_mul pe_int (pv 2)) (pe_call GD hr (by rfl) mD kD bD .nil pass0 (pa_cons (pv 0) (pa_cons pe_int pa_nil)))))))
      (pss_one (ps_ret (pv 2)))), ?_⟩
    have t0 := N.t0
    refine ⟨_, rfl, d, rfl, by omega, by omega, ?_⟩
    refine for_range (n := d.toNat) (fun i σ G => ∃ (g : Int) (v3 : Option V), σ = [some (.ref p), some (.int d), some (.int g), v3] ∧ ∃ t1 l1 : Int, PenAt G p c cells t1 l1 ∧ t1 ≤ t + i ∧ 0 ≤ g ∧ g < 10 ^ i ∧ Old p H G)
      ⟨0, _, rfl, t, l, N, by omega, by omega, by decide, Old.refl⟩ (fun i σ G hi h => ?_) (fun σ G h => ?_)
    · obtain ⟨g, v3, rfl, t1, l1, N1, ht1, g0, g1, old⟩ := h
      refine ⟨_, rfl, _, _, rfl, rfl, .inl ⟨by decide, by decide⟩, _, rfl, ?_⟩
      refine ⟨p, c, cells, t1, l1, 10, rfl, N1, by omega, by omega, by omega, fun r t2 l2 G2 r0 r1 ht2 N2 old2 => ?_⟩
      refine ⟨_, _, rfl, rfl, ?_⟩
      have e := Int.pow_succ (10 : Int) i
      exact ⟨10 * g + r, _, rfl, t2, l2, N2, by omega, by omega, by omega, Old.trans old old2⟩
    · obtain ⟨g, v3, rfl, t1, l1, N1, ht1, g0, g1, old⟩ := h
      exact ⟨_, rfl, k g t1 l1 G g0 g1 (by omega) N1 old⟩
theorem scSpot : FnScope ["_law_pen_here", "_law_small"] ["_law_pen_here"] (defScope sSpot) := ⟨rfl, rfl, rfl, by decide +kernel, rfl, by decide +kernel, by decide +kernel⟩
theorem ok_spot {f : Addr} {fd : FuncData} (F : Fun K "_law_spot" "_law_spot" sSpot f fd) (GD : FnOk P w K mg base CX0 1 fD fdD ["_law_pen_here", "_law_many"] spDraw) (mD : mg "_law_draw" = some (.ref fD)) (kD : PySem.W.keepIn K (.ref fD) = true) (bD : Binds K fdD ["_law_pen_here", "_law_many"] [])
    (GK : FnOk P w K mg base CX0 2 fK fdK ["_law_pen_here", "_law_options"] (spPick K)) (mK : mg "_law_pick" = some (.ref fK)) (kK : PySem.W.keepIn K (.ref fK) = true) (bK : Binds K fdK ["_law_pen_here", "_law_options"] [])
    (GG : FnOk P w K mg base CX0 2 fG fdG ["_law_pen_here", "_law_digits"] spGreat) (mG : mg "_law_great" = some (.ref fG)) (kG : PySem.W.keepIn K (.ref fG) = true) (bG : Binds K fdG ["_law_pen_here", "_law_digits"] []) :
    FnOk P w K mg base CX0 3 f fd ["_law_pen_here"] spSpot := by
  refine F.ok scSpot (fun vs H Q E h => ?_) (fun cdv A outer s H vs Q E hr h => ?_)
  · obtain ⟨p, c, cells, t, l, rfl, _⟩ := h
    rfl
  · obtain ⟨p, c, cells, t, l, rfl, N, ht, k⟩ := h
    refine ⟨_, pss_cons (ps_set (i := 1) scSpot.nd rfl (Or.inl rfl) (pe_call GD (hr.mono (by decide)) (by rfl) mD kD bD .nil pass0 (pa_cons (pv 0) (pa_cons pe_int pa_nil))))
      (pss_one (ps_ret (pe_call GK hr (by rfl) mK kK bK .nil pass0 (pa_cons (pv 0) (pa_cons (pe_lst (pa_cons (pv 1) (pa_cons (pv 1) (pa_cons (pv 1) (pa_cons (pv 1) (pa_cons pe_int (pa_cons (pe_op op_pow pe_int pe_int) (pa_cons (pe_op op_sub (pe_op op_pow pe_int pe_int) pe_int)
        (pa_cons (pe_call GG hr (by rfl) mG kG bG .nil pass0 (pa_cons (pv 0) (pa_cons pe_int pa_nil))) pa_nil))))))))) pa_nil))))), ?_⟩
    have pw : (0 : Int) ≤ 30 ∧ (30 : Int) ≤ 1000000 ∧ (10 : Int).natAbs < 2 ^ 64 := ⟨by decide, by decide, by decide⟩
    refine ⟨_, rfl, p, c, cells, t, l, 12, rfl, N, by omega, by omega, by omega, fun r t1 l1 H1 r0 r1 ht1 N1 old1 => ?_⟩
    refine ⟨_, rfl, _, rfl, _, rfl, _, rfl, _, rfl, _, _, rfl, rfl, pw, _, _, rfl, rfl, pw, _, _, rfl, rfl, _, rfl, ?_⟩
    refine ⟨p, c, cells, t1, l1, 30, rfl, N1, by omega, by omega, fun g t2 l2 H2 g0 g1 ht2 N2 old2 => ?_⟩
    refine ⟨(by show 8 ≤ sizeLine; decide), fun q hq => ?_⟩
    have s3 := same_new (o := .lst [V.int r, .int r, .int r, .int r, .int 0, .int (10 ^ 30), .int (10 ^ 30 - 1), .int g]) hq
    refine ⟨p, c, q, cells, t2, l2, _, rfl, N2.same s3, by omega, upd_same, by simp, by simp, fun x t' l' H' hx ht' N' old => ?_⟩
    have hb : ∃ y : Int, x = .int y ∧ 0 ≤ y ∧ y ≤ 10 ^ 30 := by
      have e30 : (10 : Int) ^ (30 : Int).toNat = 10 ^ 30 := rfl
      rw [e30] at g1
      have big : (12 : Int) ≤ 10 ^ 30 := by decide +kernel
      have bg1 : (0 : Int) ≤ 10 ^ 30 - 1 := by decide +kernel
      simp only [List.mem_cons, List.not_mem_nil, or_false] at hx
      rcases hx with rfl | rfl | rfl | rfl | rfl | rfl | rfl | rfl
      · exact ⟨r, rfl, r0, by omega⟩
      · exact ⟨r, rfl, r0, by omega⟩
      · exact ⟨r, rfl, r0, by omega⟩
      · exact ⟨r, rfl, r0, by omega⟩
      · exact ⟨0, rfl, by omega, by omega⟩
      · exact ⟨_, rfl, by omega, by omega⟩
      · exact ⟨_, rfl, by omega, by omega⟩
      · exact ⟨g, rfl, g0, by omega⟩
    obtain ⟨y, rfl, y0, y1⟩ := hb
    exact k y t' l' H' y0 y1 (by omega) N' (Old.trans old1 (Old.trans old2 (Old.trans (Same.old s3) old)))
theorem scSpan : FnScope ["_law_pen_here", "_law_first", "_law_last"] ["_law_pen_here"] (defScope sSpan) := ⟨rfl, rfl, rfl, by decide +kernel, rfl, by decide +kernel, by decide +kernel⟩
theorem ok_span {f : Addr} {fd : FuncData} (F : Fun K "_law_span" "_law_span" sSpan f fd) (Mi : mg "min" = none) (Ma : mg "max" = none)
    (GS : FnOk P w K mg base CX0 3 fS fdS ["_law_pen_here"] spSpot) (mS : mg "_law_spot" = some (.ref fS)) (kS : PySem.W.keepIn K (.ref fS) = true) (bS : Binds K fdS ["_law_pen_here"] []) :
    FnOk P w K mg base CX0 4 f fd ["_law_pen_here"] spSpan := by
  refine F.ok scSpan (fun vs H Q E h => ?_) (fun cdv A outer s H vs Q E hr h => ?_)
  · obtain ⟨p, c, cells, t, l, rfl, _⟩ := h
    rfl
  · obtain ⟨p, c, cells, t, l, rfl, N, ht, k⟩ := h
    refine ⟨_, pss_cons (ps_par (i := 1) (j := 2) (by rfl) scSpan.nd rfl rfl (by decide) rfl rfl (pa_cons (pe_call GS hr (by rfl) mS kS bS .nil pass0 (pa_cons (pv 0) pa_nil)) (pa_cons (pe_call GS hr (by rfl) mS kS bS .nil pass0 (pa_cons (pv 0) pa_nil)) pa_nil)) (by rfl))
      (pss_one (ps_ret (pe_tup (pa_cons (pe_callB (call_min2 rfl) (by rfl) Mi (by decide +kernel) (pa_cons (pv 1) (pa_cons (pv 2) pa_nil))) (pa_cons (pe_callB (call_max2 rfl) (by rfl) Ma (by decide +kernel) (pa_cons (pv 1) (pa_cons (pv 2) pa_nil))) pa_nil))))), ?_⟩
    refine ⟨_, rfl, p, c, cells, t, l, rfl, N, by omega, fun x t1 l1 H1 x0 x1 ht1 N1 old1 => ?_⟩
    refine ⟨_, rfl, p, c, cells, t1, l1, rfl, N1, by omega, fun y t2 l2 H2 y0 y1 ht2 N2 old2 => ?_⟩
    refine ⟨_, _, rfl, ?_⟩
    refine ⟨_, rfl, _, rfl, _, _, rfl, _, rfl, _, rfl, _, _, rfl, (by show 2 ≤ sizeLine; decide), fun q hq => ?_⟩
    have s3 := same_new (o := .tup [V.int (if y < x then y else x), .int (if y > x then y else x)]) hq
    refine k q _ _ t2 l2 _ ?_ ?_ ?_ upd_same (fun z => ?_) (by omega) (N2.same s3) (Old.trans old1 (Old.trans old2 (Same.old s3)))
    · split <;> omega
    · split <;> split <;> omega
    · split <;> omega
    · rw [z, N2.pen] at hq
      cases hq
end
end LW

/-! A drawn chain: a tuple of a person and of at most so many names. -/
namespace LW
open PySem L2 G
def spChain : Sp := fun vs H Q _ => ∃ (p c o1 o2 : Addr) (cells : List Int) (t l top : Int) (people words : List Str), vs = [.ref p, .ref o1, .ref o2, .int top] ∧ PenAt H p c cells t l ∧ t ≤ 800000 ∧ 0 ≤ top ∧ top ≤ 1000 ∧
  H o1 = some (.lst (people.map V.str)) ∧ H o2 = some (.lst (words.map V.str)) ∧ 1 ≤ people.length ∧ people.length ≤ 1000 ∧ 1 ≤ words.length ∧ words.length ≤ 1000 ∧
  ∀ (q : Addr) (x : Str) (ws : List Str) (t' l' : Int) (H' : Hp), x ∈ people → (∀ y ∈ ws, y ∈ words) → (ws.length : Int) ≤ top → H' q = some (.tup ((x :: ws).map V.str)) → H q = none → t' ≤ t + 2 + top → PenAt H' p c cells t' l' → Old p H H' → Q (.ref q) H'
section
variable {P : Program} {w : World} {K : PySem.W.Frag} {mg : Str → Option Value} {base : Heap}
variable {fD fK : Addr} {fdD fdK : FuncData}
theorem scChain : FnScope ["_law_pen_here", "_law_people", "_law_words_here", "_law_top", "_law_many", "_law_k"] ["_law_pen_here", "_law_people", "_law_words_here", "_law_top"] (defScope sChain) := ⟨rfl, rfl, rfl, by decide +kernel, rfl, by decide +kernel, by decide +kernel⟩
theorem Old.free {p q : Addr} {H H' : Hp} (a : Old p H H') (hp : H' p ≠ none) (h : H' q = none) : H q = none := by
  by_cases e : q = p
  · rw [e] at h
    exact absurd h hp
  · cases z : H q with
    | none => rfl
    | some o => rw [a q o z e] at h; cases h
theorem PenAt.some {H : Hp} {p c : Addr} {cells : List Int} {t l : Int} (N : PenAt H p c cells t l) : H p ≠ none := by rw [N.pen]; intro z; cases z
theorem PenAt.ne {H : Hp} {p c q : Addr} {cells : List Int} {t l : Int} (N : PenAt H p c cells t l) (h : H q = none) : q ≠ p := fun z => by
  rw [z, N.pen] at h
  cases h
theorem mem_map_str {l : List Str} {v : V} (h : v ∈ l.map V.str) : ∃ z, v = .str z ∧ z ∈ l := by
  obtain ⟨z, hz, e⟩ := List.mem_map.mp h
  exact ⟨z, e.symm, hz⟩
theorem ok_chain {f : Addr} {fd : FuncData} (F : Fun K "_law_chain" "_law_chain" sChain f fd) (R : mg "range" = none) (Tu : mg "tuple" = none)
    (GD : FnOk P w K mg base CX0 1 fD fdD ["_law_pen_here", "_law_many"] spDraw) (mD : mg "_law_draw" = some (.ref fD)) (kD : PySem.W.keepIn K (.ref fD) = true) (bD : Binds K fdD ["_law_pen_here", "_law_many"] [])
    (GK : FnOk P w K mg base CX0 2 fK fdK ["_law_pen_here", "_law_options"] (spPick K)) (mK : mg "_law_pick" = some (.ref fK)) (kK : PySem.W.keepIn K (.ref fK) = true) (bK : Binds K fdK ["_law_pen_here", "_law_options"] []) :
    FnOk P w K mg base CX0 3 f fd ["_law_pen_here", "_law_people", "_law_words_here", "_law_top"] spChain := by
  refine F.ok scChain (fun vs H Q E h => ?_) (fun cdv A outer s H vs Q E hr h => ?_)
  · obtain ⟨p, c, o1, o2, cells, t, l, top, people, words, rfl, _⟩ := h
    rfl
  · obtain ⟨p, c, o1, o2, cells, t, l, top, people, words, rfl, N, ht, tp0, tp1, ho1, ho2, pl1, pl2, wl1, wl2, k⟩ := h
    refine ⟨_, pss_cons (ps_set (i := 4) scChain.nd rfl (Or.inl rfl) (pe_call GD (hr.mono (by decide)) (by rfl) mD kD bD .nil pass0 (pa_cons (pv 0) (pa_cons (pe_op op_add (pv 3) pe_int) pa_nil))))
      (pss_one (ps_ret (pe_op op_catT (pe_tup (pa_cons (pe_call GK hr (by rfl) mK kK bK .nil pass0 (pa_cons (pv 0) (pa_cons (pv 1) pa_nil))) pa_nil))
        (pe_callTy call_tuple_of (by rfl) Tu (by decide +kernel) (pa_cons (pe_lc (own := [("_law_k", 5)]) (g := gName 5) (tt := tYes) rfl scChain.nd (pi_range1 rfl R (pa_cons (pv 4) pa_nil))
          (blkOk_by (own := [("_law_k", 5)]) (N := ["_law_pen_here", "_law_people", "_law_words_here", "_law_top", "_law_many", "_law_k"]) (sc := defScope sChain) (by decide +kernel))
          (fun _ _ _ _ _ => pg_name (i := 5) scChain.nd rfl (Or.inl rfl)) (fun _ _ _ _ _ => pts_nil) (fun _ _ _ _ _ => pe_call GK hr (by rfl) mK kK bK .nil pass0 (pa_cons (pv 0) (pa_cons (pv 2) pa_nil)))) pa_nil))))), ?_⟩
    have n1 : o1 ≠ p := ne_of ho1 N.pen (by intro z; cases z)
    have n2 : o2 ≠ p := ne_of ho2 N.pen (by intro z; cases z)
    have t0 := N.t0
    refine ⟨_, rfl, _, rfl, _, _, rfl, rfl, p, c, cells, t, l, top + 1, rfl, N, by omega, by omega, by omega, fun r t1 l1 H1 r0 r1 ht1 N1 old1 => ?_⟩
    refine ⟨_, rfl, _, rfl, p, c, o1, cells, t1, l1, _, rfl, N1, by omega, old1 _ _ ho1 n1, by simpa using pl1, by rw [List.length_map]; omega, fun x t2 l2 H2 hx ht2 N2 old2 => ?_⟩
    obtain ⟨px, rfl, hpx⟩ := mem_map_str hx
    refine ⟨(by show 1 ≤ sizeLine; decide), fun q1 hq1 => ?_⟩
    have s3 := same_new (o := .tup [V.str px]) hq1
    have N3 := N2.same s3
    have O3 : Old p H _ := Old.trans old1 (Old.trans old2 (Same.old s3))
    have g1 : (upd H2 q1 (.tup [V.str px])) q1 = some (.tup [V.str px]) := upd_same
    have np1 : q1 ≠ p := N2.ne hq1
    revert N3 O3 g1
    generalize (upd H2 q1 (.tup [V.str px])) = H3
    intro N3 O3 g1
    refine ⟨_, rfl, r, rfl, by omega, by omega, fun D hD => ?_⟩
    have s4 := same_new (o := .lst []) hD
    have npD := N3.ne hD
    refine lc_range (n := r.toNat) (fun i G => ∃ ws : List Str, ws.length = i ∧ (∀ y ∈ ws, y ∈ words) ∧ G D = some (.lst (ws.map V.str)) ∧ ∃ t5 l5 : Int, PenAt G p c cells t5 l5 ∧ t5 ≤ t2 + i ∧ Old p H3 G)
      ⟨[], rfl, by simp, upd_same, t2, l2, N3.same s4, by omega, Same.old s4⟩ (fun i G hi h => ?_) (fun G h => ?_)
    · obtain ⟨ws, wl, wm, gD, t5, l5, N5, ht5, O5⟩ := h
      refine ⟨rfl, _, rfl, _, rfl, p, c, o2, cells, t5, l5, _, rfl, N5, by omega, O5 _ _ (O3 _ _ ho2 n2) n2, by simpa using wl1, by rw [List.length_map]; omega, fun x t6 l6 G6 hx ht6 N6 old6 => ?_⟩
      obtain ⟨y, rfl, hy⟩ := mem_map_str hx
      refine ⟨_, old6 _ _ gD npD, by rw [List.length_map, sizeLine_eq]; omega, ?_⟩
      refine ⟨ws ++ [y], by simp [wl], fun z hz => ?_, by rw [upd_same, List.map_append]; rfl, t6, l6, ?_, by omega, ?_⟩
      · rcases List.mem_append.mp hz with hz | hz
        · exact wm z hz
        · rw [List.mem_singleton.mp hz]
          exact hy
      · exact ⟨by rw [upd_ne npD.symm]; exact N6.pen, by rw [upd_ne (ne_of_none N3.lst hD)]; exact N6.lst, N6.few, N6.t0⟩
      · exact fun b o e nb => by rw [upd_ne (ne_of_none e hD)]; exact old6 _ _ (O5 _ _ e nb) nb
    · obtain ⟨ws, wl, wm, gD, t5, l5, N5, ht5, O5⟩ := h
      refine ⟨D, ws.map V.str, rfl, .inl ⟨SqL.of gD, fun q2 hq2 => ?_⟩⟩
      have s6 := same_new (o := .tup (ws.map V.str)) hq2
      have O6 : Old p H _ := Old.trans O3 (Old.trans O5 (Same.old s6))
      have fr : ∀ q, H3 q = none → H q = none := fun q hq => O3.free N3.some hq
      refine ⟨q1, q2, _, _, rfl, rfl, SqT.of (s6 _ _ (O5 _ _ g1 np1)), SqT.of upd_same, by simp, by rw [List.length_map, sizeLine_eq]; simp; omega, fun e => ?_, fun e q3 hq3 => ?_⟩
      · have e0 : ws = [] := List.map_eq_nil_iff.mp e
        refine k q1 px [] t5 l5 _ hpx (by simp) (by simpa using tp0) (s6 _ _ (O5 _ _ g1 np1)) ?_ (by omega) (N5.same s6) O6
        exact Old.free (Old.trans old1 old2) N2.some hq1
      · have s7 := same_new (o := .tup ([V.str px] ++ ws.map V.str)) hq3
        refine k q3 px ws t5 l5 _ hpx wm (by omega) upd_same ?_ (by omega) ((N5.same s6).same s7) (Old.trans O6 (Same.old s7))
        exact Old.free O6 (N5.same s6).some hq3
end
end LW

/-! Drawn words: alike but for one letter, all unlike. -/
namespace LW
open PySem L2 G
abbrev sWords : Stmt := top 42
def letters : Str := Str.ofString "abcdefghijklmnopqrstuvwxyz"
theorem letters_list : letters.cps.toList = List.range' 97 26 := by decide +kernel
theorem letters_len : letters.length = 26 := by decide +kernel
def LetterQ (c : Nat) : Prop := 97 ≤ c ∧ c ≤ 122
theorem letter_mem {c : Nat} (h : c ∈ letters.cps.toList) : LetterQ c := by
  rw [letters_list, List.mem_range'_1] at h
  exact ⟨h.1, by omega⟩
theorem letter_at {i : Int} (h0 : 0 ≤ i) (h1 : i < 26) : atI letters.cps.toList i = some (97 + i.toNat) := by
  have e : atI letters.cps.toList ((i.toNat : Nat) : Int) = some (97 + i.toNat) := by
    refine atI_nat ?_
    rw [letters_list, List.getElem?_range' (by omega)]
    simp
  rw [show ((i.toNat : Nat) : Int) = i by omega] at e
  exact e
theorem join_list : ∀ l : List Str, (Str.join (Str.ofString "") l).cps.toList = (l.map (·.cps.toList)).flatten
  | [] => rfl
  | [a] => by simp [Str.join]
  | a :: b :: r => by
    have e : (Str.ofString "").cps.toList = [] := by decide +kernel
    have h := join_list (b :: r)
    simp only [List.map_cons, List.flatten_cons] at h ⊢
    rw [← h]
    show (a ++ Str.ofString "" ++ Str.join (Str.ofString "") (b :: r)).cps.toList = _
    rw [PyProof.Rows.cps_toList_append, PyProof.Rows.cps_toList_append, e, List.append_nil]
def WordQ (y : Str) : Prop := 1 ≤ y.length ∧ y.length ≤ 6 ∧ ∀ c ∈ y.cps.toList, LetterQ c
/-- the word with this letter put into the stem -/
def wordAt (stem : Str) (at' f st : Int) (k : Nat) : Str := cutS stem none (some at') ++ ⟨#[97 + ((f + st * k).fmod 26).toNat]⟩ ++ cutS stem (some at') none
theorem sIx_at {n : Nat} {i : Int} (h0 : 0 ≤ i) (h1 : i ≤ n) (d : Nat) : HT.sIx n d (some i) = i.toNat := by
  have e := HT.sIx_nat n d i.toNat
  rw [show ((i.toNat : Nat) : Int) = i by omega] at e
  rw [e]
  omega
theorem len_list (y : Str) : y.cps.toList.length = y.length := by simp [Str.length]
theorem front_list {z : Str} {i : Int} (h0 : 0 ≤ i) (h1 : i ≤ z.length) : (cutS z none (some i)).cps.toList = z.cps.toList.take i.toNat := by
  have e0 : HT.sIx z.length 0 none = 0 := rfl
  show ((z.cps.toList.drop (HT.sIx z.length 0 none)).take (HT.sIx z.length z.length (some i) - HT.sIx z.length 0 none)).toArray.toList = _
  rw [e0, sIx_at h0 h1, List.drop_zero, Nat.sub_zero]
theorem back_list {z : Str} {i : Int} (h0 : 0 ≤ i) (h1 : i ≤ z.length) : (cutS z (some i) none).cps.toList = z.cps.toList.drop i.toNat := by
  have e0 : HT.sIx z.length z.length none = z.length := rfl
  show ((z.cps.toList.drop (HT.sIx z.length 0 (some i))).take (HT.sIx z.length z.length none - HT.sIx z.length 0 (some i))).toArray.toList = _
  rw [e0, sIx_at h0 h1]
  show (z.cps.toList.drop i.toNat).take (z.length - i.toNat) = _
  refine List.take_of_length_le ?_
  rw [List.length_drop, len_list]
  exact Nat.le_refl _
theorem wordAt_list {z : Str} {i f st : Int} {k : Nat} (h0 : 0 ≤ i) (h1 : i ≤ z.length) : (wordAt z i f st k).cps.toList = z.cps.toList.take i.toNat ++ [97 + ((f + st * k).fmod 26).toNat] ++ z.cps.toList.drop i.toNat := by
  unfold wordAt
  rw [PyProof.Rows.cps_toList_append, PyProof.Rows.cps_toList_append, front_list h0 h1, back_list h0 h1]
theorem wordAt_len {z : Str} {i f st : Int} {k : Nat} (h0 : 0 ≤ i) (h1 : i ≤ z.length) : (wordAt z i f st k).length = z.length + 1 := by
  rw [← len_list, wordAt_list h0 h1, List.length_append, List.length_append, List.length_take, List.length_drop, len_list, List.length_singleton]
  omega
theorem wordAt_q {z : Str} {i f st : Int} {k : Nat} (h0 : 0 ≤ i) (h1 : i ≤ z.length) (h5 : z.length ≤ 5) (hz : ∀ c ∈ z.cps.toList, LetterQ c) : WordQ (wordAt z i f st k) := by
  have e := wordAt_len (f := f) (st := st) (k := k) h0 h1
  refine ⟨by omega, by omega, fun c hc => ?_⟩
  rw [wordAt_list h0 h1] at hc
  simp only [List.mem_append, List.mem_singleton] at hc
  have b := fm (i := f + st * k) (j := 26) (by decide)
  rcases hc with (hc | rfl) | hc
  · exact hz c (List.mem_of_mem_take hc)
  · exact ⟨by omega, by omega⟩
  · exact hz c (List.mem_of_mem_drop hc)
theorem wordAt_inj {z : Str} {i f st : Int} {k j : Nat} (h0 : 0 ≤ i) (h1 : i ≤ z.length) (hs : st = 1 ∨ st = 3 ∨ st = 5 ∨ st = 7 ∨ st = 9 ∨ st = 11) (hk : k < 26) (hj : j < 26) (e : wordAt z i f st k = wordAt z i f st j) : k = j := by
  have e2 : (wordAt z i f st k).cps.toList = (wordAt z i f st j).cps.toList := by rw [e]
  rw [wordAt_list h0 h1, wordAt_list h0 h1, List.append_cancel_right_eq, List.append_cancel_left_eq] at e2
  have e3 : ((f + st * k).fmod 26).toNat = ((f + st * j).fmod 26).toNat := by
    have := List.head_eq_of_cons_eq e2
    omega
  have b1 := fm (i := f + st * k) (j := 26) (by decide)
  have b2 := fm (i := f + st * j) (j := 26) (by decide)
  have e4 : (f + st * k).fmod 26 = (f + st * j).fmod 26 := by omega
  rw [Int.fmod_eq_emod_of_nonneg _ (by decide), Int.fmod_eq_emod_of_nonneg _ (by decide)] at e4
  rcases hs with rfl | rfl | rfl | rfl | rfl | rfl <;> omega
theorem words_nodup {z : Str} {i f st : Int} (h0 : 0 ≤ i) (h1 : i ≤ z.length) (hs : st = 1 ∨ st = 3 ∨ st = 5 ∨ st = 7 ∨ st = 9 ∨ st = 11) (n : Nat) (hn : n ≤ 26) : ((List.range n).map (wordAt z i f st)).Nodup := by
  rw [List.nodup_iff_pairwise_ne, List.pairwise_map]
  refine List.Pairwise.imp_of_mem ?_ List.pairwise_lt_range
  intro a b ha hb hab e
  have a1 := List.mem_range.mp ha
  have b1 := List.mem_range.mp hb
  have := wordAt_inj h0 h1 hs (by omega) (by omega) e
  omega
end LW

/-! isinstance(x, T) for data of any kind and T a built-in class. -/
namespace G
open PySem PySem.Spec L2
open PySem.W (Frag)
/-- the class of a datum, by its name -/
def cD : PyData → String
  | .none => "NoneType"
  | .bool _ => "bool"
  | .int _ => "int"
  | .str _ => "str"
  | .list _ => "list"
  | .tuple _ => "tuple"
  | .dict _ => "dict"
theorem Da.ty {K : Frag} {H : Hp} {v : V} {d : PyData} (h : Da K H v d) : TyX K H v (.type (cD d)) := by
  cases h with
  | non => exact .base .non
  | bl b => exact .base (.bl b)
  | int i => exact .base (.int i)
  | str x => exact .base (.str x)
  | lst n s a =>
    rcases s with (s | ⟨o, s⟩) | ⟨o, its, m, e, c, _⟩
    · exact .base (.lst s)
    · exact .base (.frz s)
    · exact .kList e c
  | tup s a =>
    rcases s with (s | ⟨o, s⟩) | ⟨o, its, m, e, c, _⟩
    · exact .base (.tup s)
    · exact .fTuple s
    · exact .kTuple e c
  | dct e a b => exact .base (.dK e)
def isStr : PyData → Bool
  | .str _ => true
  | _ => false
def isInt : PyData → Bool
  | .int _ => true
  | .bool _ => true
  | _ => false
def isBool : PyData → Bool
  | .bool _ => true
  | _ => false
def isTup : PyData → Bool
  | .tuple _ => true
  | _ => false
theorem kit_str {K : Frag} : ∀ d : PyData, PySem.W.kitOne K (.type (cD d)) (.type "str") = some (isStr d)
  | .none => kit_ty (show kitB "NoneType" "str" = some false by decide +kernel)
  | .bool _ => kit_ty (show kitB "bool" "str" = some false by decide +kernel)
  | .int _ => kit_ty (show kitB "int" "str" = some false by decide +kernel)
  | .str _ => kit_ty (show kitB "str" "str" = some true by decide +kernel)
  | .list _ => kit_ty (show kitB "list" "str" = some false by decide +kernel)
  | .tuple _ => kit_ty (show kitB "tuple" "str" = some false by decide +kernel)
  | .dict _ => kit_ty (show kitB "dict" "str" = some false by decide +kernel)
theorem kit_int {K : Frag} : ∀ d : PyData, PySem.W.kitOne K (.type (cD d)) (.type "int") = some (isInt d)
  | .none => kit_ty (show kitB "NoneType" "int" = some false by decide +kernel)
  | .bool _ => kit_ty (show kitB "bool" "int" = some true by decide +kernel)
  | .int _ => kit_ty (show kitB "int" "int" = some true by decide +kernel)
  | .str _ => kit_ty (show kitB "str" "int" = some false by decide +kernel)
  | .list _ => kit_ty (show kitB "list" "int" = some false by decide +kernel)
  | .tuple _ => kit_ty (show kitB "tuple" "int" = some false by decide +kernel)
  | .dict _ => kit_ty (show kitB "dict" "int" = some false by decide +kernel)
theorem kit_bool {K : Frag} : ∀ d : PyData, PySem.W.kitOne K (.type (cD d)) (.type "bool") = some (isBool d)
  | .none => kit_ty (show kitB "NoneType" "bool" = some false by decide +kernel)
  | .bool _ => kit_ty (show kitB "bool" "bool" = some true by decide +kernel)
  | .int _ => kit_ty (show kitB "int" "bool" = some false by decide +kernel)
  | .str _ => kit_ty (show kitB "str" "bool" = some false by decide +kernel)
  | .list _ => kit_ty (show kitB "list" "bool" = some false by decide +kernel)
  | .tuple _ => kit_ty (show kitB "tuple" "bool" = some false by decide +kernel)
  | .dict _ => kit_ty (show kitB "dict" "bool" = some false by decide +kernel)
theorem kit_tup {K : Frag} : ∀ d : PyData, PySem.W.kitOne K (.type (cD d)) (.type "tuple") = some (isTup d)
  | .none => kit_ty (show kitB "NoneType" "tuple" = some false by decide +kernel)
  | .bool _ => kit_ty (show kitB "bool" "tuple" = some false by decide +kernel)
  | .int _ => kit_ty (show kitB "int" "tuple" = some false by decide +kernel)
  | .str _ => kit_ty (show kitB "str" "tuple" = some false by decide +kernel)
  | .list _ => kit_ty (show kitB "list" "tuple" = some false by decide +kernel)
  | .tuple _ => kit_ty (show kitB "tuple" "tuple" = some true by decide +kernel)
  | .dict _ => kit_ty (show kitB "dict" "tuple" = some false by decide +kernel)
def rIsD (c : String) (is : PyData → Bool) (K : Frag) : List V → Hp → VK → Prop := fun xs H Q => ∃ v d, xs = [v, .ty c] ∧ Da K H v d ∧ Q (.bl (is d)) H
theorem call_isD {X : Cx} {c : String} {is : PyData → Bool} (h : ∀ d, PySem.W.kitOne X.K (.type (cD d)) (.type c) = some (is d)) : CallR X (.builtin "isinstance") (rIsD c is X.K) := by
  intro pins s σ H xs us Q I r h'
  obtain ⟨v, d, rfl, hd, q⟩ := h'
  exact call_isi pins s σ H _ us Q I r ⟨v, .ty c, _, _, is d, rfl, .ty c, hd.ty, h d, q⟩
end G

/-! The laws' own looks: whether any value is a word. -/
namespace LW
open PySem L2 G
abbrev sIsWord : Stmt := top 43
/-- no sign but the letters -/
def lettersB (l : List Nat) : Bool := l.all fun c => decide (c ∈ letters.cps.toList)
def isWordD : PyData → Bool
  | .str z => decide (1 ≤ z.length) && decide (z.length ≤ 8) && lettersB z.cps.toList
  | _ => false
def spIsWord (K : PySem.W.Frag) : Sp := fun vs H Q _ => ∃ (v : V) (d : PyData), vs = [v] ∧ Da K H v d ∧ (∀ z, d = .str z → z.length ≤ sizeLine ∧ PyData.strOk z = true) ∧ ∀ H', Same H H' → Q (.bl (isWordD d)) H'
theorem dpStrs (K : PySem.W.Frag) (H : Hp) : ∀ l : List Str, DpAll K H (l.map V.str) (l.map PyData.str)
  | [] => .nil
  | i :: l => .cons (.str i) (dpStrs K H l)
theorem layStrs : ∀ l : List Str, (∀ y ∈ l, PyData.strOk y = true) → PyData.canLayAll0 (l.map PyData.str) = true
  | [], _ => by simp only [List.map_nil, PyData.canLayAll0]
  | i :: l, h => by simp only [List.map_cons, PyData.canLayAll0, PyData.canLay0, layStrs l fun y hy => h y (List.mem_cons_of_mem _ hy), h i List.mem_cons_self, Bool.and_self]
theorem depStrs : ∀ l : List Str, PyData.depthAll (l.map PyData.str) = 0
  | [] => by simp only [List.map_nil, PyData.depthAll]
  | i :: l => by simp only [List.map_cons, PyData.depthAll, PyData.depth, depStrs l, Nat.max_self]
theorem shapedStrs (l : List Str) (h : ∀ y ∈ l, PyData.strOk y = true) : SeqAt.shaped (.list (l.map PyData.str)) = true := by
  have h1 : (PyData.list (l.map PyData.str)).canLay0 = true := by simp only [PyData.canLay0, layStrs l h]
  have h2 : (PyData.list (l.map PyData.str)).depth ≤ 64 := by simp only [PyData.depth, depStrs]; omega
  simp only [SeqAt.shaped, h1, h2, decide_true, Bool.and_self]
theorem eqvNilS : ∀ l : List Str, PyData.eqv (.list (l.map PyData.str)) (.list []) = decide (l = [])
  | [] => by simp [PyData.eqv, PyData.eqvAll]
  | i :: l => by simp [PyData.eqv, PyData.eqvAll]
section
variable {P : Program} {w : World} {K : PySem.W.Frag} {mg : Str → Option Value} {base : Heap}
theorem scIsWord : FnScope ["_law_thing", "_law_sign"] ["_law_thing"] (defScope sIsWord) := ⟨rfl, rfl, rfl, by decide +kernel, rfl, by decide +kernel, by decide +kernel⟩
theorem ok_is_word {f : Addr} {fd : FuncData} (F : Fun K "_law_is_word" "_law_is_word" sIsWord f fd) (T : Bt mg) (Is : mg "isinstance" = none) (St : mg "str" = none) :
    FnOk P w K mg base CX0 1 f fd ["_law_thing"] (spIsWord K) := by
  refine F.ok scIsWord (fun vs H Q E h => ?_) (fun cdv A outer s H vs Q E hr h => ?_)
  · obtain ⟨v, d, rfl, _⟩ := h
    rfl
  · obtain ⟨v, d, rfl, hd, hz, k⟩ := h
    have hu64 := hr.units
    refine ⟨_, pss_cons (ps_if (PW.pt (pw_or (pt_not (pt_val (pe_callB (call_isD kit_str) (by rfl) Is (by decide +kernel) (pa_cons (pv 0) (pa_cons (pe_bltn (v := .ty "str") (by rfl) St (by decide +kernel) rfl) pa_nil)))))
        (pw_or1 (pt_not (pt_chain op_le op_le pe_int (pe_callB call_len (by rfl) T.len PySem.boot_len (pa_cons (pv 0) pa_nil)) pe_int))))) (pss_one (ps_ret pe_bl)) pss_nil)
      (pss_one (ps_ret (pe_cmpR (op_eqD hu64) (pe_lc (own := [("_law_sign", 1)]) (g := gName 1) rfl scIsWord.nd (pi_str (pv 0))
        (blkOk_by (own := [("_law_sign", 1)]) (N := ["_law_thing", "_law_sign"]) (sc := defScope sIsWord) (by decide +kernel))
        (fun _ _ _ _ _ => pg_name (i := 1) scIsWord.nd rfl (Or.inl rfl)) (fun _ _ _ _ _ => pts_one (pt_cmpR op_notIn_sign (pv 1) pe_str rfl)) (fun _ _ _ _ _ => pv 1)) (pe_lst pa_nil) (nomark _)))), ?_⟩
    refine ⟨_, rfl, v, d, rfl, hd, _, rfl, ?_⟩
    by_cases hs : isStr d = true
    · obtain ⟨z, rfl⟩ : ∃ z, d = .str z := by cases d <;> first | exact ⟨_, rfl⟩ | cases hs
      cases hd
      obtain ⟨lz, oz⟩ := hz z rfl
      refine iteF ?_
      refine ⟨_, rfl, _, _, rfl, ⟨lz, rfl⟩, _, _, rfl, rfl, _, rfl, ?_⟩
      refine ite2 (fun h1 => ?_) (fun h1 => ?_)
      rotate_left
      · refine ⟨_, rfl, iteT ?_⟩
        have n1 : ¬ 1 ≤ z.length := by
          have := of_decide_eq_false (Bool.eq_false_iff.mpr h1)
          omega
        have kk := k H (Same.refl H)
        rw [show isWordD (.str z) = false by simp [isWordD, n1]] at kk
        exact kk
      have p1 : 1 ≤ z.length := by
        have := of_decide_eq_true h1
        omega
      refine ⟨_, _, rfl, rfl, _, rfl, ?_⟩
      by_cases h8 : (z.length : Int) ≤ 8
      rotate_left
      · rw [decide_eq_false h8]
        refine iteT ?_
        have n8 : ¬ z.length ≤ 8 := by omega
        have kk := k H (Same.refl H)
        rw [show isWordD (.str z) = false by simp [isWordD, n8]] at kk
        exact kk
      rw [decide_eq_true h8]
      refine iteF ?_
      have p8 : z.length ≤ 8 := by omega
      have we : isWordD (.str z) = lettersB z.cps.toList := by simp [isWordD, p1, p8]
      rw [we] at k
      refine ⟨_, rfl, z, rfl, fun D hD => ?_⟩
      refine lc_it walk_str (fun i G => ∃ bad : List Str, G D = some (.lst (bad.map V.str)) ∧ bad.length ≤ i ∧ (decide (bad = []) = lettersB (z.cps.toList.take i)) ∧ (∀ y ∈ bad, PyData.strOk y = true) ∧ Same H G)
        ⟨[], upd_same, Nat.le_refl _, by simp [lettersB], by simp, same_new hD⟩ (fun _ _ _ _ => True.intro) (fun i x G G' hi pv y => ?_) (fun G pv => ?_)
      · obtain ⟨rfl, c, hc, rfl⟩ := y
        obtain ⟨bad, gD, bl, be, bo, S⟩ := pv
        have hc2 : z.cps.toList[i]? = some c := by rw [Array.getElem?_toList]; exact hc
        have tk : z.cps.toList.take (i + 1) = z.cps.toList.take i ++ [c] := by rw [List.take_add_one, hc2]; rfl
        have lc' : lettersB (z.cps.toList.take (i + 1)) = (lettersB (z.cps.toList.take i) && decide (c ∈ letters.cps.toList)) := by
          rw [tk]
          unfold lettersB
          rw [List.all_append]
          simp
        refine ⟨rfl, _, rfl, c, letters, rfl, rfl, _, rfl, ?_⟩
        refine ite2 (fun hb => ?_) (fun hb => ?_)
        · refine ⟨_, rfl, _, gD, by rw [List.length_map, sizeLine_eq]; have : z.cps.size = z.length := rfl; omega, bad ++ [⟨#[c]⟩], by rw [upd_same, List.map_append]; rfl, by simp; omega, ?_, ?_, fun b o e => by rw [upd_ne (ne_of_none e hD)]; exact S _ _ e⟩
          have nc : decide (c ∈ letters.cps.toList) = false := by simpa using hb
          · rw [lc', nc, Bool.and_false]
            simp
          · intro y hy
            rcases List.mem_append.mp hy with hy | hy
            · exact bo y hy
            · rw [List.mem_singleton.mp hy]
              have cz : c ∈ z.cps.toList := List.mem_of_getElem? hc2
              have az : ∀ q ∈ z.cps.toList, decide (q < 0x110000) = true := List.all_eq_true.mp (by rw [Array.all_toList]; exact oz)
              have := az c cz
              simp only [PyData.strOk]
              simpa using this
        · refine ⟨bad, gD, by omega, ?_, bo, S⟩
          have nc : decide (c ∈ letters.cps.toList) = true := by simpa using hb
          rw [lc', nc, Bool.and_true]
          exact be
      · obtain ⟨bad, gD, bl, be, bo, S⟩ := pv
        refine ⟨by decide, fun q hq => ?_⟩
        have s2 := same_new (o := .lst []) hq
        refine ⟨.list (bad.map PyData.str), .list [], .lst (Or.inl (Or.inl (s2 _ _ gD))) (dpStrs _ _ bad), .lst (Or.inl (Or.inl upd_same)) .nil, shapedStrs bad bo, by decide +kernel, ?_⟩
        rw [eqvNilS, be, List.take_of_length_le (by rw [len_list]; exact Nat.le_refl _)]
        exact k _ (S.trans s2)
    · have e : isStr d = false := by simpa using hs
      rw [e]
      refine iteT ?_
      have e2 : isWordD d = false := by cases d <;> first | rfl | cases e
      have kk := k H (Same.refl H)
      rw [e2] at kk
      exact kk
end
end LW

/-! The laws' own looks: whether any value is a day, a stretch. -/
namespace LW
open PySem L2 G
abbrev sIsNumber : Stmt := top 44
abbrev sIsStretch : Stmt := top 45
def isNumD : PyData → Bool
  | .int i => decide (0 ≤ i) && decide (i ≤ 10 ^ 30)
  | _ => false
def isStretchD : PyData → Bool
  | .tuple [a, b] => isNumD a && isNumD b && (match a, b with
    | .int i, .int j => decide (i ≤ j)
    | _, _ => false)
  | _ => false
def spIsNumber (K : PySem.W.Frag) : Sp := fun vs H Q _ => ∃ (v : V) (d : PyData), vs = [v] ∧ Da K H v d ∧ Q (.bl (isNumD d)) H
def spIsStretch (K : PySem.W.Frag) : Sp := fun vs H Q _ => ∃ (v : V) (d : PyData), vs = [v] ∧ Da K H v d ∧ Q (.bl (isStretchD d)) H
section
variable {P : Program} {w : World} {K : PySem.W.Frag} {mg : Str → Option Value} {base : Heap}
theorem scIsNumber : FnScope ["_law_thing"] ["_law_thing"] (defScope sIsNumber) := ⟨rfl, rfl, rfl, by decide +kernel, rfl, by decide +kernel, by decide +kernel⟩
theorem ok_is_number {f : Addr} {fd : FuncData} (F : Fun K "_law_is_number" "_law_is_number" sIsNumber f fd) (T : Bt mg) (Is : mg "isinstance" = none) (Bo : mg "bool" = none) :
    FnOk P w K mg base CX0 1 f fd ["_law_thing"] (spIsNumber K) := by
  refine F.ok scIsNumber (fun vs H Q E h => ?_) (fun cdv A outer s H vs Q E hr h => ?_)
  · obtain ⟨v, d, rfl, _⟩ := h
    rfl
  · obtain ⟨v, d, rfl, hd, k⟩ := h
    refine ⟨_, pss_one (ps_ret (pe_and (pe_callB (call_isD kit_int) (by rfl) Is (by decide +kernel) (pa_cons (pv 0) (pa_cons (pe_bltn (v := .ty "int") (by rfl) T.int (by decide +kernel) rfl) pa_nil)))
      (pe_and (pe_not (pe_callB (call_isD kit_bool) (by rfl) Is (by decide +kernel) (pa_cons (pv 0) (pa_cons (pe_bltn (v := .ty "bool") (by rfl) Bo (by decide +kernel) rfl) pa_nil))))
      (pe_one (pe_chain op_le op_le pe_int (pv 0) (pe_op op_pow pe_int pe_int)))))), ?_⟩
    have pw : (0 : Int) ≤ 30 ∧ (30 : Int) ≤ 1000000 ∧ (10 : Int).natAbs < 2 ^ 64 := ⟨by decide, by decide, by decide⟩
    refine ⟨_, rfl, v, d, rfl, hd, _, rfl, ?_⟩
    by_cases hs : isInt d = true
    rotate_left
    · have e : isInt d = false := by simpa using hs
      rw [e]
      refine iteF ?_
      have e2 : isNumD d = false := by cases d <;> first | rfl | cases e
      rw [e2] at k
      exact k
    rw [hs]
    refine iteT ⟨_, rfl, v, d, rfl, hd, _, rfl, _, rfl, ?_⟩
    by_cases hb : isBool d = true
    · rw [hb]
      refine iteF ?_
      have e2 : isNumD d = false := by cases d <;> first | rfl | cases hb
      rw [e2] at k
      exact k
    have e : isBool d = false := by simpa using hb
    rw [e]
    refine iteT ?_
    obtain ⟨i, rfl⟩ : ∃ i, d = .int i := by
      cases d with
      | int i => exact ⟨i, rfl⟩
      | bool b => cases e
      | _ => cases hs
    cases hd
    refine ⟨_, rfl, _, _, rfl, rfl, _, rfl, ?_⟩
    refine ite2 (fun h0 => ?_) (fun h0 => ?_)
    · refine ⟨_, _, rfl, rfl, pw, _, _, rfl, rfl, ?_⟩
      have e3 : isNumD (.int i) = decide (i ≤ 10 ^ 30) := by
        show (decide (0 ≤ i) && decide (i ≤ 10 ^ 30)) = _
        rw [h0, Bool.true_and]
      rw [e3] at k
      exact k
    · have e3 : isNumD (.int i) = false := by
        show (decide (0 ≤ i) && decide (i ≤ 10 ^ 30)) = _
        rw [Bool.eq_false_iff.mpr h0, Bool.false_and]
      rw [e3] at k
      exact k
theorem scIsStretch : FnScope ["_law_thing"] ["_law_thing"] (defScope sIsStretch) := ⟨rfl, rfl, rfl, by decide +kernel, rfl, by decide +kernel, by decide +kernel⟩
variable {fN : Addr} {fdN : FuncData}
theorem ok_is_stretch {f : Addr} {fd : FuncData} (F : Fun K "_law_is_stretch" "_law_is_stretch" sIsStretch f fd) (T : Bt mg) (Is : mg "isinstance" = none) (Tu : mg "tuple" = none)
    (GN : FnOk P w K mg base CX0 1 fN fdN ["_law_thing"] (spIsNumber K)) (mN : mg "_law_is_number" = some (.ref fN)) (kN : PySem.W.keepIn K (.ref fN) = true) (bN : Binds K fdN ["_law_thing"] []) :
    FnOk P w K mg base CX0 2 f fd ["_law_thing"] (spIsStretch K) := by
  refine F.ok scIsStretch (fun vs H Q E h => ?_) (fun cdv A outer s H vs Q E hr h => ?_)
  · obtain ⟨v, d, rfl, _⟩ := h
    rfl
  · obtain ⟨v, d, rfl, hd, k⟩ := h
    refine ⟨_, pss_cons (ps_if (PW.pt (pw_or (pt_not (pt_val (pe_callB (call_isD kit_tup) (by rfl) Is (by decide +kernel) (pa_cons (pv 0) (pa_cons (pe_bltn (v := .ty "tuple") (by rfl) Tu (by decide +kernel) rfl) pa_nil)))))
        (pw_or1 (pt_cmpR op_ne (pe_callB call_len (by rfl) T.len PySem.boot_len (pa_cons (pv 0) pa_nil)) pe_int (nomark _))))) (pss_one (ps_ret pe_bl)) pss_nil)
      (pss_one (ps_ret (pe_and (pe_call GN hr (by rfl) mN kN bN .nil pass0 (pa_cons (pe_ix ix_tup (pv 0) pe_int (fun _ _ => rfl)) pa_nil))
        (pe_and (pe_call GN hr (by rfl) mN kN bN .nil pass0 (pa_cons (pe_ix ix_tup (pv 0) pe_int (fun _ _ => rfl)) pa_nil))
        (pe_one (pe_cmpR op_le (pe_ix ix_tup (pv 0) pe_int (fun _ _ => rfl)) (pe_ix ix_tup (pv 0) pe_int (fun _ _ => rfl)) (nomark _))))))), ?_⟩
    refine ⟨_, rfl, v, d, rfl, hd, _, rfl, ?_⟩
    by_cases hs : isTup d = true
    rotate_left
    · have e : isTup d = false := by simpa using hs
      rw [e]
      refine iteT ?_
      have e2 : isStretchD d = false := by cases d <;> first | rfl | cases e
      rw [e2] at k
      exact k
    rw [hs]
    refine iteF ?_
    obtain ⟨ds, rfl⟩ : ∃ ds, d = .tuple ds := by cases d <;> first | exact ⟨_, rfl⟩ | cases hs
    obtain ⟨a, xs, rfl, hS, hA⟩ : ∃ a xs, v = .ref a ∧ SqT K H a xs ∧ DaAll K H xs ds := by
      cases hd with
      | tup s a => exact ⟨_, _, rfl, s, a⟩
    refine ⟨_, rfl, _, xs.length, rfl, .inr ⟨_, hS, rfl⟩, ?_⟩
    have L := hA.length
    refine ⟨rfl, _, rfl, ?_⟩
    refine ite2 (fun hc => ?_) (fun hc => ?_)
    · have n2 : xs.length ≠ 2 := fun z => by
        rw [z] at hc
        revert hc
        decide
      have e2 : isStretchD (.tuple ds) = false := by
        match ds, L with
        | [], _ => rfl
        | [_], _ => rfl
        | [_, _], L => exact absurd L n2
        | _ :: _ :: _ :: _, _ => rfl
      rw [e2] at k
      exact k
    have l2 : xs.length = 2 := by
      have h := Bool.not_eq_true _ ▸ hc
      have h' : decide (V.int (xs.length : Int) = V.int 2) = true := by simpa using h
      have := V.int.inj (of_decide_eq_true h')
      omega
    obtain ⟨x, y, rfl⟩ : ∃ x y, xs = [x, y] := by
      match xs, l2 with
      | [x, y], _ => exact ⟨x, y, rfl⟩
    obtain ⟨d1, d2, rfl, h1, h2⟩ : ∃ d1 d2, ds = [d1, d2] ∧ Da K H x d1 ∧ Da K H y d2 := by
      cases hA with
      | cons p q =>
        cases q with
        | cons p' q' =>
          cases q'
          exact ⟨_, _, rfl, p, p'⟩
    have a0 : atI [x, y] 0 = some x := rfl
    have a1 : atI [x, y] 1 = some y := rfl
    refine ⟨_, rfl, a, _, _, x, rfl, rfl, hS, a0, x, d1, rfl, h1, _, rfl, ?_⟩
    by_cases n1 : isNumD d1 = true
    rotate_left
    · have e : isNumD d1 = false := by simpa using n1
      rw [e]
      refine iteF ?_
      rw [show isStretchD (.tuple [d1, d2]) = false by simp only [isStretchD, e, Bool.false_and]] at k
      exact k
    rw [n1]
    refine iteT ⟨_, rfl, a, _, _, y, rfl, rfl, hS, a1, y, d2, rfl, h2, _, rfl, ?_⟩
    by_cases n2 : isNumD d2 = true
    rotate_left
    · have e : isNumD d2 = false := by simpa using n2
      rw [e]
      refine iteF ?_
      rw [show isStretchD (.tuple [d1, d2]) = false by simp only [isStretchD, n1, e, Bool.false_and, Bool.and_false]] at k
      exact k
    rw [n2]
    refine iteT ?_
    obtain ⟨i, rfl⟩ : ∃ i, d1 = .int i := by
      cases d1 with
      | int i => exact ⟨i, rfl⟩
      | _ => cases n1
    obtain ⟨j, rfl⟩ : ∃ j, d2 = .int j := by
      cases d2 with
      | int j => exact ⟨j, rfl⟩
      | _ => cases n2
    cases h1
    cases h2
    refine ⟨_, rfl, a, _, _, _, rfl, rfl, hS, a0, _, rfl, a, _, _, _, rfl, rfl, hS, a1, _, _, rfl, rfl, ?_⟩
    rw [show isStretchD (.tuple [.int i, .int j]) = decide (i ≤ j) by simp only [isStretchD, n1, n2, Bool.true_and]] at k
    exact k
end
end LW

/-! A list of anything beside the empty list: equal only if it is empty. -/
namespace G
open PySem PySem.Spec PyProof.Rows L2
def rEqNil (K : PySem.W.Frag) : R2 := fun x y H Q => ∃ a b xs, x = .ref a ∧ y = .ref b ∧ SqL K H a xs ∧ SqL K H b [] ∧ Q (.bl (decide (xs = []))) H
def rNeNil (K : PySem.W.Frag) : R2 := fun x y H Q => ∃ a b xs, x = .ref a ∧ y = .ref b ∧ SqL K H a xs ∧ SqL K H b [] ∧ Q (.bl (!decide (xs = []))) H
theorem vals_len {xs : List V} {us : List Value} (r : Vals xs us) : us.length = xs.length := by
  induction r with
  | nil => rfl
  | cons _ _ ih => rw [List.length_cons, List.length_cons, ih]
theorem op_eqNil {X : Cx} (hu : X.A.units < cLine) : OpR X (compareOp .Eq) (rEqNil X.K) := by
  intro pins s σ H x y v u Q I rx ry h
  obtain ⟨a, b, xs, rfl, rfl, ha, hb, q⟩ := h
  cases rx
  cases ry
  obtain ⟨its, rv, l1, _⟩ := I.list ha
  obtain ⟨its2, rv2, l2, _⟩ := I.list hb
  have e1 := vals_len rv
  have e2 := vals_len rv2
  cases xs with
  | nil =>
    have z1 : its = [] := List.eq_nil_of_length_eq_zero e1
    have z2 : its2 = [] := List.eq_nil_of_length_eq_zero e2
    subst z1 z2
    refine SeqAt.eq_listAt (e := fun _ => true) l1.isList l2.isList rfl hu (fun j h1 => absurd h1 (Nat.not_lt_zero _)) ⟨.bl true, H, I, rfl, q⟩
  | cons z zs =>
    refine SeqAt.eq_list_lengthsAt l1.isList l2.isList ?_ hu ⟨.bl false, H, I, rfl, by simpa using q⟩
    have : its.toArray.size = zs.length + 1 := by simpa using e1
    have t2 : its2.toArray.size = 0 := by simpa using e2
    rw [this, t2]
    rfl
end G

/-! The laws' own looks: whether any value is a chain with at most so many names. -/
namespace LW
open PySem L2 G
abbrev sIsChain : Stmt := top 46
def strsOk (ds : List PyData) : Prop := ∀ e ∈ ds, ∀ z, e = .str z → z.length ≤ sizeLine ∧ PyData.strOk z = true
def isChainD (d : PyData) (tp : Int) : Bool :=
  match d with
  | .tuple ds => decide (1 ≤ ds.length) && decide ((ds.length : Int) ≤ tp + 1) && ds.all isWordD
  | _ => false
def spIsChain (K : PySem.W.Frag) : Sp := fun vs H Q _ => ∃ (v : V) (d : PyData) (tp : Int), vs = [v, .int tp] ∧ Da K H v d ∧ (∀ ds, d = .tuple ds → strsOk ds ∧ ds.length ≤ 100000) ∧ ∀ H', Same H H' → Q (.bl (isChainD d tp)) H'
section
variable {P : Program} {w : World} {K : PySem.W.Frag} {mg : Str → Option Value} {base : Heap}
variable {fW : Addr} {fdW : FuncData}
theorem da_at {K : PySem.W.Frag} {H : Hp} : ∀ {xs : List V} {ds : List PyData}, DaAll K H xs ds → ∀ {i : Nat} {x : V}, xs[i]? = some x → ∃ e, ds[i]? = some e ∧ Da K H x e
  | _, _, .nil, _, _, h => by cases h
  | _, _, .cons a b, 0, _, h => ⟨_, rfl, by cases h; exact a⟩
  | _, _, .cons a b, i + 1, _, h => da_at b (i := i) h
theorem scIsChain : FnScope ["_law_thing", "_law_top", "_law_word"] ["_law_thing", "_law_top"] (defScope sIsChain) := ⟨rfl, rfl, rfl, by decide +kernel, rfl, by decide +kernel, by decide +kernel⟩
theorem ok_is_chain {f : Addr} {fd : FuncData} (F : Fun K "_law_is_chain" "_law_is_chain" sIsChain f fd) (T : Bt mg) (Is : mg "isinstance" = none) (Tu : mg "tuple" = none)
    (GW : FnOk P w K mg base CX0 1 fW fdW ["_law_thing"] (spIsWord K)) (mW : mg "_law_is_word" = some (.ref fW)) (kW : PySem.W.keepIn K (.ref fW) = true) (bW : Binds K fdW ["_law_thing"] []) :
    FnOk P w K mg base CX0 2 f fd ["_law_thing", "_law_top"] (spIsChain K) := by
  refine F.ok scIsChain (fun vs H Q E h => ?_) (fun cdv A outer s H vs Q E hr h => ?_)
  · obtain ⟨v, d, tp, rfl, _⟩ := h
    rfl
  · obtain ⟨v, d, tp, rfl, hd, hz, k⟩ := h
    have hu := hr.units
    have hu1 : _ < cLine := Nat.lt_of_le_of_lt (Nat.le_add_right _ 64) hu
    refine ⟨_, pss_cons (ps_if (PW.pt (pw_or (pt_not (pt_val (pe_callB (call_isD kit_tup) (by rfl) Is (by decide +kernel) (pa_cons (pv 0) (pa_cons (pe_bltn (v := .ty "tuple") (by rfl) Tu (by decide +kernel) rfl) pa_nil)))))
        (pw_or1 (pt_not (pt_chain op_le op_le pe_int (pe_callB call_len (by rfl) T.len PySem.boot_len (pa_cons (pv 0) pa_nil)) (pe_op op_add (pv 1) pe_int)))))) (pss_one (ps_ret pe_bl)) pss_nil)
      (pss_one (ps_ret (pe_cmpR (op_eqNil hu1) (pe_lc (own := [("_law_word", 2)]) (g := gName 2) rfl scIsChain.nd (pi_tup (pv 0))
        (blkOk_by (own := [("_law_word", 2)]) (N := ["_law_thing", "_law_top", "_law_word"]) (sc := defScope sIsChain) (by decide +kernel))
        (fun _ _ _ _ _ => pg_name (i := 2) scIsChain.nd rfl (Or.inl rfl)) (fun _ _ _ _ _ => pts_one (pt_not (pt_val (pe_call GW hr (by rfl) mW kW bW .nil pass0 (pa_cons (pv 2) pa_nil))))) (fun _ _ _ _ _ => pv 2)) (pe_lst pa_nil) (nomark _)))), ?_⟩
    refine ⟨_, rfl, v, d, rfl, hd, _, rfl, ?_⟩
    by_cases hs : isTup d = true
    rotate_left
    · have e : isTup d = false := by simpa using hs
      rw [e]
      refine iteT ?_
      have e2 : isChainD d tp = false := by cases d <;> first | rfl | cases e
      have kk := k H (Same.refl H)
      rw [e2] at kk
      exact kk
    rw [hs]
    refine iteF ?_
    obtain ⟨ds, rfl⟩ : ∃ ds, d = .tuple ds := by cases d <;> first | exact ⟨_, rfl⟩ | cases hs
    obtain ⟨a, xs, rfl, hS, hA⟩ : ∃ a xs, v = .ref a ∧ SqT K H a xs ∧ DaAll K H xs ds := by
      cases hd with
      | tup s a => exact ⟨_, _, rfl, s, a⟩
    obtain ⟨ok, few⟩ := hz ds rfl
    have L := hA.length
    refine ⟨_, rfl, _, xs.length, rfl, .inr ⟨_, hS, rfl⟩, _, _, rfl, rfl, _, rfl, ?_⟩
    refine ite2 (fun h1 => ?_) (fun h1 => ?_)
    rotate_left
    · refine ⟨_, rfl, iteT ?_⟩
      have n1 : ¬ 1 ≤ ds.length := by
        have := of_decide_eq_false (Bool.eq_false_iff.mpr h1)
        omega
      have kk := k H (Same.refl H)
      rw [show isChainD (.tuple ds) tp = false by simp only [isChainD, decide_eq_false n1, Bool.false_and]] at kk
      exact kk
    have p1 : 1 ≤ ds.length := by
      have := of_decide_eq_true h1
      omega
    refine ⟨_, rfl, _, _, rfl, rfl, _, _, rfl, rfl, _, rfl, ?_⟩
    by_cases h8 : (xs.length : Int) ≤ tp + 1
    rotate_left
    · rw [decide_eq_false h8]
      refine iteT ?_
      have n8 : ¬ (ds.length : Int) ≤ tp + 1 := by omega
      have kk := k H (Same.refl H)
      rw [show isChainD (.tuple ds) tp = false by simp only [isChainD, decide_eq_false n8, Bool.false_and, Bool.and_false]] at kk
      exact kk
    rw [decide_eq_true h8]
    refine iteF ?_
    have p8 : (ds.length : Int) ≤ tp + 1 := by omega
    have we : isChainD (.tuple ds) tp = ds.all isWordD := by simp only [isChainD, decide_eq_true p1, decide_eq_true p8, Bool.true_and]
    rw [we] at k
    refine ⟨_, rfl, a, rfl, ⟨_, hS⟩, fun D hD => ?_⟩
    refine lc_it (walk_tup (xs := xs)) (fun i G => ∃ bad : List V, G D = some (.lst bad) ∧ bad.length ≤ i ∧ (decide (bad = []) = (ds.take i).all isWordD) ∧ Same H G)
      ⟨[], upd_same, Nat.le_refl _, by simp, same_new hD⟩ (fun i G _ pv => ?_) (fun i x G G' hi pv y => ?_) (fun G pv => ?_)
    · obtain ⟨bad, gD, bl, be, S⟩ := pv
      rcases hS with (q | ⟨o, q⟩) | q
      · exact .inl (.inl (S _ _ q))
      · exact .inl (.inr ⟨o, S _ _ q⟩)
      · exact .inr q
    · obtain ⟨rfl, hx⟩ := y
      obtain ⟨bad, gD, bl, be, S⟩ := pv
      obtain ⟨e, he, hde⟩ := da_at hA hx
      have me : e ∈ ds := List.mem_of_getElem? he
      have tk : (ds.take (i + 1)).all isWordD = ((ds.take i).all isWordD && isWordD e) := by
        rw [List.take_add_one, he, List.all_append]
        simp
      refine ⟨rfl, _, rfl, x, e, rfl, hde.same S, ok e me, fun G2 S2 => ?_⟩
      refine ⟨_, rfl, ?_⟩
      cases hw : isWordD e with
      | false =>
        refine iteT ?_
        refine ⟨_, rfl, _, S2 _ _ gD, by rw [sizeLine_eq]; omega, bad ++ [x], upd_same, by simp; omega, ?_, fun b o e' => by rw [upd_ne (ne_of_none e' hD)]; exact S2 _ _ (S _ _ e')⟩
        rw [tk, hw, Bool.and_false]
        simp
      | true =>
        refine iteF ?_
        refine ⟨bad, S2 _ _ gD, by omega, ?_, S.trans S2⟩
        rw [tk, hw, Bool.and_true]
        exact be
    · obtain ⟨bad, gD, bl, be, S⟩ := pv
      refine ⟨by decide, fun q hq => ?_⟩
      have s2 := same_new (o := .lst []) hq
      refine ⟨D, q, bad, rfl, rfl, SqL.of (s2 _ _ gD), SqL.of upd_same, ?_⟩
      rw [be, List.take_of_length_le (by omega)]
      exact k _ (S.trans s2)
end
end LW

/-! The program's looks: whether any value is a word, an integer between two, a chain, a stretch. -/
namespace LW
open PySem L2 G
abbrev pInt : Stmt := top 7
abbrev pWord : Stmt := top 8
abbrev pChain : Stmt := top 9
abbrev pStretch : Stmt := top 10
/-- the program's constants and built-ins as they stand -/
structure Pb (mg : Str → Option Value) : Prop where
  isin : mg "isinstance" = none
  str : mg "str" = none
  int : mg "int" = none
  bool : mg "bool" = none
  tup : mg "tuple" = none
  len : mg "len" = none
  all : mg "all" = none
  letters : ∃ t, mg "MAX_LETTERS" = some (.int 8 t)
  names : ∃ t, mg "MAX_NAMES" = some (.int 4 t)
  limit : ∃ t, mg "LIMIT" = some (.int (10 ^ 30) t)
theorem letter_iff {c : Nat} : decide (c ∈ letters.cps.toList) = (!decide (([c] : List Nat) < [97]) && !decide (([122] : List Nat) < [c])) := by
  rw [letters_list]
  have h1 : (([c] : List Nat) < [97]) ↔ c < 97 := by
    rw [List.cons_lt_cons_iff]
    simp
  have h2 : (([122] : List Nat) < [c]) ↔ 122 < c := by
    rw [List.cons_lt_cons_iff]
    simp
  rw [show decide (([c] : List Nat) < [97]) = decide (c < 97) from decide_eq_decide.mpr h1, show decide (([122] : List Nat) < [c]) = decide (122 < c) from decide_eq_decide.mpr h2]
  by_cases a : c < 97
  · have : ¬ c ∈ List.range' 97 26 := fun z => by
      rw [List.mem_range'_1] at z
      omega
    simp [a, this]
  · by_cases b : 122 < c
    · have : ¬ c ∈ List.range' 97 26 := fun z => by
        rw [List.mem_range'_1] at z
        omega
      simp [b, this]
    · have : c ∈ List.range' 97 26 := by
        rw [List.mem_range'_1]
        omega
      simp [a, b, this]
def intInD (d : PyData) (lo hi : Int) : Bool :=
  match d with
  | .int i => decide (lo ≤ i) && decide (i ≤ hi)
  | _ => false
def spInt (K : PySem.W.Frag) : Sp := fun vs H Q _ => ∃ (v : V) (d : PyData) (lo hi : Int), vs = [v, .int lo, .int hi] ∧ Da K H v d ∧ Q (.bl (intInD d lo hi)) H
section
variable {P : Program} {w : World} {K : PySem.W.Frag} {mg : Str → Option Value} {base : Heap}
theorem scInt : FnScope ["value", "low", "high"] ["value", "low", "high"] (defScope pInt) := ⟨rfl, rfl, rfl, by decide +kernel, rfl, by decide +kernel, by decide +kernel⟩
theorem ok_int {f : Addr} {fd : FuncData} (F : Fun K "is_integer_in" "is_integer_in" pInt f fd) (B : Pb mg) : FnOk P w K mg base CX0 1 f fd ["value", "low", "high"] (spInt K) := by
  refine F.ok scInt (fun vs H Q E h => ?_) (fun cdv A outer s H vs Q E hr h => ?_)
  · obtain ⟨v, d, lo, hi, rfl, _⟩ := h
    rfl
  · obtain ⟨v, d, lo, hi, rfl, hd, k⟩ := h
    refine ⟨_, pss_one (ps_ret (pe_and (pe_callB (call_isD kit_int) (by rfl) B.isin (by decide +kernel) (pa_cons (pv 0) (pa_cons (pe_bltn (v := .ty "int") (by rfl) B.int (by decide +kernel) rfl) pa_nil)))
      (pe_and (pe_not (pe_callB (call_isD kit_bool) (by rfl) B.isin (by decide +kernel) (pa_cons (pv 0) (pa_cons (pe_bltn (v := .ty "bool") (by rfl) B.bool (by decide +kernel) rfl) pa_nil))))
      (pe_one (pe_chain op_le op_le (pv 1) (pv 0) (pv 2)))))), ?_⟩
    refine ⟨_, rfl, v, d, rfl, hd, _, rfl, ?_⟩
    cases d with
    | int i =>
      cases hd
      refine iteT ⟨_, rfl, _, _, rfl, .int i, _, rfl, _, rfl, iteT ?_⟩
      refine ⟨_, rfl, _, rfl, _, _, rfl, rfl, _, rfl, ?_⟩
      refine ite2 (fun h0 => ?_) (fun h0 => ?_)
      · refine ⟨_, rfl, _, _, rfl, rfl, ?_⟩
        have e : intInD (.int i) lo hi = decide (i ≤ hi) := by
          show (decide (lo ≤ i) && decide (i ≤ hi)) = _
          rw [h0, Bool.true_and]
        rw [e] at k
        exact k
      · have e : intInD (.int i) lo hi = false := by
          show (decide (lo ≤ i) && decide (i ≤ hi)) = _
          rw [Bool.eq_false_iff.mpr h0, Bool.false_and]
        rw [e] at k
        exact k
    | bool b => exact iteT ⟨_, rfl, _, _, rfl, hd, _, rfl, _, rfl, iteF k⟩
    | none => exact iteF k
    | str z => exact iteF k
    | list z => exact iteF k
    | tuple z => exact iteF k
    | dict z => exact iteF k
theorem scWord : FnScope ["value", "letter"] ["value"] (defScope pWord) := ⟨rfl, rfl, rfl, by decide +kernel, rfl, by decide +kernel, by decide +kernel⟩
theorem ok_word {f : Addr} {fd : FuncData} (F : Fun K "is_word" "is_word" pWord f fd) (B : Pb mg) : FnOk P w K mg base CX0 1 f fd ["value"] (spIsWord K) := by
  refine F.ok scWord (fun vs H Q E h => ?_) (fun cdv A outer s H vs Q E hr h => ?_)
  · obtain ⟨v, d, rfl, _⟩ := h
    rfl
  · obtain ⟨v, d, rfl, hd, hz, k⟩ := h
    obtain ⟨t8, m8⟩ := B.letters
    refine ⟨_, pss_cons (ps_if (PW.pt (pw_or (pt_not (pt_val (pe_callB (call_isD kit_str) (by rfl) B.isin (by decide +kernel) (pa_cons (pv 0) (pa_cons (pe_bltn (v := .ty "str") (by rfl) B.str (by decide +kernel) rfl) pa_nil)))))
        (pw_or1 (pt_not (pt_chain op_le op_le pe_int (pe_callB call_len (by rfl) B.len PySem.boot_len (pa_cons (pv 0) pa_nil)) (pe_glob (v := .int 8) (by rfl) m8 ⟨_, rfl⟩)))))) (pss_one (ps_ret pe_bl)) pss_nil)
      (pss_one (ps_ret (pe_callB (cr_all rfl) (by rfl) B.all (by decide +kernel) (pa_cons (pe_lc (own := [("letter", 1)]) (g := gName 1) (tt := tYes) rfl scWord.nd (pi_str (pv 0))
        (blkOk_by (own := [("letter", 1)]) (N := ["value", "letter"]) (sc := defScope pWord) (by decide +kernel))
        (fun _ _ _ _ _ => pg_name (i := 1) scWord.nd rfl (Or.inl rfl)) (fun _ _ _ _ _ => pts_nil) (fun _ _ _ _ _ => pe_chain op_le_str op_le_str pe_str (pv 1) pe_str)) pa_nil)))), ?_⟩
    refine ⟨_, rfl, v, d, rfl, hd, _, rfl, ?_⟩
    by_cases hs : isStr d = true
    · obtain ⟨z, rfl⟩ : ∃ z, d = .str z := by cases d <;> first | exact ⟨_, rfl⟩ | cases hs
      cases hd
      obtain ⟨lz, oz⟩ := hz z rfl
      refine iteF ?_
      refine ⟨_, rfl, _, _, rfl, ⟨lz, rfl⟩, _, _, rfl, rfl, _, rfl, ?_⟩
      refine ite2 (fun h1 => ?_) (fun h1 => ?_)
      rotate_left
      · refine ⟨_, rfl, iteT ?_⟩
        have n1 : ¬ 1 ≤ z.length := by
          have := of_decide_eq_false (Bool.eq_false_iff.mpr h1)
          omega
        have kk := k H (Same.refl H)
        rw [show isWordD (.str z) = false by simp [isWordD, n1]] at kk
        exact kk
      have p1 : 1 ≤ z.length := by
        have := of_decide_eq_true h1
        omega
      refine ⟨_, _, rfl, rfl, _, rfl, ?_⟩
      by_cases h8 : (z.length : Int) ≤ 8
      rotate_left
      · rw [decide_eq_false h8]
        refine iteT ?_
        have n8 : ¬ z.length ≤ 8 := by omega
        have kk := k H (Same.refl H)
        rw [show isWordD (.str z) = false by simp [isWordD, n8]] at kk
        exact kk
      rw [decide_eq_true h8]
      refine iteF ?_
      have p8 : z.length ≤ 8 := by omega
      have we : isWordD (.str z) = lettersB z.cps.toList := by simp [isWordD, p1, p8]
      rw [we] at k
      refine ⟨_, rfl, z, rfl, fun D hD => ?_⟩
      refine lc_it walk_str (fun i G => G D = some (.lst ((z.cps.toList.take i).map fun c => V.bl (decide (c ∈ letters.cps.toList)))) ∧ Same H G)
        ⟨by rw [upd_same]; rfl, same_new hD⟩ (fun _ _ _ _ => True.intro) (fun i x G G' hi pv y => ?_) (fun G pv => ?_)
      · obtain ⟨rfl, c, hc, rfl⟩ := y
        obtain ⟨gD, S⟩ := pv
        have hc2 : z.cps.toList[i]? = some c := by rw [Array.getElem?_toList]; exact hc
        have tk : z.cps.toList.take (i + 1) = z.cps.toList.take i ++ [c] := by rw [List.take_add_one, hc2]; rfl
        have few : (z.cps.toList.take i).length ≤ 8 := by
          rw [List.length_take, len_list]
          omega
        have ea : (Str.ofString "a").cps.toList = [97] := by decide +kernel
        have ez : (Str.ofString "z").cps.toList = [122] := by decide +kernel
        have fin : ∀ b : Bool, b = decide (c ∈ letters.cps.toList) → ∃ acc, G' D = some (.lst acc) ∧ acc.length < sizeLine ∧ (upd G' D (.lst (acc ++ [V.bl b]))) D = some (.lst ((z.cps.toList.take (i + 1)).map fun c => V.bl (decide (c ∈ letters.cps.toList)))) ∧ Same H (upd G' D (.lst (acc ++ [V.bl b]))) := by
          intro b hb
          refine ⟨_, gD, by rw [List.length_map, sizeLine_eq]; omega, by rw [upd_same, tk, List.map_append, hb]; rfl, fun b o e => by rw [upd_ne (ne_of_none e hD)]; exact S _ _ e⟩
        refine ⟨rfl, _, rfl, _, _, rfl, rfl, _, rfl, ?_⟩
        have hl := letter_iff (c := c)
        have cl : (⟨#[c]⟩ : Str).cps.toList = [c] := rfl
        rw [ea, cl]
        by_cases q : ([c] : List Nat) < [97]
        · rw [decide_eq_true q] at hl ⊢
          refine iteF ?_
          obtain ⟨acc, a1, a2, a3, a4⟩ := fin false (by rw [hl]; rfl)
          exact ⟨acc, a1, a2, a3, a4⟩
        · rw [decide_eq_false q] at hl ⊢
          refine iteT ?_
          refine ⟨_, _, rfl, rfl, ?_⟩
          obtain ⟨acc, a1, a2, a3, a4⟩ := fin (!decide ((Str.ofString "z").cps.toList < (⟨#[c]⟩ : Str).cps.toList)) (by rw [hl, ez, cl]; rfl)
          exact ⟨acc, a1, a2, a3, a4⟩
      · obtain ⟨gD, S⟩ := pv
        have ft : z.cps.toList.take z.cps.size = z.cps.toList := List.take_of_length_le (by rw [len_list]; exact Nat.le_refl _)
        rw [ft] at gD
        refine ⟨D, z.cps.toList.map fun c => decide (c ∈ letters.cps.toList), rfl, SqL.of (by rw [gD, List.map_map]; rfl), ?_⟩
        have kk := k _ S
        have e : (z.cps.toList.map fun c => decide (c ∈ letters.cps.toList)).all id = lettersB z.cps.toList := by
          unfold lettersB
          rw [List.all_map]
          rfl
        rw [e]
        exact kk
    · have e : isStr d = false := by simpa using hs
      rw [e]
      refine iteT ?_
      have e2 : isWordD d = false := by cases d <;> first | rfl | cases e
      have kk := k H (Same.refl H)
      rw [e2] at kk
      exact kk
end
end LW

namespace LW
open PySem L2 G
section
variable {P : Program} {w : World} {K : PySem.W.Frag} {mg : Str → Option Value} {base : Heap}
variable {fW fI : Addr} {fdW fdI : FuncData}
theorem scChainP : FnScope ["value", "most", "word"] ["value", "most"] (defScope pChain) := ⟨rfl, rfl, rfl, by decide +kernel, rfl, by decide +kernel, by decide +kernel⟩
theorem ok_chainP {f : Addr} {fd : FuncData} (F : Fun K "is_chain" "is_chain" pChain f fd) (B : Pb mg)
    (GW : FnOk P w K mg base CX0 1 fW fdW ["value"] (spIsWord K)) (mW : mg "is_word" = some (.ref fW)) (kW : PySem.W.keepIn K (.ref fW) = true) (bW : Binds K fdW ["value"] []) :
    FnOk P w K mg base CX0 2 f fd ["value", "most"] (spIsChain K) := by
  refine F.ok scChainP (fun vs H Q E h => ?_) (fun cdv A outer s H vs Q E hr h => ?_)
  · obtain ⟨v, d, tp, rfl, _⟩ := h
    rfl
  · obtain ⟨v, d, tp, rfl, hd, hz, k⟩ := h
    refine ⟨_, pss_cons (ps_if (PW.pt (pw_or (pt_not (pt_val (pe_callB (call_isD kit_tup) (by rfl) B.isin (by decide +kernel) (pa_cons (pv 0) (pa_cons (pe_bltn (v := .ty "tuple") (by rfl) B.tup (by decide +kernel) rfl) pa_nil)))))
        (pw_or1 (pt_not (pt_chain op_le op_le pe_int (pe_callB call_len (by rfl) B.len PySem.boot_len (pa_cons (pv 0) pa_nil)) (pe_op op_add pe_int (pv 1))))))) (pss_one (ps_ret pe_bl)) pss_nil)
      (pss_one (ps_ret (pe_callB (cr_all rfl) (by rfl) B.all (by decide +kernel) (pa_cons (pe_lc (own := [("word", 2)]) (g := gName 2) (tt := tYes) rfl scChainP.nd (pi_tup (pv 0))
        (blkOk_by (own := [("word", 2)]) (N := ["value", "most", "word"]) (sc := defScope pChain) (by decide +kernel))
        (fun _ _ _ _ _ => pg_name (i := 2) scChainP.nd rfl (Or.inl rfl)) (fun _ _ _ _ _ => pts_nil) (fun _ _ _ _ _ => pe_call GW hr (by rfl) mW kW bW .nil pass0 (pa_cons (pv 2) pa_nil))) pa_nil)))), ?_⟩
    refine ⟨_, rfl, v, d, rfl, hd, _, rfl, ?_⟩
    by_cases hs : isTup d = true
    rotate_left
    · have e : isTup d = false := by simpa using hs
      rw [e]
      refine iteT ?_
      have e2 : isChainD d tp = false := by cases d <;> first | rfl | cases e
      have kk := k H (Same.refl H)
      rw [e2] at kk
      exact kk
    rw [hs]
    refine iteF ?_
    obtain ⟨ds, rfl⟩ : ∃ ds, d = .tuple ds := by cases d <;> first | exact ⟨_, rfl⟩ | cases hs
    obtain ⟨a, xs, rfl, hS, hA⟩ : ∃ a xs, v = .ref a ∧ SqT K H a xs ∧ DaAll K H xs ds := by
      cases hd with
      | tup s a => exact ⟨_, _, rfl, s, a⟩
    obtain ⟨ok, few⟩ := hz ds rfl
    have L := hA.length
    refine ⟨_, rfl, _, xs.length, rfl, .inr ⟨_, hS, rfl⟩, _, _, rfl, rfl, _, rfl, ?_⟩
    refine ite2 (fun h1 => ?_) (fun h1 => ?_)
    rotate_left
    · refine ⟨_, rfl, iteT ?_⟩
      have n1 : ¬ 1 ≤ ds.length := by
        have := of_decide_eq_false (Bool.eq_false_iff.mpr h1)
        omega
      have kk := k H (Same.refl H)
      rw [show isChainD (.tuple ds) tp = false by simp only [isChainD, decide_eq_false n1, Bool.false_and]] at kk
      exact kk
    have p1 : 1 ≤ ds.length := by
      have := of_decide_eq_true h1
      omega
    refine ⟨_, rfl, _, _, rfl, rfl, _, _, rfl, rfl, _, rfl, ?_⟩
    by_cases h8 : (xs.length : Int) ≤ 1 + tp
    rotate_left
    · rw [decide_eq_false h8]
      refine iteT ?_
      have n8 : ¬ (ds.length : Int) ≤ tp + 1 := by omega
      have kk := k H (Same.refl H)
      rw [show isChainD (.tuple ds) tp = false by simp only [isChainD, decide_eq_false n8, Bool.false_and, Bool.and_false]] at kk
      exact kk
    rw [decide_eq_true h8]
    refine iteF ?_
    have p8 : (ds.length : Int) ≤ tp + 1 := by omega
    have we : isChainD (.tuple ds) tp = ds.all isWordD := by simp only [isChainD, decide_eq_true p1, decide_eq_true p8, Bool.true_and]
    rw [we] at k
    refine ⟨_, rfl, a, rfl, ⟨_, hS⟩, fun D hD => ?_⟩
    refine lc_it (walk_tup (xs := xs)) (fun i G => G D = some (.lst ((ds.take i).map fun e => V.bl (isWordD e))) ∧ Same H G)
      ⟨by rw [upd_same]; rfl, same_new hD⟩ (fun i G _ pv => ?_) (fun i x G G' hi pv y => ?_) (fun G pv => ?_)
    · obtain ⟨gD, S⟩ := pv
      rcases hS with (q | ⟨o, q⟩) | q
      · exact .inl (.inl (S _ _ q))
      · exact .inl (.inr ⟨o, S _ _ q⟩)
      · exact .inr q
    · obtain ⟨rfl, hx⟩ := y
      obtain ⟨gD, S⟩ := pv
      obtain ⟨e, he, hde⟩ := da_at hA hx
      have me : e ∈ ds := List.mem_of_getElem? he
      have tk : ds.take (i + 1) = ds.take i ++ [e] := by rw [List.take_add_one, he]; rfl
      refine ⟨rfl, _, rfl, x, e, rfl, hde.same S, ok e me, fun G2 S2 => ?_⟩
      refine ⟨_, S2 _ _ gD, by rw [List.length_map, List.length_take, sizeLine_eq]; omega, by rw [upd_same, tk, List.map_append]; rfl, fun b o e' => by rw [upd_ne (ne_of_none e' hD)]; exact S2 _ _ (S _ _ e')⟩
    · obtain ⟨gD, S⟩ := pv
      have ft : ds.take xs.length = ds := List.take_of_length_le (by omega)
      rw [ft] at gD
      refine ⟨D, ds.map isWordD, rfl, SqL.of (by rw [gD, List.map_map]; rfl), ?_⟩
      have kk := k _ S
      rw [List.all_map]
      exact kk
theorem scStretchP : FnScope ["value", "first", "last"] ["value"] (defScope pStretch) := ⟨rfl, rfl, rfl, by decide +kernel, rfl, by decide +kernel, by decide +kernel⟩
theorem ok_stretchP {f : Addr} {fd : FuncData} (F : Fun K "is_stretch" "is_stretch" pStretch f fd) (B : Pb mg)
    (GI : FnOk P w K mg base CX0 1 fI fdI ["value", "low", "high"] (spInt K)) (mI : mg "is_integer_in" = some (.ref fI)) (kI : PySem.W.keepIn K (.ref fI) = true) (bI : Binds K fdI ["value", "low", "high"] []) :
    FnOk P w K mg base CX0 2 f fd ["value"] (spIsStretch K) := by
  refine F.ok scStretchP (fun vs H Q E h => ?_) (fun cdv A outer s H vs Q E hr h => ?_)
  · obtain ⟨v, d, rfl, _⟩ := h
    rfl
  · obtain ⟨v, d, rfl, hd, k⟩ := h
    obtain ⟨tL, mL⟩ := B.limit
    refine ⟨_, pss_cons (ps_if (PW.pt (pw_or (pt_not (pt_val (pe_callB (call_isD kit_tup) (by rfl) B.isin (by decide +kernel) (pa_cons (pv 0) (pa_cons (pe_bltn (v := .ty "tuple") (by rfl) B.tup (by decide +kernel) rfl) pa_nil)))))
        (pw_or1 (pt_cmpR op_ne (pe_callB call_len (by rfl) B.len PySem.boot_len (pa_cons (pv 0) pa_nil)) pe_int (nomark _))))) (pss_one (ps_ret pe_bl)) pss_nil)
      (pss_cons (ps_asg (pv 0) (pg_tup (n := 2) rfl (pgs_cons (pg_name (i := 1) scStretchP.nd rfl (Or.inl rfl)) (pgs_cons (pg_name (i := 2) scStretchP.nd rfl (Or.inl rfl)) pgs_nil))))
      (pss_one (ps_ret (pe_and (pe_call GI hr (by rfl) mI kI bI .nil pass0 (pa_cons (pv 1) (pa_cons pe_int (pa_cons (pe_glob (v := .int (10 ^ 30)) (by rfl) mL ⟨_, rfl⟩) pa_nil))))
        (pe_one (pe_call GI hr (by rfl) mI kI bI .nil pass0 (pa_cons (pv 2) (pa_cons (pv 1) (pa_cons (pe_glob (v := .int (10 ^ 30)) (by rfl) mL ⟨_, rfl⟩) pa_nil))))))))), ?_⟩
    refine ⟨_, rfl, v, d, rfl, hd, _, rfl, ?_⟩
    by_cases hs : isTup d = true
    rotate_left
    · have e : isTup d = false := by simpa using hs
      rw [e]
      refine iteT ?_
      have e2 : isStretchD d = false := by cases d <;> first | rfl | cases e
      rw [e2] at k
      exact k
    rw [hs]
    refine iteF ?_
    obtain ⟨ds, rfl⟩ : ∃ ds, d = .tuple ds := by cases d <;> first | exact ⟨_, rfl⟩ | cases hs
    obtain ⟨a, xs, rfl, hS, hA⟩ : ∃ a xs, v = .ref a ∧ SqT K H a xs ∧ DaAll K H xs ds := by
      cases hd with
      | tup s a => exact ⟨_, _, rfl, s, a⟩
    refine ⟨_, rfl, _, xs.length, rfl, .inr ⟨_, hS, rfl⟩, ?_⟩
    have L := hA.length
    refine ⟨rfl, _, rfl, ?_⟩
    refine ite2 (fun hc => ?_) (fun hc => ?_)
    · have n2 : xs.length ≠ 2 := fun z => by
        rw [z] at hc
        revert hc
        decide
      have e2 : isStretchD (.tuple ds) = false := by
        match ds, L with
        | [], _ => rfl
        | [_], _ => rfl
        | [_, _], L => exact absurd L n2
        | _ :: _ :: _ :: _, _ => rfl
      rw [e2] at k
      exact k
    have l2 : xs.length = 2 := by
      have h := Bool.not_eq_true _ ▸ hc
      have h' : decide (V.int (xs.length : Int) = V.int 2) = true := by simpa using h
      have := V.int.inj (of_decide_eq_true h')
      omega
    obtain ⟨x, y, rfl⟩ : ∃ x y, xs = [x, y] := by
      match xs, l2 with
      | [x, y], _ => exact ⟨x, y, rfl⟩
    obtain ⟨d1, d2, rfl, h1, h2⟩ : ∃ d1 d2, ds = [d1, d2] ∧ Da K H x d1 ∧ Da K H y d2 := by
      cases hA with
      | cons p q =>
        cases q with
        | cons p' q' =>
          cases q'
          exact ⟨_, _, rfl, p, p'⟩
    have ez : ∀ d, intInD d 0 (10 ^ 30) = isNumD d := fun d => by cases d <;> rfl
    refine ⟨_, rfl, a, _, rfl, hS, rfl, ?_⟩
    refine ⟨_, _, rfl, _, _, rfl, rfl, ?_⟩
    refine ⟨_, rfl, x, d1, 0, 10 ^ 30, rfl, h1, _, rfl, ?_⟩
    rw [ez]
    by_cases n1 : isNumD d1 = true
    rotate_left
    · have e : isNumD d1 = false := by simpa using n1
      rw [e]
      refine iteF ?_
      rw [show isStretchD (.tuple [d1, d2]) = false by simp only [isStretchD, e, Bool.false_and]] at k
      exact k
    rw [n1]
    refine iteT ?_
    obtain ⟨i, rfl⟩ : ∃ i, d1 = .int i := by
      cases d1 with
      | int i => exact ⟨i, rfl⟩
      | _ => cases n1
    cases h1
    refine ⟨_, rfl, _, rfl, y, d2, i, 10 ^ 30, rfl, h2, ?_⟩
    have e : intInD d2 i (10 ^ 30) = isStretchD (.tuple [.int i, d2]) := by
      have i0 : 0 ≤ i := by
        have q : (decide (0 ≤ i) && decide (i ≤ 10 ^ 30)) = true := n1
        rw [Bool.and_eq_true] at q
        exact of_decide_eq_true q.1
      cases d2 with
      | int j =>
        show (decide (i ≤ j) && decide (j ≤ 10 ^ 30)) = (isNumD (.int i) && isNumD (.int j) && decide (i ≤ j))
        rw [n1, Bool.true_and]
        show _ = (decide (0 ≤ j) && decide (j ≤ 10 ^ 30) && decide (i ≤ j))
        by_cases q : i ≤ j
        · have j0 : 0 ≤ j := by omega
          simp [q, j0]
        · simp [q]
      | none => simp [intInD, isStretchD, isNumD]
      | bool b => simp [intInD, isStretchD, isNumD]
      | str z => simp [intInD, isStretchD, isNumD]
      | list z => simp [intInD, isStretchD, isNumD]
      | tuple z => simp [intInD, isStretchD, isNumD]
      | dict z => simp [intInD, isStretchD, isNumD]
    rw [e]
    exact k
end
end LW

/-! isinstance of an exception that has its dict. -/
namespace G
open PySem PySem.Spec PySem.Calls PyProof.Rows L2
open PySem.W (Frag)
section
variable {prog : Program} {w : World} {A : Around} {E : Value → Shared → Prop} {s : Shared} {K : Frag} {a C fI : Addr} {T : List Value} {ox : Obj} {od : Option Obj}
theorem find_class (R : ExK K C fI T) (D : ExD K) : PySem.W.findObj K C od "__class__" = some (.bind (.builtin "getset_descriptor.__get__") (.builtin "object.__class__")) := by
  obtain ⟨cd, hc, _⟩ := PySem.W.any_some R.hd
  simp only [PySem.W.findObj, hc, Option.bind_some, R.cl, D.hn, D.ht]
theorem ask_class (R : ExK K C fI T) (D : ExD K) (kin : K.In s.heap) (I : PySem.W.InstAt s.heap a ox C od) {Q : Option Value → Shared → Prop} (h : Q (some (.ref C)) { s with toks := s.toks + 1 }) :
    wpAny (model prog w) A (getAttr? (.ref a) "__class__") Q E s := by
  obtain ⟨hp, g, d, t, os⟩ := s
  have ty := I.type (M := model prog w)
  have l1 := PySem.W.looks_findIn (M := model prog w) kin R.ga
  have l2 := PySem.W.looks_findIn (M := model prog w) kin R.gg
  have l3 := PySem.W.looks_find (M := model prog w) kin I (find_class (od := od) R D)
  have isB : PySem.W.Looks (model prog w) hp (isInstance (.ref a) (.type "BaseException")) true := ty.andThen (PySem.W.looks_subIn kin R.exC)
  have other : (Value.builtin "BaseException.__getattribute__" == Value.builtin "object.__getattribute__") = false := by decide +kernel
  have c1 : (onTheHeap (Value.ref C) && Value.builtin "BaseException.__getattribute__" == Value.builtin "object.__getattribute__") = false := by rw [other, Bool.and_false]
  unfold getAttr? getAttrBy? getAttrBy
  refine wpAny_bind (wpAny_mkText (wpAny_bind (wpAny_attempt (wpAny_holding (wpAny_bind (ty.at (wpAny_bind (l1.at ?_))))))))
  show wpAny _ _ (if (onTheHeap (Value.ref C) && Value.builtin "BaseException.__getattribute__" == Value.builtin "object.__getattribute__") = true then _ else _) _ _ _
  rw [if_neg (by rw [c1]; exact Bool.false_ne_true)]
  unfold getAttrByItsOwn hookBefore
  refine wpAny_bind ?_
  rw [if_pos (show onTheHeap (Value.ref C) = true from rfl)]
  refine l2.at (wpAny_bind (wpAny_attempt (wpAny_holding ?_)))
  unfold callGetattribute
  rw [if_neg (show ¬ (false && onTheHeap (Value.builtin "BaseException.__getattribute__")) = true from Bool.false_ne_true)]
  unfold boundAndCalled
  rw [PySem.F.excAttr_ValueError.ga.bind (.ref a)]
  refine wpAny_bind (wpAny_pure ?_)
  show wpAny _ _ (call (.builtin "BaseException.__getattribute__") [.ref a, .str "__class__" t]) _ _ _
  refine wpAny_call (codeAny_call_builtin PySem.F.excAttr_ValueError.ga.plain PySem.F.entry_bexc_ga (@PySem.W.check_slot (model prog w) _ _ ⟨hp, g, d, t + 1, os⟩ "BaseException.__getattribute__" "BaseException" "__getattribute__" (.ref a) [.str "__class__" t] [] _
    (by decide +kernel) (by decide +kernel) isB (PySem.F.args_bexc_ga (.ref a) (.str "__class__" t)) ?_))
  unfold Builtin.«object.__getattribute__»
  refine wpAny_bind (wpAny_of_eq (a := ((Value.ref a : Value), [Value.str "__class__" t])) (by first | rfl | (simp only [slotArgs]; rfl)) ?_)
  refine wpAny_bind (wpAny_pure (wpAny_bind (ty.at (wpAny_bind (l3.at ?_)))))
  show wpAny _ _ (holding [Value.builtin "object.__class__"] (call (.builtin "getset_descriptor.__get__") [.builtin "object.__class__", .ref a, .ref C]) >>= ret) _ _ _
  refine wpAny_bind (wpAny_holding (wpAny_call (PySem.W.class_get (s := ⟨hp, g, d, t + 1, os⟩) (ox := ox) (od := od) kin I R.ob (wpAny_pure ?_))))
  show wpAny _ _ (handedOut (.ref C)) _ _ _
  rw [PySem.W.handedOut_of (v := .ref C) rfl]
  first
    | exact wpAny_pure (wpAny_pure h)
    | exact wpAny_pure h
    | exact wpAny_pure (wpAny_bind (wpAny_pure (wpAny_pure h)))
theorem kit_ex (R : ExK K C fI T) (D : ExD K) : PySem.W.KitX K (.ref a) (.ref C) (fun h => PySem.W.InstAt h a ox C od) := by
  obtain ⟨cd, hc, _⟩ := PySem.W.any_some R.hd
  obtain ⟨c', d', sl', ho⟩ : ∃ c' d' sl', K.lookup C = some ⟨c', d', .cls cd, sl'⟩ := by
    unfold PySem.W.clsIn at hc
    split at hc
    · rename_i c' d' cd' sl' ho
      cases hc
      exact ⟨_, _, _, ho⟩
    · cases hc
  refine ⟨fun _ _ _ I => I.type, fun M h kin _ => ?_, fun h tp dd its n sl kin here => ?_, fun kin I q => ask_class R D kin I q⟩
  · intro A' Q' E' s' k q
    unfold isType loadHead
    exact wpAny_bind (wpAny_loadPart (k _ _ (kin _ _ ho)) (wpAny_pure q))
  · refine Bool.eq_false_iff.mpr fun q => ?_
    have e : C = tp := Value.ref.inj (beq_iff_eq.mp q)
    rw [← e, kin _ _ ho] at here
    cases here
end
/-- at a: an exception of the class at C, with or without a dict -/
def ExAt (H : Hp) (a C : Addr) : Prop := H a = some (exo a C none) ∨ ∃ (d : Addr) (fs : List (Str × V)), H a = some (exo a C (some d)) ∧ H d = some (exd d fs)
section
variable {X : Cx}
/-- isinstance(e, c), e an exception with its dict; c one class, or a tuple of classes just laid -/
def rIsx (K : Frag) : List V → Hp → VK → Prop := fun xs H Q => ∃ (a C fI : Addr) (T : List Value) (c : V) (u : Value) (b : Bool), xs = [.ref a, c] ∧ ExK K C fI T ∧ ExD K ∧ ExAt H a C ∧ ClsV c u ∧ PySem.W.kitOne K (.ref C) u = some b ∧ Q (.bl b) H
def rIsxT (K : Frag) : List V → Hp → VK → Prop := fun xs H Q => ∃ (a C fI tp : Addr) (T : List Value) (cs : List V) (us : List Value) (b : Bool), xs = [.ref a, .ref tp] ∧ ExK K C fI T ∧ ExD K ∧ ExAt H a C ∧
  H tp = some (.tup cs) ∧ Paired ClsV cs us ∧ PySem.W.kitAny K (.ref C) us = some b ∧ Q (.bl b) H
theorem inst_of {pins : List (Addr × Obj)} {σ : L2.St} {H : Hp} {s : Shared} {a C : Addr} (I : Inv X pins σ H s) (e : ExAt H a C) : ∃ ox od, PySem.W.InstAt s.heap a ox C od := by
  rcases e with e1 | ⟨d, fs, e1, e2⟩
  · obtain ⟨t1, ho⟩ := exo_at I.hok e1
    exact ⟨_, none, ho, rfl, rfl, trivial⟩
  obtain ⟨t1, ho⟩ := exo_at I.hok e1
  obtain ⟨mA, hns, _⟩ := exd_at I.hok e2
  obtain ⟨od, hod, _⟩ := lookIn_ns hns
  exact ⟨_, some od, ho, rfl, rfl, hod⟩
theorem call_isx : CallR X (.builtin "isinstance") (rIsx X.K) := by
  rintro pins s σ H xs us Q I r ⟨a, C, fI, T, c, u, b, rfl, R, D, e1, k, kit, q⟩
  obtain ⟨u1, u2, rfl, r1, r2⟩ := vals2 r
  cases r1
  obtain rfl := k.eq r2
  obtain ⟨ox, od, J⟩ := inst_of I e1
  exact PySem.W.kia_one (kit_ex R D) I.kIn J kit (fun z => nomatch z) fun tk => ⟨.bl b, H, I.tok tk, rfl, q⟩
theorem call_isxT : CallR X (.builtin "isinstance") (rIsxT X.K) := by
  rintro pins s σ H xs us Q I r ⟨a, C, fI, tp, T, cs, ws, b, rfl, R, D, e1, et, k, kit, q⟩
  obtain ⟨u1, u2, rfl, r1, r2⟩ := vals2 r
  cases r1
  cases r2
  obtain ⟨ox, od, J⟩ := inst_of I e1
  obtain ⟨_, its, rv, o, h1, h2, n, h3⟩ := (show ObjOk X.prog X.w H s.heap tp (.tup cs) from I.hok tp _ et)
  obtain rfl := ClsV.all k rv
  obtain ⟨oc, od', dt, sl⟩ := o
  dsimp only at h2 h3
  subst h2 h3
  exact PySem.W.kia_tup (kit_ex R D) I.kIn J h1 kit (fun z => nomatch z) fun tk => ⟨.bl b, H, I.tok tk, rfl, q⟩
end
end G

/-! Rows of exceptions: what is made, what is read off it, put into a list. -/
namespace G
open PySem PySem.Spec L2
open PySem.W (Frag)
/-- te comes to a value and a heap of which R holds -/
def Ev1 (te : TE) (σ : L2.St) (H : Hp) (R : V → Hp → Prop) : Prop := ∀ Q : VK, (∀ x G, R x G → Q x G) → te σ H Q
/-- the arguments come to vs, nothing changes -/
def EvA (ta : TA) (σ : L2.St) (vs : List V) : Prop := ∀ (H : Hp) (Q : List V → Hp → Prop), Q vs H → ta σ H Q
theorem eva_nil {σ : L2.St} : EvA tNil σ [] := fun H Q q => q
theorem eva_var {i : Nat} {ta : TA} {σ : L2.St} {v : V} {vs : List V} (h : σ[i]? = some (some v)) (t : EvA ta σ vs) : EvA (tCons (tVar i) ta) σ (v :: vs) := fun H Q q => ⟨v, h, t H _ q⟩
theorem eva_c {ta : TA} {σ : L2.St} {v : V} {vs : List V} (t : EvA ta σ vs) : EvA (tCons (tC v) ta) σ (v :: vs) := fun H Q q => t H _ q
/-- a new exception of the class at C, its fields -/
def IsEx (C : Addr) (fs : List (Str × V)) (H : Hp) : V → Hp → Prop := fun x G => Same H G ∧ ∃ a d, x = .ref a ∧ G a = some (exo a C (some d)) ∧ G d = some (exd d fs)
def IsV (v : V) (H : Hp) : V → Hp → Prop := fun x G => Same H G ∧ x = v
def IsE (C : Addr) (H : Hp) : V → Hp → Prop := fun x G => Same H G ∧ ∃ a, x = .ref a ∧ ExAt G a C
def spF1 (C : Addr) (f : Str) : Sp := fun vs H Q _ => ∃ a v, vs = [.ref a, v] ∧ H a = some (exo a C none) ∧ ∀ d, H d = none → d ≠ a → Q .non (upd (upd H d (exd d [(f, v)])) a (exo a C (some d)))
def spF2 (C : Addr) (f g : Str) : Sp := fun vs H Q _ => ∃ a v w, vs = [.ref a, v, w] ∧ H a = some (exo a C none) ∧ ∀ d H', H d = none → d ≠ a → (∀ b o, H b = some o → b ≠ a → H' b = some o) → H' a = some (exo a C (some d)) → H' d = some (exd d [(g, w), (f, v)]) → Q .non H'
section
variable {K : Frag} {C fI : Addr} {T : List Value} {f g s : Str} {ta tk : TA} {te te1 te2 te3 : TE} {σ : L2.St} {H : Hp} {v w : V} {fs : List (Str × V)}
theorem made1 {a d : Addr} (n : H a = none) (nd : (upd H a (exo a C none)) d = none) (ne : d ≠ a) : IsEx C [(f, v)] H (.ref a) (upd (upd (upd H a (exo a C none)) d (exd d [(f, v)])) a (exo a C (some d))) := by
  have nd0 : H d = none := by rw [upd_ne ne] at nd; exact nd
  refine ⟨fun b o e => ?_, a, d, rfl, upd_same, ?_⟩
  · rw [upd_ne (ne_of_none e n), upd_ne (ne_of_none e nd0), upd_ne (ne_of_none e n)]
    exact e
  · rw [upd_ne ne, upd_same]
theorem ev_mk1 (A : EvA ta σ [v]) : Ev1 (tMk C (spF1 C f) ta) σ H (IsEx C [(f, v)] H) := fun Q q =>
  A H _ ⟨(show 1 ≤ 1000 by decide), fun a n => ⟨a, v, rfl, upd_same, fun d nd ne => ⟨rfl, q _ _ (made1 n nd ne)⟩⟩⟩
theorem ev_mkK1 {perm : {α : Type} → List α → List α} {zs : List V} {m : Nat} (hp : perm zs = [v]) (hm : zs.length = m) (A : EvA tk σ zs) : Ev1 (tMkK C m perm (spF1 C f) tk) σ H (IsEx C [(f, v)] H) := fun Q q =>
  A H _ ⟨hm, fun a n => ⟨a, v, congrArg (V.ref a :: ·) hp, upd_same, fun d nd ne => ⟨rfl, q _ _ (made1 n nd ne)⟩⟩⟩
theorem made2 {a d : Addr} {H' : Hp} (n : H a = none) (old : ∀ b o, (upd H a (exo a C none)) b = some o → b ≠ a → H' b = some o) (e1 : H' a = some (exo a C (some d))) (e2 : H' d = some (exd d fs)) : IsEx C fs H (.ref a) H' := by
  refine ⟨fun b o e => old b o ?_ (ne_of_none e n), a, d, rfl, e1, e2⟩
  rw [upd_ne (ne_of_none e n)]
  exact e
theorem ev_mk2 (A : EvA ta σ [v, w]) : Ev1 (tMk C (spF2 C f g) ta) σ H (IsEx C [(g, w), (f, v)] H) := fun Q q =>
  A H _ ⟨(show 2 ≤ 1000 by decide), fun a n => ⟨a, v, w, rfl, upd_same, fun d H' nd ne old e1 e2 => ⟨rfl, q _ _ (made2 n old e1 e2)⟩⟩⟩
theorem ev_mkK2 {perm : {α : Type} → List α → List α} {zs : List V} {m : Nat} (hp : perm zs = [v, w]) (hm : zs.length = m) (A : EvA tk σ zs) : Ev1 (tMkK C m perm (spF2 C f g) tk) σ H (IsEx C [(g, w), (f, v)] H) := fun Q q =>
  A H _ ⟨hm, fun a n => ⟨a, v, w, congrArg (V.ref a :: ·) hp, upd_same, fun d H' nd ne old e1 e2 => ⟨rfl, q _ _ (made2 n old e1 e2)⟩⟩⟩
theorem ev_mk0 {perm : {α : Type} → List α → List α} (hp : perm ([] : List V) = []) (sp : Sp) (hs : ∀ a H Q, H a = some (exo a C none) → Q V.non H → sp [.ref a] H Q (fun _ _ _ => False)) : Ev1 (tMkK C 0 perm sp tNil) σ H (IsE C H) := fun Q q =>
  ⟨rfl, fun a n => by
    show sp (V.ref a :: perm ([] : List V)) _ _ _
    rw [hp]
    exact hs a _ _ upd_same ⟨rfl, q _ _ ⟨same_new n, a, rfl, .inl upd_same⟩⟩⟩
theorem ev_get (R : ExK K C fI T) (nf : PySem.W.findIn K (.ref C) f = some none) (l : fs.lookup f = some v) (E : Ev1 te σ H (IsEx C fs H)) : Ev1 (tGet K f te) σ H (IsV v H) := fun Q q =>
  E _ fun x G ⟨s, a, d, e, e1, e2⟩ => ⟨a, C, fI, d, T, fs, v, none, e, R, e1, e2, nf, rfl, l, q _ _ ⟨s, rfl⟩⟩
theorem ev_getv {i : Nat} {a d : Addr} (R : ExK K C fI T) (nf : PySem.W.findIn K (.ref C) f = some none) (l : fs.lookup f = some v) (h : σ[i]? = some (some (.ref a))) (e1 : H a = some (exo a C (some d))) (e2 : H d = some (exd d fs)) : Ev1 (tGet K f (tVar i)) σ H (IsV v H) := fun Q q =>
  ⟨_, h, a, C, fI, d, T, fs, v, none, rfl, R, e1, e2, nf, rfl, l, q _ _ ⟨Same.refl H, rfl⟩⟩
theorem ev_v {i : Nat} (h : σ[i]? = some (some v)) : Ev1 (tVar i) σ H (IsV v H) := fun Q q => ⟨v, h, q _ _ ⟨Same.refl H, rfl⟩⟩
theorem ev_e (E : Ev1 te σ H (IsEx C fs H)) : Ev1 te σ H (IsE C H) := fun Q q => E Q fun x G ⟨s, a, d, e, e1, e2⟩ => q x G ⟨s, a, e, .inr ⟨d, fs, e1, e2⟩⟩
theorem ExAt.same {G : Hp} {a : Addr} (e : Same H G) : ExAt H a C → ExAt G a C
  | .inl h => .inl (e _ _ h)
  | .inr ⟨d, fs, h1, h2⟩ => .inr ⟨d, fs, e _ _ h1, e _ _ h2⟩
/-- a row: a tuple of an exception of the class at C, twice the thing, a word -/
def RowAt (H : Hp) (C : Addr) (s : Str) (v r : V) : Prop := ∃ t e, r = .ref t ∧ H t = some (.tup [.ref e, v, v, .str s]) ∧ ExAt H e C
theorem RowAt.same {G : Hp} {r : V} (e : Same H G) : RowAt H C s v r → RowAt G C s v r
  | ⟨t, a, h1, h2, h3⟩ => ⟨t, a, h1, e _ _ h2, h3.same e⟩
theorem exo_lst {e C : Addr} {d : Option Addr} {xs : List V} : exo e C d ≠ .lst xs := fun z => by
  have z' : HO.ext _ = HO.lst xs := z
  cases z'
theorem exd_lst {e : Addr} {fs : List (Str × V)} {xs : List V} : exd e fs ≠ .lst xs := fun z => by
  have z' : HO.ext _ = HO.lst xs := z
  cases z'
/-- rows stay where a list alone is written -/
theorem RowAt.but {G : Hp} {r : V} {l : Addr} {xs : List V} (hl : H l = some (.lst xs)) (e : ∀ b o, H b = some o → b ≠ l → G b = some o) : RowAt H C s v r → RowAt G C s v r
  | ⟨t, a, h1, h2, h3⟩ => ⟨t, a, h1, e _ _ h2 (ne_of h2 hl (by intro z; cases z)), by
      rcases h3 with h | ⟨d, fs, h, k⟩
      · exact .inl (e _ _ h (ne_of h hl exo_lst))
      · exact .inr ⟨d, fs, e _ _ h (ne_of h hl exo_lst), e _ _ k (ne_of k hl exd_lst)⟩⟩
/-- found.append((te1, te2, te3, s)) -/
theorem rd_row {D : Ends} {l : Addr} {rs : List V} (h1 : σ[1]? = some (some (.ref l))) (hl : H l = some (.lst rs)) (few : rs.length ≤ 1000)
    (E1 : ∀ G, Same H G → Ev1 te1 σ G (IsE C G)) (E2 : ∀ G, Same H G → Ev1 te2 σ G (IsV v G)) (E3 : ∀ G, Same H G → Ev1 te3 σ G (IsV v G))
    (k : ∀ r G, (∀ b o, H b = some o → b ≠ l → G b = some o) → G l = some (.lst (rs ++ [r])) → RowAt G C s v r → D.nx σ G) :
    tDrop (tBM K "list" rAppend (tVar 1) (tCons (tTup (tCons te1 (tCons te2 (tCons te3 (tCons (tC (.str s)) tNil))))) tNil)) D σ H := by
  refine ⟨_, h1, .inl ⟨rfl, _, Or.inl (Or.inl hl)⟩, ?_⟩
  refine E1 H (Same.refl H) _ fun x1 G1 ⟨s1, a, e1, x⟩ => ?_
  subst e1
  refine E2 G1 s1 _ fun x2 G2 ⟨s2, e2⟩ => ?_
  subst e2
  refine E3 G2 (s1.trans s2) _ fun x3 G3 ⟨s3, e3⟩ => ?_
  subst e3
  refine ⟨by show 4 ≤ sizeLine; decide, fun t ht => ?_⟩
  have t1 := same_new (o := .tup [.ref a, x3, x3, .str s]) ht
  have S := ((s1.trans s2).trans s3).trans t1
  refine ⟨l, rs, .ref t, rfl, rfl, S _ _ hl, by rw [sizeLine_eq]; omega, ?_⟩
  refine k _ _ (fun b o e hb => by rw [upd_ne hb]; exact S _ _ e) upd_same (RowAt.but (S _ _ hl) (fun b o e hb => by rw [upd_ne hb]; exact e) ⟨t, a, rfl, upd_same, (x.same (s2.trans s3)).same t1⟩)
end
end G

/-! The program's checks that raise an error of its own with the wrong value. -/
namespace LW
open PySem L2 G
abbrev eWord : Stmt := inClass (top 16) 0
abbrev eChain : Stmt := inClass (top 17) 0
abbrev eStretch : Stmt := inClass (top 18) 0
abbrev pCheckW : Stmt := top 34
abbrev pCheckS : Stmt := top 35
abbrev pDays : Stmt := top 36
/-- an error class with the field value -/
structure Er (P : Program) (w : World) (K : PySem.W.Frag) (mg : Str → Option Value) (base : Heap) (x : Str) (C fI : Addr) (fd : FuncData) : Prop where
  g : mg x = some (.ref C)
  T : OexC K C
  iC : PySem.W.findIn K (.ref C) "__init__" = some (some (.ref fI))
  tI : PySem.W.typeIn K (.ref fI) = some (.type "function")
  I : FnOk P w K mg base CX0 1 fI fd ["self", "value"] (spF1 C "value")
  b : Binds K fd ["self", "value"] []
section
variable {P : Program} {w : World} {K : PySem.W.Frag} {mg : Str → Option Value} {base : Heap} {C fI : Addr} {fd : FuncData}
theorem scE1 : FnScope ["self", "value"] ["self", "value"] (defScope eWord) := ⟨rfl, rfl, rfl, by decide +kernel, rfl, by decide +kernel, by decide +kernel⟩
theorem scE2 : FnScope ["self", "value"] ["self", "value"] (defScope eChain) := ⟨rfl, rfl, rfl, by decide +kernel, rfl, by decide +kernel, by decide +kernel⟩
theorem scE3 : FnScope ["self", "value"] ["self", "value"] (defScope eStretch) := ⟨rfl, rfl, rfl, by decide +kernel, rfl, by decide +kernel, by decide +kernel⟩
theorem er_word (g : mg "InvalidWord" = some (.ref C)) (T : OexC K C) (nf : PySem.W.findIn K (.ref C) "value" = some none) (iC : PySem.W.findIn K (.ref C) "__init__" = some (some (.ref fI))) (tI : PySem.W.typeIn K (.ref fI) = some (.type "function"))
    (F : Fun K "__init__" "InvalidWord.__init__" eWord fI fd) : Er P w K mg base "InvalidWord" C fI fd := by
  refine ⟨g, T, iC, tI, F.ok scE1 (fun vs H Q E h => ?_) (fun cdv A outer s H vs Q E hr h => ?_), F.binds fun _ _ _ _ _ _ us hl => match us, hl with | [_, _], _ => rfl⟩
  · obtain ⟨a, v, rfl, _⟩ := h
    rfl
  · obtain ⟨a, v, rfl, ea, q⟩ := h
    exact ⟨_, pss_one (ps_ost (pv 0) (pv 1)), ⟨_, rfl, _, rfl, a, C, rfl, T, nf, .inl ⟨ea, fun d n ne => q d n ne⟩⟩⟩
theorem er_chain (g : mg "InvalidChain" = some (.ref C)) (T : OexC K C) (nf : PySem.W.findIn K (.ref C) "value" = some none) (iC : PySem.W.findIn K (.ref C) "__init__" = some (some (.ref fI))) (tI : PySem.W.typeIn K (.ref fI) = some (.type "function"))
    (F : Fun K "__init__" "InvalidChain.__init__" eChain fI fd) : Er P w K mg base "InvalidChain" C fI fd := by
  refine ⟨g, T, iC, tI, F.ok scE2 (fun vs H Q E h => ?_) (fun cdv A outer s H vs Q E hr h => ?_), F.binds fun _ _ _ _ _ _ us hl => match us, hl with | [_, _], _ => rfl⟩
  · obtain ⟨a, v, rfl, _⟩ := h
    rfl
  · obtain ⟨a, v, rfl, ea, q⟩ := h
    exact ⟨_, pss_one (ps_ost (pv 0) (pv 1)), ⟨_, rfl, _, rfl, a, C, rfl, T, nf, .inl ⟨ea, fun d n ne => q d n ne⟩⟩⟩
theorem er_stretch (g : mg "InvalidStretch" = some (.ref C)) (T : OexC K C) (nf : PySem.W.findIn K (.ref C) "value" = some none) (iC : PySem.W.findIn K (.ref C) "__init__" = some (some (.ref fI))) (tI : PySem.W.typeIn K (.ref fI) = some (.type "function"))
    (F : Fun K "__init__" "InvalidStretch.__init__" eStretch fI fd) : Er P w K mg base "InvalidStretch" C fI fd := by
  refine ⟨g, T, iC, tI, F.ok scE3 (fun vs H Q E h => ?_) (fun cdv A outer s H vs Q E hr h => ?_), F.binds fun _ _ _ _ _ _ us hl => match us, hl with | [_, _], _ => rfl⟩
  · obtain ⟨a, v, rfl, _⟩ := h
    rfl
  · obtain ⟨a, v, rfl, ea, q⟩ := h
    exact ⟨_, pss_one (ps_ost (pv 0) (pv 1)), ⟨_, rfl, _, rfl, a, C, rfl, T, nf, .inl ⟨ea, fun d n ne => q d n ne⟩⟩⟩
/-- what is wished of such an error of the value v, raised from H on -/
def Wants (E : XK) (C : Addr) (v : V) (H : Hp) : Prop := ∀ (d : Addr) (H' : Hp), Same H H' → H d = none → H' d = some (.xd [("value", v)]) → E (.ref C) (some d) H'
theorem Wants.same {E : XK} {C : Addr} {v : V} {H H' : Hp} (h : Wants E C v H) (s : Same H H') : Wants E C v H' := fun d G t n e => h d G (s.trans t) (s.free n) e
/-- the reading of «raise X(v)» -/
theorem mk_er {σ : L2.St} {H : Hp} {Q : XK} {ta : TA} {v : V} (ht : ∀ R : List V → Hp → Prop, R [v] H → ta σ H R) (h : Wants Q C v H) : tMkO C (spF1 C "value") [] ta σ H Q := by
  refine ht _ ⟨by show 1 ≤ 1000; decide, fun a na => ?_⟩
  refine ⟨a, v, rfl, upd_same, fun d nd ne => ⟨rfl, d, [("value", v)], upd_same, by rw [upd_ne ne, upd_same], ?_, ?_⟩⟩
  · rw [upd_ne ne] at nd
    exact nd
  · have nd' : H d = none := by
      rw [upd_ne ne] at nd
      exact nd
    refine h d _ (fun b o e => ?_) nd' upd_same
    have b1 : b ≠ a := ne_of_none e na
    have b2 : b ≠ d := ne_of_none e nd'
    rw [upd_ne b2, del_ne b1, upd_ne b1, upd_ne b2, upd_ne b1]
    exact e
end
end LW

namespace LW
open PySem L2 G
def okStr (d : PyData) : Prop := ∀ z, d = .str z → z.length ≤ sizeLine ∧ PyData.strOk z = true
def okTup (d : PyData) : Prop := ∀ ds, d = .tuple ds → strsOk ds ∧ ds.length ≤ 100000
def spCheckW (K : PySem.W.Frag) (C : Addr) : Sp := fun vs H Q E => ∃ (v : V) (d : PyData), vs = [v] ∧ Da K H v d ∧ okStr d ∧ (isWordD d = true → ∀ H', Same H H' → Q .non H') ∧ (isWordD d = false → Wants E C v H)
def spCheckS (K : PySem.W.Frag) (C : Addr) : Sp := fun vs H Q E => ∃ (v : V) (d : PyData), vs = [v] ∧ Da K H v d ∧ (isStretchD d = true → Q .non H) ∧ (isStretchD d = false → Wants E C v H)
/-- the stretch that days stand for -/
def spDays (K : PySem.W.Frag) (C : Addr) : Sp := fun vs H Q E => ∃ (v : V) (d : PyData), vs = [v] ∧ Da K H v d ∧ (d = .none → ∀ q, H q = none → Q (.ref q) (upd H q (.tup [.int 0, .int (10 ^ 30)]))) ∧ (isStretchD d = true → Q v H) ∧ (d ≠ .none → isStretchD d = false → Wants E C v H)
section
variable {P : Program} {w : World} {K : PySem.W.Frag} {mg : Str → Option Value} {base : Heap}
variable {fW fS fI C : Addr} {fdW fdS fdI : FuncData}
theorem scCheckW : FnScope ["value"] ["value"] (defScope pCheckW) := ⟨rfl, rfl, rfl, by decide +kernel, rfl, by decide +kernel, by decide +kernel⟩
theorem scCheckS : FnScope ["value"] ["value"] (defScope pCheckS) := ⟨rfl, rfl, rfl, by decide +kernel, rfl, by decide +kernel, by decide +kernel⟩
theorem scDays : FnScope ["value"] ["value"] (defScope pDays) := ⟨rfl, rfl, rfl, by decide +kernel, rfl, by decide +kernel, by decide +kernel⟩
theorem ok_checkW {f : Addr} {fd : FuncData} (F : Fun K "_check_word" "_check_word" pCheckW f fd) (R : Er P w K mg base "InvalidWord" C fI fdI)
    (GW : FnOk P w K mg base CX0 1 fW fdW ["value"] (spIsWord K)) (mW : mg "is_word" = some (.ref fW)) (kW : PySem.W.keepIn K (.ref fW) = true) (bW : Binds K fdW ["value"] []) :
    FnOk P w K mg base (L2.CX P w) 3 f fd ["value"] (spCheckW K C) := by
  refine F.okX scCheckW (fun vs H Q E h => ?_) (fun cdv A outer s H vs Q E hr h => ?_)
  · obtain ⟨v, d, rfl, _⟩ := h
    rfl
  · obtain ⟨v, d, rfl, hd, hz, k1, k2⟩ := h
    refine ⟨_, pss_one (ps_if (pt_not (pt_val (pe_call GW (hr.mono (by decide)) (by rfl) mW kW bW .nil pass0 (pa_cons (pv 0) pa_nil))))
      (pss_one (ps_raise rfl (takes_of rfl rfl rfl rfl) (pmk_oex (C := C) (fI := fI) R.T R.iC R.tI R.I hr R.b .nil pass0 (by rfl) R.g (pa_cons (pv 0) pa_nil)))) pss_nil), ?_⟩
    refine ⟨_, rfl, v, d, rfl, hd, hz, fun H' S => ⟨_, rfl, ?_⟩⟩
    cases hw : isWordD d with
    | true => exact iteF (k1 hw H' S)
    | false => exact iteT (mk_er (fun R h => ⟨_, rfl, h⟩) ((k2 hw).same S))
theorem ok_checkS {f : Addr} {fd : FuncData} (F : Fun K "_check_stretch" "_check_stretch" pCheckS f fd) (R : Er P w K mg base "InvalidStretch" C fI fdI)
    (GS : FnOk P w K mg base CX0 2 fS fdS ["value"] (spIsStretch K)) (mS : mg "is_stretch" = some (.ref fS)) (kS : PySem.W.keepIn K (.ref fS) = true) (bS : Binds K fdS ["value"] []) :
    FnOk P w K mg base (L2.CX P w) 3 f fd ["value"] (spCheckS K C) := by
  refine F.okX scCheckS (fun vs H Q E h => ?_) (fun cdv A outer s H vs Q E hr h => ?_)
  · obtain ⟨v, d, rfl, _⟩ := h
    rfl
  · obtain ⟨v, d, rfl, hd, k1, k2⟩ := h
    refine ⟨_, pss_one (ps_if (pt_not (pt_val (pe_call GS (hr.mono (by decide)) (by rfl) mS kS bS .nil pass0 (pa_cons (pv 0) pa_nil))))
      (pss_one (ps_raise rfl (takes_of rfl rfl rfl rfl) (pmk_oex (C := C) (fI := fI) R.T R.iC R.tI R.I hr R.b .nil pass0 (by rfl) R.g (pa_cons (pv 0) pa_nil)))) pss_nil), ?_⟩
    refine ⟨_, rfl, v, d, rfl, hd, _, rfl, ?_⟩
    cases hw : isStretchD d with
    | true => exact iteF (k1 hw)
    | false => exact iteT (mk_er (fun R h => ⟨_, rfl, h⟩) (k2 hw))
theorem ok_days {f : Addr} {fd : FuncData} (F : Fun K "_checked_days" "_checked_days" pDays f fd) (B : Pb mg)
    (GC : FnOk P w K mg base (L2.CX P w) 3 fS fdS ["value"] (spCheckS K C)) (mC : mg "_check_stretch" = some (.ref fS)) (kC : PySem.W.keepIn K (.ref fS) = true) (bC : Binds K fdS ["value"] []) :
    FnOk P w K mg base (L2.CX P w) 4 f fd ["value"] (spDays K C) := by
  refine F.okX scDays (fun vs H Q E h => ?_) (fun cdv A outer s H vs Q E hr h => ?_)
  · obtain ⟨v, d, rfl, _⟩ := h
    rfl
  · obtain ⟨v, d, rfl, hd, k1, k2, k3⟩ := h
    obtain ⟨tL, mL⟩ := B.limit
    refine ⟨_, pss_cons (ps_if (pt_cmpR op_isN (pv 0) pe_non (nomark _)) (pss_one (ps_ret (pe_tup (pa_cons pe_int (pa_cons (pe_glob (v := .int (10 ^ 30)) (by rfl) mL ⟨_, rfl⟩) pa_nil))))) pss_nil)
      (pss_cons (ps_expr (pe_call GC hr (by rfl) mC kC bC .nil (passes_call (takes_of rfl rfl rfl rfl) (fun _ _ _ _ h => h)) (pa_cons (pv 0) pa_nil)))
      (pss_one (ps_ret (pv 0)))), ?_⟩
    refine ⟨_, rfl, rfl, ?_⟩
    by_cases hn : d = .none
    · subst hn
      cases hd
      refine ⟨_, rfl, iteT ⟨by show 2 ≤ sizeLine; decide, fun q hq => ?_⟩⟩
      exact k1 rfl q hq
    · have nv : v ≠ V.non := fun z => by
        subst z
        cases hd
        exact hn rfl
      refine ⟨_, rfl, ?_⟩
      rw [decide_eq_false nv]
      refine iteF ⟨_, rfl, v, d, rfl, hd, fun hw => ⟨_, rfl, k2 hw⟩, fun hw => k3 hn hw⟩
end
end LW

/-! The texts of statements. -/
namespace LW
open PySem L2 G
abbrev pNText : Stmt := top 24
abbrev pCText : Stmt := top 26
abbrev pDText : Stmt := top 28
def chainT (ws : List Str) : Str := Txt.join " " ws
def daysT (i j : Int) : Str := if i = 0 ∧ j = 10 ^ 30 then "" else Str.empty ++ " @ " ++ Str.ofString (toString i) ++ " " ++ Str.ofString (toString j)
def namT (p n : Str) (ws : List Str) (i j : Int) : Str := Str.empty ++ p ++ " " ++ n ++ " = " ++ chainT ws ++ daysT i j
theorem sl (a b : Str) : (a ++ b).length = a.length + b.length := by
  rw [← len_list, ← len_list, ← len_list, PyProof.Rows.cps_toList_append, List.length_append]
theorem join_len (sep : Str) : ∀ l : List Str, (Str.join sep l).length ≤ (l.map (·.length)).sum + l.length * sep.length
  | [] => Nat.zero_le _
  | [a] => by
    show a.length ≤ _
    simp only [List.map_cons, List.map_nil, List.sum_cons, List.sum_nil, List.length_cons, List.length_nil]
    omega
  | a :: b :: r => by
    have h := join_len sep (b :: r)
    show (a ++ sep ++ Str.join sep (b :: r)).length ≤ _
    rw [sl, sl]
    simp only [List.map_cons, List.sum_cons, List.length_cons] at h ⊢
    have e : (r.length + 1 + 1) * sep.length = (r.length + 1) * sep.length + sep.length := Nat.succ_mul _ _
    omega
theorem blank : (Str.ofString " ").length = 1 := by decide +kernel
theorem chainT_len {ws : List Str} : (chainT ws).length ≤ (ws.map (·.length)).sum + ws.length := by
  unfold chainT
  rw [show Txt.join (Str.ofString " ") ws = Str.join (Str.ofString " ") ws from StrLaws.glued_eq_join _ _]
  have h := join_len (Str.ofString " ") ws
  rw [blank, Nat.mul_one] at h
  exact h
theorem num_len {i : Int} (h0 : 0 ≤ i) (h1 : i ≤ 10 ^ 30) : (Str.ofString (toString i)).length ≤ 31 := PyProof.Rows.toString_length_le h0 (by decide) (Int.lt_of_le_of_lt h1 (by decide +kernel))
theorem num_log {i : Int} (h0 : 0 ≤ i) (h1 : i ≤ 10 ^ 30) : i.natAbs.log2 < 1920 := by
  by_cases z : i.natAbs = 0
  · rw [z]
    decide +kernel
  · refine (Nat.log2_lt z).mpr ?_
    have a : (i.natAbs : Int) ≤ 10 ^ 30 := by omega
    have b : i.natAbs ≤ 10 ^ 30 := by exact_mod_cast a
    exact Nat.lt_of_le_of_lt b (by decide +kernel)
theorem daysT_len {i j : Int} (i0 : 0 ≤ i) (i1 : i ≤ 10 ^ 30) (j0 : 0 ≤ j) (j1 : j ≤ 10 ^ 30) : (daysT i j).length ≤ 66 := by
  unfold daysT
  split
  · decide +kernel
  · have a := num_len i0 i1
    have b := num_len j0 j1
    have c : (Str.ofString " @ ").length = 3 := by decide +kernel
    have d : (Str.empty).length = 0 := rfl
    rw [sl, sl, sl, sl, blank, c, d]
    omega
def spCText (K : PySem.W.Frag) : Sp := fun vs H Q _ => ∃ (a : Addr) (ws : List Str), vs = [.ref a] ∧ SqT K H a (ws.map V.str) ∧ (ws.map (·.length)).sum + ws.length ≤ 100000 ∧ Q (.str (chainT ws)) H
def spDText (K : PySem.W.Frag) : Sp := fun vs H Q _ => ∃ (a : Addr) (i j : Int), vs = [.ref a] ∧ SqT K H a [.int i, .int j] ∧ 0 ≤ i ∧ i ≤ 10 ^ 30 ∧ 0 ≤ j ∧ j ≤ 10 ^ 30 ∧ Q (.str (daysT i j)) H
def spNText (K : PySem.W.Frag) : Sp := fun vs H Q _ => ∃ (p n : Str) (c d : Addr) (ws : List Str) (i j : Int), vs = [.str p, .str n, .ref c, .ref d] ∧ p.length ≤ 1000 ∧ n.length ≤ 1000 ∧ SqT K H c (ws.map V.str) ∧ (ws.map (·.length)).sum + ws.length ≤ 100000 ∧
  SqT K H d [.int i, .int j] ∧ 0 ≤ i ∧ i ≤ 10 ^ 30 ∧ 0 ≤ j ∧ j ≤ 10 ^ 30 ∧ Q (.str (namT p n ws i j)) H
section
variable {P : Program} {w : World} {K : PySem.W.Frag} {mg : Str → Option Value} {base : Heap}
variable {fC fD : Addr} {fdC fdD : FuncData}
theorem scCText : FnScope ["chain"] ["chain"] (defScope pCText) := ⟨rfl, rfl, rfl, by decide +kernel, rfl, by decide +kernel, by decide +kernel⟩
theorem scDText : FnScope ["days", "first", "last"] ["days"] (defScope pDText) := ⟨rfl, rfl, rfl, by decide +kernel, rfl, by decide +kernel, by decide +kernel⟩
theorem scNText : FnScope ["person", "name", "chain", "days"] ["person", "name", "chain", "days"] (defScope pNText) := ⟨rfl, rfl, rfl, by decide +kernel, rfl, by decide +kernel, by decide +kernel⟩
theorem ok_ctext {f : Addr} {fd : FuncData} (F : Fun K "_chain_text" "_chain_text" pCText f fd) : FnOk P w K mg base CX0 1 f fd ["chain"] (spCText K) := by
  refine F.ok scCText (fun vs H Q E h => ?_) (fun cdv A outer s H vs Q E hr h => ?_)
  · obtain ⟨a, ws, rfl, _⟩ := h
    rfl
  · obtain ⟨a, ws, rfl, hS, few, k⟩ := h
    refine ⟨_, pss_one (ps_ret (pe_join pe_str (pv 0))), ?_⟩
    refine ⟨⟨_, rfl⟩, _, rfl, _, a, ws, rfl, rfl, .inr hS, ?_, k⟩
    rw [blank]
    omega
theorem ok_dtext {f : Addr} {fd : FuncData} (F : Fun K "_days_text" "_days_text" pDText f fd) (B : Pb mg) : FnOk P w K mg base CX0 1 f fd ["days"] (spDText K) := by
  refine F.ok scDText (fun vs H Q E h => ?_) (fun cdv A outer s H vs Q E hr h => ?_)
  · obtain ⟨a, i, j, rfl, _⟩ := h
    rfl
  · obtain ⟨a, i, j, rfl, hS, i0, i1, j0, j1, k⟩ := h
    obtain ⟨tL, mL⟩ := B.limit
    refine ⟨_, pss_cons (ps_asg (pv 0) (pg_tup (n := 2) rfl (pgs_cons (pg_name (i := 1) scDText.nd rfl (Or.inl rfl)) (pgs_cons (pg_name (i := 2) scDText.nd rfl (Or.inl rfl)) pgs_nil))))
      (pss_cons (ps_if (PW.pt (pw_and (pt_cmpR op_eq (pv 1) pe_int (nomark _)) (pw_and1 (pt_cmpR op_eq (pv 2) (pe_glob (v := .int (10 ^ 30)) (by rfl) mL ⟨_, rfl⟩) (nomark _))))) (pss_one (ps_ret pe_str)) pss_nil)
      (pss_one (ps_ret (pe_joined (.cons pe_str (.cons (pe_fmt (pv 1)) (.cons pe_str (.cons (pe_fmt (pv 2)) .nil)))))))), ?_⟩
    refine ⟨_, rfl, a, _, rfl, hS, rfl, _, _, rfl, _, _, rfl, rfl, ?_⟩
    have rest : ¬ (i = 0 ∧ j = 10 ^ 30) → Q (.str (Str.empty ++ " @ " ++ Str.ofString (toString i) ++ " " ++ Str.ofString (toString j))) H := fun n => by
      unfold daysT at k
      rw [if_neg n] at k
      exact k
    have a1 := num_len i0 i1
    have a2 := num_len j0 j1
    have a3 : (Str.ofString " @ ").length = 3 := by decide +kernel
    have a4 : (Str.empty).length = 0 := rfl
    have tail : ∀ (n : ¬ (i = 0 ∧ j = 10 ^ 30)), tJs [tC (.str " @ "), tFmt (tVar 1), tC (.str " "), tFmt (tVar 2)] Str.empty [some (.ref a), some (.int i), some (.int j)] H fun out H1 => Q (.str out) H1 := fun n => by
      refine ⟨_, rfl, ?_, _, rfl, .inr ⟨i, rfl, num_log i0 i1, _, rfl, ?_, _, rfl, ?_, _, rfl, .inr ⟨j, rfl, num_log j0 j1, _, rfl, ?_, rest n⟩⟩⟩
      · rw [sl, a3, a4, sizeLine_eq]; omega
      · rw [sl, sl, a3, a4, sizeLine_eq]; omega
      · rw [sl, sl, sl, a3, a4, blank, sizeLine_eq]; omega
      · rw [sl, sl, sl, sl, a3, a4, blank, sizeLine_eq]; omega
    refine ⟨_, rfl, rfl, _, rfl, ?_⟩
    by_cases hi : i = 0
    · rw [decide_eq_true (show V.int i = V.int 0 by rw [hi])]
      refine iteT ⟨_, rfl, rfl, _, rfl, ?_⟩
      by_cases hj : j = 10 ^ 30
      · rw [decide_eq_true (show V.int j = V.int (10 ^ 30) by rw [hj])]
        refine iteT ?_
        unfold daysT at k
        rw [if_pos ⟨hi, hj⟩] at k
        exact k
      · rw [decide_eq_false (show ¬ V.int j = V.int (10 ^ 30) from fun z => hj (V.int.inj z))]
        exact iteF (tail fun z => hj z.2)
    · rw [decide_eq_false (show ¬ V.int i = V.int 0 from fun z => hi (V.int.inj z))]
      exact iteF (tail fun z => hi z.1)
theorem ok_ntext {f : Addr} {fd : FuncData} (F : Fun K "naming_text" "naming_text" pNText f fd) (GC : FnOk P w K mg base CX0 1 fC fdC ["chain"] (spCText K)) (mC : mg "_chain_text" = some (.ref fC)) (kC : PySem.W.keepIn K (.ref fC) = true) (bC : Binds K fdC ["chain"] [])
    (GD : FnOk P w K mg base CX0 1 fD fdD ["days"] (spDText K)) (mD : mg "_days_text" = some (.ref fD)) (kD : PySem.W.keepIn K (.ref fD) = true) (bD : Binds K fdD ["days"] []) : FnOk P w K mg base CX0 2 f fd ["person", "name", "chain", "days"] (spNText K) := by
  refine F.ok scNText (fun vs H Q E h => ?_) (fun cdv A outer s H vs Q E hr h => ?_)
  · obtain ⟨p, n, c, d, ws, i, j, rfl, _⟩ := h
    rfl
  · obtain ⟨p, n, c, d, ws, i, j, rfl, lp, ln, hS, few, hD, i0, i1, j0, j1, k⟩ := h
    refine ⟨_, pss_one (ps_ret (pe_joined (.cons (pe_fmt (pv 0)) (.cons pe_str (.cons (pe_fmt (pv 1)) (.cons pe_str (.cons (pe_fmt (pe_call GC hr (by rfl) mC kC bC .nil pass0 (pa_cons (pv 2) pa_nil)))
      (.cons (pe_fmt (pe_call GD hr (by rfl) mD kD bD .nil pass0 (pa_cons (pv 3) pa_nil))) .nil)))))))), ?_⟩
    have a1 := chainT_len (ws := ws)
    have a2 := daysT_len i0 i1 j0 j1
    have a3 : (Str.ofString " = ").length = 3 := by decide +kernel
    have a4 : (Str.empty).length = 0 := rfl
    refine ⟨_, rfl, .inl ⟨p, rfl, by rw [sizeLine_eq]; omega, _, rfl, ?_, _, rfl, ?_, _, rfl, .inl ⟨n, rfl, by rw [sizeLine_eq]; omega, _, rfl, ?_, _, rfl, ?_,
      _, rfl, c, ws, rfl, hS, few, .inl ⟨_, rfl, by rw [sizeLine_eq]; omega, _, rfl, ?_, _, rfl, d, i, j, rfl, hD, i0, i1, j0, j1, .inl ⟨_, rfl, by rw [sizeLine_eq]; omega, _, rfl, ?_, k⟩⟩⟩⟩⟩
    · rw [sl, a4, sizeLine_eq]; omega
    · rw [sl, sl, a4, blank, sizeLine_eq]; omega
    · rw [sl, sl, sl, a4, blank, sizeLine_eq]; omega
    · rw [sl, sl, sl, sl, a3, a4, blank, sizeLine_eq]; omega
    · rw [sl, sl, sl, sl, sl, a3, a4, blank, sizeLine_eq]; omega
    · rw [sl, sl, sl, sl, sl, sl, a3, a4, blank, sizeLine_eq]; omega
end
end LW

/-! A method in which «super().__init__(e, ..)» stands among other statements: its class's cell, its start, its run. -/
namespace G
open PySem PySem.Spec PySem.Calls PyProof.Rows L2
open PySem.W (Frag)
/-- n defaults stand in a tuple of the written part -/
def DflS (K : Frag) (dV : Value) (n : Nat) : Prop := ∃ (T : Addr) (o : Obj) (its : List Value) (m : Nat), dV = .ref T ∧ K.lookup T = some o ∧ o.data = .seq its.toArray m ∧ its.length = n
/-- the function object of such a method, at f, with the cell of the class D and n defaults -/
structure FunS (K : Frag) (nm ql : Str) (st : Stmt) (n : Nat) (D f : Addr) (fd : FuncData) : Prop where
  fn : ∃ (oc : Value) (od : Option Addr) (dV kV doc pm : Value) (an : Option Addr) (cda cc : Addr) (ct : Value) (osl : Array (Option Value)), fd = PySem.W.ksFn nm ql (defArgs st) (defBody st) (defScope st) dV kV doc pm an (.ref cda) ct cc ∧
    K.lookup f = some ⟨oc, od, .func fd, osl⟩ ∧ PySem.W.codeIn K (.ref cda) ql = true ∧ (∃ cl cld csl, K.lookup cc = some ⟨cl, cld, .cell (some (.ref D)), csl⟩) ∧
    ∃ ccl cdd vs ccs tf, K.lookup cda = some ⟨ccl, cdd, .fields vs, ccs⟩ ∧ vs[2]? = some (.str "/claim/cut.py" tf) ∧ DflS K dV n
  kp : PySem.W.keepIn K (.ref f) = true
/-- its names: the parameters first, none captured but the class's -/
structure ScopeS (N ps : List Str) (sc : Scope) : Prop where
  kind : sc.kind = .function
  co : sc.isCoroutine = false
  gen : sc.isGenerator = false
  nd : N.Nodup
  pre : N.take ps.length = ps
  par : ∀ x ∈ ps, sc.names.lookup x = some .local
  noc : ∀ y ∈ sc.names, y.2 ≠ .cell
  free : ∀ y ∈ sc.names, y.2 = .free → y.1 = "__class__"
  sup : sc.names.lookup ("super" : Str) = some .globalImplicit
  cls : sc.names.lookup ("__class__" : Str) = some .free
  out : ("__class__" : Str) ∉ N
/-- the context of its body -/
def cxS (CX : CXT) (P : Program) (w : World) (K : Frag) (mg : Str → Option Value) (base : Heap) (N : List Str) (ql : Str) (sc : Scope) (f cda cc : Addr) (A : Around) (outer : List Env) (s : Shared) (H : Hp) (E : XK) : Cx where
  prog := P
  w := w
  K := K
  mg := mg
  base := base
  A := A.deeper (PySem.W.ksEnv ql sc s.heap.objs.size f (.ref cda) cc)
  N := N
  s_0 := s
  H_0 := H
  env := PySem.W.ksEnv ql sc s.heap.objs.size f (.ref cda) cc
  outer := outer
  stack := PySem.W.ksEnv ql sc s.heap.objs.size f (.ref cda) cc :: outer
  ex := []
  fn := fun _ => false
  calm := true
  pn := []
  xe := fun e z => wpAny (model P w) (A.deeper (PySem.W.ksEnv ql sc s.heap.objs.size f (.ref cda) cc)) (leaving (PySem.W.ksEnv ql sc s.heap.objs.size f (.ref cda) cc) e) (fun _ z2 => CX outer H s E e z2) (fun e2 z2 => CX outer H s E e2 z2) z
section
variable {CX : CXT} {P : Program} {w : World} {K : Frag} {mg : Str → Option Value} {base : Heap}
theorem start_get {N ps : List Str} {vs : List V} {i : Nat} {y : Str} {v : V} (pre : N.take ps.length = ps) (hl : vs.length = ps.length) (h1 : N[i]? = some y) (h2 : (L2.start N vs)[i]? = some (some v)) : vs[i]? = some v ∧ ps[i]? = some y := by
  have lt : i < vs.length := Decidable.byContradiction fun z => by
    unfold L2.start at h2
    rw [List.getElem?_append_right (by simpa using z), List.getElem?_replicate] at h2
    split at h2 <;> cases h2
  constructor
  · unfold L2.start at h2
    rw [List.getElem?_append_left (by simpa using lt), List.getElem?_map] at h2
    cases q : vs[i]? with
    | none => rw [q] at h2; cases h2
    | some a => rw [q] at h2; cases h2; rfl
  · have q : (N.take ps.length)[i]? = N[i]? := List.getElem?_take_of_lt (by omega)
    rw [pre] at q
    rw [q]
    exact h1
theorem zip_fst : ∀ (ps : List Str) (us : List Value), ((ps.zip us).map (·.1)).Sublist ps
  | [], _ => by simp
  | _ :: _, [] => by simp
  | p :: ps, u :: us => by
    rw [List.zip_cons_cons, List.map_cons]
    exact (zip_fst ps us).cons₂ p
theorem rev_lookup : ∀ {ps : List Str} {us : List Value} {i : Nat} {y : Str} {u : Value}, ps.Nodup → ps[i]? = some y → us[i]? = some u → (ps.zip us).reverse.lookup y = some u := by
  intro ps us i y u nd h1 h2
  have mem : (y, u) ∈ (ps.zip us).reverse := List.mem_reverse.mpr (List.mem_iff_getElem?.mpr ⟨i, by
    rw [List.getElem?_zip_eq_some]
    exact ⟨h1, h2⟩⟩)
  have keys : ((ps.zip us).reverse.map (·.1)).Nodup := by
    rw [List.map_reverse]
    refine (List.reverse_perm _).nodup_iff.mpr ?_
    exact nd.sublist (zip_fst ps us)
  obtain ⟨v, hv⟩ := mem_lookup mem
  have m2 := PySem.mem_of_lookup hv
  have : v = u := by
    generalize (ps.zip us).reverse = l at mem keys m2
    clear hv
    induction l with
    | nil => cases mem
    | cons a r ih =>
      rw [List.map_cons, List.nodup_cons] at keys
      rcases List.mem_cons.mp mem with e1 | e1
      · rcases List.mem_cons.mp m2 with e2 | e2
        · rw [← e1] at e2
          exact (Prod.mk.inj e2).2
        · exact absurd (List.mem_map_of_mem (f := (·.1)) e2) (by rw [← e1] at keys; exact keys.1)
      · rcases List.mem_cons.mp m2 with e2 | e2
        · exact absurd (List.mem_map_of_mem (f := (·.1)) e1) (by rw [← e2] at keys; exact keys.1)
        · exact ih e1 keys.2 e2
  rw [hv, this]
theorem start_S {N ps : List Str} {ql : Str} {sc : Scope} {f cda cc D : Addr} {A : Around} {outer : List Env} {s : Shared} {H : Hp} {E : XK} {us : List Value} {vs : List V} {h0 : Heap} {tk : Nat} (S : ScopeS N ps sc) (hd : A.handled = none) (e0 : Env0 P w K mg base A outer s H)
    (hl : vs.length = ps.length) (r : Vals vs us) (hcc : ∃ cl cld csl, K.lookup cc = some ⟨cl, cld, .cell (some (.ref D)), csl⟩) (ns : h0.Ns s.heap.objs.size fun x => (ps.zip us).reverse.lookup x) (k0 : ∀ b o, s.heap.get? b = some o → h0.get? b = some o) :
    Inv (cxS CX P w K mg base N ql sc f cda cc A outer s H E) [] (L2.start N vs) H { s with heap := h0, toks := tk } := by
  obtain ⟨cl, cld, csl, hcc⟩ := hcc
  have inB := e0.mod.kin _ _ hcc
  have inS := (e0.bs _ _ inB).1
  have nCC := (e0.bs _ _ inB).2
  have ndP : ps.Nodup := by rw [← S.pre]; exact S.nd.sublist (List.take_sublist _ _)
  have fr := e0.hok.fresh (Nat.le_refl s.heap.objs.size)
  have cells : ∀ {y c}, (PySem.W.ksEnv ql sc s.heap.objs.size f (.ref cda) cc).cells.lookup y = some c → y = "__class__" ∧ c = cc := fun {y c} h => by
    have m := PySem.mem_of_lookup h
    have m2 : (y, c) ∈ [(("__class__" : Str), cc)] := m
    rw [List.mem_singleton] at m2
    exact ⟨(Prod.mk.inj m2).1, (Prod.mk.inj m2).2⟩
  have noex : ∀ b : Addr, b ∉ (cxS CX P w K mg base N ql sc f cda cc A outer s H E).ex := fun b z => List.not_mem_nil z
  have ok : (cxS CX P w K mg base N ql sc f cda cc A outer s H E).Ok := ⟨e0.mod, S.kind, rfl, rfl, Nat.le_refl _, (by
      intro x y c h1 h2
      rw [(cells h1).1, (cells h2).1]), (by
      intro x hx
      rcases hx with hx | hx
      · exact absurd rfl (S.noc _ (PySem.mem_of_lookup (show sc.names.lookup x = some .cell from hx)))
      · have e := S.free _ (PySem.mem_of_lookup (show sc.names.lookup x = some .free from hx)) rfl
        have e : x = ("__class__" : Str) := e
        rw [e]
        exact ⟨cc, by show ([(("__class__" : Str), cc)] : List (Str × Addr)).lookup _ = _; simp [List.lookup]⟩), (by
      intro x c h
      cases h), fun _ => hd, Around.frames_deeper e0.frames, .inr ⟨rfl, rfl⟩, fun b z => (noex b z).elim, e0.bs, e0.bsz, fun b _ _ => noex b, fun b z => (noex b z).elim, e0.funs, e0.frf⟩
  refine ⟨ok, rfl, e0.bare, Un.kept k0, ⟨_, ns, ?_⟩, ?_, fr, ?_, fun p hp => (List.not_mem_nil hp).elim, e0.hok.kept k0, ?_⟩
  · intro i y v h1 h2 h3
    obtain ⟨g1, g2⟩ := start_get S.pre hl h1 h2
    obtain ⟨u, hu, rv⟩ := r.get g1
    refine ⟨u, rv, .inl ⟨S.par y (List.mem_of_getElem? g2), rev_lookup ndP g2 hu⟩⟩
  · intro x c h
    obtain ⟨_, rfl⟩ := cells h
    exact ⟨_, _, k0 _ _ inS, rfl⟩
  · intro x c h
    rw [(cells h).2]
    exact nCC
  · unfold L2.start
    have := congrArg List.length S.pre
    rw [List.length_take] at this
    show (vs.map some ++ List.replicate (N.length - vs.length) none).length = N.length
    rw [List.length_append, List.length_map, List.length_replicate]
    omega
/-- what the written part says, so that super() within a method of D, on an instance of C, finds the __init__ at f2 -/
structure SupOk (K : Frag) (mg : Str → Option Value) (C D f2 : Addr) : Prop where
  clsC : (PySem.W.clsIn K C).isSome = true
  clsD : (PySem.W.clsIn K D).isSome = true
  self : PySem.W.mroIn K C (.ref D) = some true
  sup : mg "super" = none
  any : PySem.W.nsIn K cStatics "thirdparty.any" = some none
  meth : PySem.W.ks_superIn K C D "__init__" = some (some (.ref f2))
  ty : PySem.W.typeIn K (.ref f2) = some (.type "function")
  fn : PySem.W.fnIn K f2 = true
def supB (K : Frag) (C D f2 : Addr) : Bool := (PySem.W.clsIn K C).isSome && ((PySem.W.clsIn K D).isSome && (decide (PySem.W.mroIn K C (.ref D) = some true) && (decide (PySem.W.nsIn K cStatics "thirdparty.any" = some none) &&
  (decide (PySem.W.ks_superIn K C D "__init__" = some (some (.ref f2))) && (decide (PySem.W.typeIn K (.ref f2) = some (.type "function")) && PySem.W.fnIn K f2)))))
theorem supB_ok {K : Frag} {mg : Str → Option Value} {C D f2 : Addr} (s : mg "super" = none) (h : supB K C D f2 = true) : SupOk K mg C D f2 := by
  simp only [supB, Bool.and_eq_true, decide_eq_true_eq] at h
  obtain ⟨h1, h2, h3, h4, h5, h6, h7⟩ := h
  exact ⟨h1, h2, h3, s, h4, h5, h6, h7⟩
/-- a def's run, as code -/
theorem fn_code {X : Cx} {CX : CXT} {k : Nat} {f : Addr} {fd : FuncData} {ps : List Str} {sp : Sp} {E : XK} {pins : List (Addr × Obj)} {σ : L2.St} {H : Hp} {s : Shared} {Q : VK} {us : List Value} {vs : List V} (F : FnOk X.prog X.w X.K X.mg X.base CX k f fd ps sp) (hr : Room k X.A) (b : Binds X.K fd ps [])
    (pass : Passes CX X E) (I : Inv X pins σ H s) (r : Vals vs us) (h : sp vs H Q E) : codeAny (model X.prog X.w) X.A (.call (.ref f) ⟨us, []⟩) (fun res z => match res with | .ok (.ret v) => EP X pins σ Q v z | .ok _ => False | .error e => X.xe e z) s := by
  have n : us.length = ps.length := r.length ▸ F.len _ _ _ _ h
  have b1 := b s us I.kIn (by rw [List.append_nil]; exact n)
  rw [List.append_nil] at b1
  refine codeAny_mono (F.run _ _ _ _ ⟨us, []⟩ us vs Q E hr I.env0 b1 r h) fun res z q => ?_
  match res, q with
  | .error e, q => exact pass pins σ H s e z I q
  | .ok (.ret u), q => exact I.after q
/-- super().__init__(e, ..): self in slot 0 -/
def tSup (C : Addr) (sp : Sp) (E : XK) (t : TA) : TS := fun D σ H => ∃ (a dx : Addr) (fs : List (Str × V)), σ[0]? = some (some (.ref a)) ∧ H a = some (.ins C dx fs) ∧ t σ H fun vs H1 => sp (.ref a :: vs) H1 (fun _ H2 => D.nx σ H2) E
theorem at_super {N ps : List Str} {nm ql : Str} {st : Stmt} {f cda cc C D f2 : Addr} {A : Around} {outer : List Env} {s0 : Shared} {H0 : Hp} {E0 E : XK} {CX2 : CXT} {k : Nat} {fd2 : FuncData} {ps2 : List Str} {sp : Sp} {e : Expr} {es : List Expr} {t : TA} {p0 p1 p2 p3 p4 : Pos} {body : List Stmt} {pl : Sem Bool}
    {oc ccl cl : Value} {od cdd cld : Option Addr} {dV kV doc pm ct : Value} {an : Option Addr} {osl ccs csl : Array (Option Value)} {vs0 : Array Value} {tf : Tok} (S : ScopeS N ps (defScope st))
    (lk : K.lookup f = some ⟨oc, od, .func (PySem.W.ksFn nm ql (defArgs st) (defBody st) (defScope st) dV kV doc pm an (.ref cda) ct cc), osl⟩) (hcc : K.lookup cc = some ⟨cl, cld, .cell (some (.ref D)), csl⟩) (hcd : K.lookup cda = some ⟨ccl, cdd, .fields vs0, ccs⟩) (hv2 : vs0[2]? = some (.str "/claim/cut.py" tf))
    (first : ∃ ar : Arg, ((defArgs st).posonlyargs ++ (defArgs st).args).head? = some ar ∧ N[0]? = some ar.arg ∧ (defScope st).names.lookup ar.arg = some .local) (file : (P.main.file : Str) = "/claim/cut.py") (top : (P.main.scope.names.lookup ("super" : Str)).isSome = false)
    (Y : SupOk K mg C D f2) (F2 : FnOk P w K mg base CX2 k f2 fd2 ps2 sp) (b2 : Binds K fd2 ps2 []) (hr : Room k (A.deeper (PySem.W.ksEnv ql (defScope st) s0.heap.objs.size f (.ref cda) cc)))
    (pass : Passes CX2 (cxS CX P w K mg base N ql (defScope st) f cda cc A outer s0 H0 E0) E) (ha : PA (cxS CX P w K mg base N ql (defScope st) f cda cc A outer s0 H0 E0) (e :: es) t)
    (he : eval (.Call (.Attribute (.Call (.Name "super" p0) [] [] p1) "__init__" p2) (e :: es) [] p3) (PySem.W.ksEnv ql (defScope st) s0.heap.objs.size f (.ref cda) cc) = (do
      let ov ← attributeBase (.Call (.Name "super" p0) [] [] p1) "__init__" (PySem.W.ksEnv ql (defScope st) s0.heap.objs.size f (.ref cda) cc) (eval (.Call (.Name "super" p0) [] [] p1) (PySem.W.ksEnv ql (defScope st) s0.heap.objs.size f (.ref cda) cc))
      standAt p2.atName
      let (g, first) ← holding [ov] (getMethod ov "__init__" pl)
      callWith p3 g first (backTo p3 (starEach (e :: es) (PySem.W.ksEnv ql (defScope st) s0.heap.objs.size f (.ref cda) cc))) []))
    (hi : interactive (PySem.W.ksEnv ql (defScope st) s0.heap.objs.size f (.ref cda) cc) = false)
    (hst : starEach (e :: es) (PySem.W.ksEnv ql (defScope st) s0.heap.objs.size f (.ref cda) cc) = (false, eval e (PySem.W.ksEnv ql (defScope st) s0.heap.objs.size f (.ref cda) cc)) :: starEach es (PySem.W.ksEnv ql (defScope st) s0.heap.objs.size f (.ref cda) cc))
    (hpl : (backTo p3 (starEach es (PySem.W.ksEnv ql (defScope st) s0.heap.objs.size f (.ref cda) cc))).any (·.1) = false)
    {pins : List (Addr × Obj)} {s : Shared} {σ : L2.St} {H : Hp} {Dn : Ends} (I : Inv (cxS CX P w K mg base N ql (defScope st) f cda cc A outer s0 H0 E0) pins σ H s) (h : tSup C sp E t Dn σ H) :
    _root_.PySem.wpAt (model P w) (A.deeper (PySem.W.ksEnv ql (defScope st) s0.heap.objs.size f (.ref cda) cc)) (.func body (PySem.W.ksEnv ql (defScope st) s0.heap.objs.size f (.ref cda) cc))
      (exec (.Expr (.Call (.Attribute (.Call (.Name "super" p0) [] [] p1) "__init__" p2) (e :: es) [] p3) p4) (PySem.W.ksEnv ql (defScope st) s0.heap.objs.size f (.ref cda) cc))
      (SP (cxS CX P w K mg base N ql (defScope st) f cda cc A outer s0 H0 E0) pins Dn) (cxS CX P w K mg base N ql (defScope st) f cda cc A outer s0 H0 E0).xe s := by
  obtain ⟨a, dx, fs, eσ, ea, h⟩ := h
  obtain ⟨ar, har, hN, hloc⟩ := first
  have KX : K.In s.heap := I.kIn
  obtain ⟨mA, O, _⟩ := ins_get I.hok ea
  obtain ⟨od2, J, _⟩ := O.look
  obtain ⟨m, hns, hl⟩ := I.loc
  obtain ⟨u, ru, lu⟩ := hl 0 ar.arg (.ref a) hN eσ (.inl hloc)
  obtain rfl : u = Value.ref a := ru
  have hm : m ar.arg = some (.ref a) := by
    rcases lu with ⟨_, q⟩ | ⟨q, _⟩
    · exact q
    · have q : (defScope st).names.lookup ar.arg = some .cell ∨ (defScope st).names.lookup ar.arg = some .free := q
      rw [hloc] at q
      rcases q with q | q <;> cases q
  obtain ⟨mb, bl, bb⟩ := I.mod.blt
  have inD : ∃ (oD : Obj) (cd : ClassData), s.heap.get? D = some oD ∧ oD.data = .cls cd := by
    obtain ⟨cd, z⟩ := Option.isSome_iff_exists.mp Y.clsD
    unfold PySem.W.clsIn at z
    split at z
    · rename_i c d cd' sl q
      cases z
      exact ⟨_, _, KX _ _ q, rfl⟩
    · cases z
  obtain ⟨oD, cdD, hD1, hD2⟩ := inD
  obtain ⟨cd, hcl⟩ := Option.isSome_iff_exists.mp Y.clsC
  refine PySem.ks_wpAt_Expr_any (PySem.ks_wpAt_MethodCall (pl := pl) ?_ he) (hi := hi)
  refine PySem.ks_wpAt_super_base (env := PySem.W.ksEnv ql (defScope st) s0.heap.objs.size f (.ref cda) cc) S.sup S.cls (by decide +kernel) rfl (KX _ _ lk) rfl har rfl (KX _ _ hcd) rfl hv2 (by rw [file]; decide +kernel) top ?_
  refine PySem.W.ks_loadName_global S.kind S.sup (loadGlobal_builtin (env := PySem.W.ksEnv ql (defScope st) s0.heap.objs.size f (.ref cda) cc) (I.mod.glob.keeps I.bk) Y.sup (bl.keeps I.bk) ((bb _ (by decide +kernel)).trans (by decide +kernel)) ⟨rfl, ?_⟩)
  refine wpAny_loadName_free S.kind S.cls rfl ⟨_, KX _ _ hcc, rfl⟩ ?_
  refine wpAny_loadName_local S.kind hloc hns hm ?_
  obtain ⟨hp, gs, dr, tk, os⟩ := s
  refine PySem.ks_wpAny_isType_cls hD1 hD2 ⟨rfl, ?_⟩
  refine PySem.ks_wpAny_call_super hD1 hD2 J.at_ J.cls (fun c z => ?_) (PySem.W.looks_mroIn KX Y.self) (fun h1 so k1 => ?_)
  · have q := J.no
    unfold PySem.W.notCls at q
    rw [z] at q
    exact Bool.noConfusion q
  have I1 := I.kept (t' := tk) k1
  have KX1 := KX.keeps k1
  obtain ⟨mA1, O1, _⟩ := ins_get I1.hok ea
  obtain ⟨od3, J1, _⟩ := O1.look
  have supI := Y.meth
  unfold PySem.W.ks_superIn at supI
  rw [hcl, Option.bind_some] at supI
  obtain ⟨o2, ho2, hc2⟩ : ∃ o2, h1.get? f2 = some o2 ∧ o2.cls = .type "function" := by
    have ty : (K.lookup f2).map (·.cls) = some (.type "function") := Y.ty
    cases q : K.lookup f2 with
    | none => rw [q] at ty; cases ty
    | some o => rw [q] at ty; exact ⟨o, KX1 _ _ q, Option.some.inj ty⟩
  refine PySem.ks_wpAny_getMethod_super so (PySem.W.looks_opaque KX1 Y.any) (l₀ := cd.mro) (fun A Q E s k q => wpAny_bind ((PySem.W.looks_clsIn KX1 hcl) A _ E s k (wpAny_pure q))) rfl KX1 supI ho2 hc2 (PySem.W.ks_ne KX1 J1 hcl) (by decide +kernel) ?_
  have I2 := ClX.met_new (g := f2) (C := a) I1
  refine ClX.callwith_cm I2 (ClX.base_none I1 (Nat.le_refl _)) Y.fn (wpAny_mono (ha.run p3 _ _ σ H _ I2 h) (fun us s3 z => ?_) fun _ _ z => z) hst hpl
  obtain ⟨vs, H2, I3, rv, q⟩ := z
  refine ⟨⟨ClX.pin_at I3, I3.kIn⟩, ?_⟩
  have go := fn_code (us := .ref a :: us) (vs := .ref a :: vs) F2 hr b2 pass I3 (.cons (a := V.ref a) rfl rv) q
  refine wpAny_mono (wpAny_call (PySem.W.method_call (ClX.pin_at I3) go)) (fun v s4 z => ?_) fun _ _ z => z
  obtain ⟨x, H4, I4, _, q4⟩ := z
  exact ⟨σ, H4, ClX.unpin I4, q4⟩
theorem sp_cases {X : Cx} {pins : List (Addr × Obj)} {D : Ends} {fl : Flow} {z : Shared} (h : SP X pins D fl z) (nb : ∀ σ H, ¬ D.bk σ H) (nc : ∀ σ H, ¬ D.ct σ H) :
    (fl = .next ∧ ∃ σ H, Inv X pins σ H z ∧ D.nx σ H) ∨ ∃ u v σ H, fl = .ret u ∧ Inv X pins σ H z ∧ RelV v u ∧ D.rt v H := by
  cases fl with
  | next => exact .inl ⟨rfl, h⟩
  | ret u =>
    obtain ⟨v, σ, H, J, r, q⟩ := h
    exact .inr ⟨u, v, σ, H, rfl, J, r, q⟩
  | brk =>
    obtain ⟨σ, H, _, q⟩ := h
    exact (nb σ H q).elim
  | cont =>
    obtain ⟨σ, H, _, q⟩ := h
    exact (nc σ H q).elim
theorem wp_app {M : Model} {Γ : PySem.Ctx} {env : Env} {rest : List Stmt} {Q : Flow → Pos → Shared → Prop} {E : Value → Pos → Shared → Prop} : ∀ (pre : List Stmt) (p : Pos) (s : Shared),
    Sem.wp M Γ (execs pre env) (fun fl p2 s2 => match fl with | .next => Sem.wp M Γ (execs rest env) Q E p2 s2 | fl => Q fl p2 s2) E p s → Sem.wp M Γ (execs (pre ++ rest) env) Q E p s
  | [], p, s, h => by
    rw [execs_nil, Sem.wp_pure'] at h
    exact h
  | st :: pre, p, s, h => by
    rw [execs_cons, Sem.wp_bind'] at h
    rw [List.cons_append, execs_cons, Sem.wp_bind']
    refine Sem.wp_mono M Γ _ (fun fl p2 s2 z => ?_) (fun _ _ _ z => z) p s h
    cases fl with
    | next => exact wp_app pre p2 s2 z
    | ret v =>
      rw [Sem.wp_pure'] at z ⊢
      exact z
    | brk =>
      rw [Sem.wp_pure'] at z ⊢
      exact z
    | cont =>
      rw [Sem.wp_pure'] at z ⊢
      exact z
/-- THE RULE for such a method -/
theorem fun_okS {N ps : List Str} {nm ql : Str} {st : Stmt} {fd : FuncData} {f D : Addr} {k : Nat} {sp : Sp} {pre post : List Stmt} {sup : Stmt} {nd : Nat} (F : FunS K nm ql st nd D f fd) (S : ScopeS N ps (defScope st)) (len : ∀ vs H Q E, sp vs H Q E → vs.length = ps.length) (hb : defBody st = pre ++ sup :: post)
    (body : ∀ (oc : Value) (od : Option Addr) (dV kV doc pm : Value) (an : Option Addr) (cda cc : Addr) (ct : Value) (osl : Array (Option Value)) (cl : Value) (cld : Option Addr) (csl : Array (Option Value)) (ccl : Value) (cdd : Option Addr) (vs0 : Array Value) (ccs : Array (Option Value)) (tf : Tok),
      K.lookup f = some ⟨oc, od, .func (PySem.W.ksFn nm ql (defArgs st) (defBody st) (defScope st) dV kV doc pm an (.ref cda) ct cc), osl⟩ → K.lookup cc = some ⟨cl, cld, .cell (some (.ref D)), csl⟩ → K.lookup cda = some ⟨ccl, cdd, .fields vs0, ccs⟩ → vs0[2]? = some (.str "/claim/cut.py" tf) →
      ∀ (A : Around) (outer : List Env) (s : Shared) (H : Hp) (vs : List V) (Q : VK) (E : XK), Room k (A.deeper (PySem.W.ksEnv ql (defScope st) s.heap.objs.size f (.ref cda) cc)) → sp vs H Q E →
      ∃ t1 t2 t3 : TS, PSs (cxS CX P w K mg base N ql (defScope st) f cda cc A outer s H E) pre t1 ∧
        (∀ (pins : List (Addr × Obj)) (z : Shared) (σ : L2.St) (G : Hp) (Dn : Ends), Inv (cxS CX P w K mg base N ql (defScope st) f cda cc A outer s H E) pins σ G z → t2 Dn σ G →
          _root_.PySem.wpAt (model P w) (A.deeper (PySem.W.ksEnv ql (defScope st) s.heap.objs.size f (.ref cda) cc)) (.func (defBody st) (PySem.W.ksEnv ql (defScope st) s.heap.objs.size f (.ref cda) cc)) (exec sup (PySem.W.ksEnv ql (defScope st) s.heap.objs.size f (.ref cda) cc))
            (SP (cxS CX P w K mg base N ql (defScope st) f cda cc A outer s H E) pins Dn) (cxS CX P w K mg base N ql (defScope st) f cda cc A outer s H E).xe z) ∧
        PSs (cxS CX P w K mg base N ql (defScope st) f cda cc A outer s H E) post t3 ∧
        t1 { nx := fun σ1 H1 => t2 { nx := fun σ2 H2 => t3 { nx := fun _ H3 => Q .non H3, rt := Q } σ2 H2, rt := Q } σ1 H1, rt := Q } (L2.start N vs) H) :
    FnOk P w K mg base CX (k + 1) f fd ps sp := by
  refine ⟨len, fun A outer s H args us vs Q E hr e0 bt rv h => ?_⟩
  obtain ⟨oc, od, dV, kV, doc, pm, an, cda, cc, ct, osl, rfl, lk, code, ⟨cl, cld, csl, hcc⟩, ccl, cdd, vs0, ccs, tf, hcd, hv2, _⟩ := F.fn
  have KX : K.In s.heap := e0.mod.kin.keeps fun b o z => (e0.bs b o z).1
  have lim : s.heap.NoLimit := e0.mod.nolimit.keeps fun b o z => (e0.bs b o z).1
  have hl := len _ _ _ _ h
  obtain ⟨t1, t2, t3, T1, T2, T3, q⟩ := body _ _ _ _ _ _ _ _ _ _ _ _ _ _ _ _ _ _ _ lk hcc hcd hv2 A outer s H vs Q E (hr.deeper _) h
  refine PySem.ks_codeAny_call_defAt (body := defBody st) (binds := ps.zip us) hr.depth (KX _ _ lk) rfl lim (PySem.W.codeRec_of KX code) rfl bt S.noc (fun x hx => S.par x.1 (List.of_mem_zip hx).1) (fun h0 ns k0 => ?_) S.co S.gen S.kind
  have I0 : Inv (cxS CX P w K mg base N ql (defScope st) f cda cc A outer s H E) [] (L2.start N vs) H { s with heap := h0, toks := s.toks + (ps.zip us).length } := start_S S hr.hd e0 hl rv ⟨cl, cld, csl, hcc⟩ ns k0
  have fin : ∀ (fl : Flow) (z : Shared), SP (cxS CX P w K mg base N ql (defScope st) f cda cc A outer s H E) [] { nx := fun _ H3 => Q .non H3, rt := Q } fl z → CR CX outer P w H s Q E (.ok (.ret (match fl with | .ret v => v | _ => .none))) z := fun fl z y => by
    rcases sp_cases y (fun _ _ q => q) (fun _ _ q => q) with ⟨rfl, _, H2, J, y⟩ | ⟨u, v, _, H2, rfl, J, r2, y⟩
    · exact ⟨V.non, H2, J.os, J.bare, J.base, J.hok, rfl, y⟩
    · exact ⟨v, H2, J.os, J.bare, J.base, J.hok, r2, y⟩
  intro Γ p hc hΓ
  show Sem.wp _ Γ (execs (defBody st) _) _ _ p _
  rw [hb]
  refine wp_app pre p _ (Sem.wp_mono _ Γ _ (fun fl p2 z y => ?_) (fun e p2 z y => y) p _ (T1.run [] _ _ H _ I0 q Γ p hΓ))
  rcases sp_cases y (fun _ _ q => q) (fun _ _ q => q) with ⟨rfl, σ1, H1, J1, y⟩ | ⟨u, v, σ2, H2, rfl, J, r2, y⟩
  · show Sem.wp _ Γ (execs (sup :: post) _) _ _ p2 z
    rw [execs_cons, Sem.wp_bind']
    refine Sem.wp_mono _ Γ _ (fun fl p3 z3 y3 => ?_) (fun e p3 z3 y3 => y3) p2 z (T2 [] z σ1 H1 _ J1 y Γ p2 hc hΓ)
    rcases sp_cases y3 (fun _ _ q => q) (fun _ _ q => q) with ⟨rfl, σ2, H2, J2, y3⟩ | ⟨u, v, σ2, H2, rfl, J, r2, y⟩
    · exact Sem.wp_mono _ Γ _ (fun fl p4 z4 y4 => fin fl z4 y4) (fun e p4 z4 y4 => y4) p3 z3 (T3.run [] _ _ H2 _ J2 y3 Γ p3 hΓ)
    · show Sem.wp _ Γ (pure (Flow.ret u)) _ _ p3 z3
      rw [Sem.wp_pure']
      exact fin (.ret u) z3 ⟨v, σ2, H2, J, r2, y⟩
  · exact fin (.ret u) z ⟨v, σ2, H2, J, r2, y⟩
/-- how a call binds, by position or with keywords, the defaults looked at -/
theorem FunS.kbinds {nm ql : Str} {st : Stmt} {n : Nat} {D f : Addr} {fd : FuncData} {ps ks : List Str} {g : List Value → List Value → List Value} {gV : List V → List V → List V} (F : FunS K nm ql st n D f fd) (m : Nat)
    (rel : ∀ {vs : List V} {us : List Value} {zs : List V} {ws : List Value}, Vals vs us → Vals zs ws → Vals (gV vs zs) (g us ws))
    (h : ∀ (T : Addr) (kV doc pm : Value) (an : Option Addr) (cda cc : Addr) (ct : Value) (us its ws : List Value), us.length = m → its.length = n → ws.length = ks.length →
      ∃ k, bindArgs (PySem.W.ksFn nm ql (defArgs st) (defBody st) (defScope st) (.ref T) kV doc pm an (.ref cda) ct cc) ⟨us, ks.zip ws⟩ = seqItems? (.ref T) >>= k ∧ k (some its.toArray) = pure (ps.zip (g us ws))) : KBn K fd ps m ks g gV := by
  obtain ⟨oc, od, dV, kV, doc, pm, an, cda, cc, ct, osl, rfl, lk, code, _, ccl, cdd, vs0, ccs, tf, hcd, hv2, T, o, its, m2, rfl, lT, oT, ln⟩ := F.fn
  refine ⟨fun s us ws X l1 l2 => ?_, rel⟩
  obtain ⟨k, e1, e2⟩ := h T kV doc pm an cda cc ct us its ws l1 ln l2
  refine BindsTo.of_looks fun M => ?_
  rw [e1]
  exact looks_items X lT oT (.of_pure e2)
theorem FunS.binds {nm ql : Str} {st : Stmt} {n : Nat} {D f : Addr} {fd : FuncData} {ps : List Str} (F : FunS K nm ql st n D f fd)
    (h : ∀ (T : Addr) (kV doc pm : Value) (an : Option Addr) (cda cc : Addr) (ct : Value) (us its : List Value), us.length = ps.length → its.length = n →
      ∃ k, bindArgs (PySem.W.ksFn nm ql (defArgs st) (defBody st) (defScope st) (.ref T) kV doc pm an (.ref cda) ct cc) ⟨us, []⟩ = seqItems? (.ref T) >>= k ∧ k (some its.toArray) = pure (ps.zip us)) : Binds K fd ps [] := by
  obtain ⟨oc, od, dV, kV, doc, pm, an, cda, cc, ct, osl, rfl, lk, code, _, ccl, cdd, vs0, ccs, tf, hcd, hv2, T, o, its, m2, rfl, lT, oT, ln⟩ := F.fn
  intro s us X hl
  rw [List.append_nil] at hl ⊢
  obtain ⟨k, e1, e2⟩ := h T kV doc pm an cda cc ct us its hl ln
  refine BindsTo.of_looks fun M => ?_
  rw [e1]
  exact looks_items X lT oT (.of_pure e2)
end
end G

/-! Statement and Naming: their __init__. -/
namespace LW
open PySem L2 G
abbrev sStI : Stmt := inClass (top 31) 0
abbrev sNmI : Stmt := inClass (top 32) 0
/-- the attributes of a Naming -/
def fsN (p n c d : V) (t : Str) : List (Str × V) := [("_person", p), ("_days", d), ("_text", .str t), ("_name", n), ("_chain", c)]
/-- what the class of Namings says -/
structure NamC (K : PySem.W.Frag) (C : Addr) : Prop where
  cl : Cls K C
  n1 : NoAttr K C "_person"
  n2 : NoAttr K C "_days"
  n3 : NoAttr K C "_text"
  n4 : NoAttr K C "_name"
  n5 : NoAttr K C "_chain"
theorem word_inv {d : PyData} (h : isWordD d = true) : ∃ z, d = .str z ∧ 1 ≤ z.length ∧ z.length ≤ 8 := by
  cases d with
  | str z =>
    have h2 : (decide (1 ≤ z.length) && decide (z.length ≤ 8) && lettersB z.cps.toList) = true := h
    simp only [Bool.and_eq_true, decide_eq_true_eq] at h2
    exact ⟨z, rfl, h2.1.1, h2.1.2⟩
  | _ => cases h
theorem words_inv : ∀ {ds : List PyData}, ds.all isWordD = true → ∃ ws : List Str, ds = ws.map PyData.str ∧ ∀ z ∈ ws, z.length ≤ 8
  | [], _ => ⟨[], rfl, by simp⟩
  | d :: ds, h => by
    rw [List.all_cons, Bool.and_eq_true] at h
    obtain ⟨z, rfl, _, h8⟩ := word_inv h.1
    obtain ⟨ws, rfl, hw⟩ := words_inv h.2
    exact ⟨z :: ws, rfl, fun y hy => by
      rcases List.mem_cons.mp hy with rfl | hy
      · exact h8
      · exact hw y hy⟩
theorem chain_inv {d : PyData} {tp : Int} (h : isChainD d tp = true) : ∃ ws : List Str, d = .tuple (ws.map PyData.str) ∧ 1 ≤ ws.length ∧ (ws.length : Int) ≤ tp + 1 ∧ ∀ z ∈ ws, z.length ≤ 8 := by
  cases d with
  | tuple ds =>
    have h2 : (decide (1 ≤ ds.length) && decide ((ds.length : Int) ≤ tp + 1) && ds.all isWordD) = true := h
    simp only [Bool.and_eq_true, decide_eq_true_eq] at h2
    obtain ⟨ws, rfl, hw⟩ := words_inv h2.2
    refine ⟨ws, rfl, ?_, ?_, hw⟩
    · simpa using h2.1.1
    · simpa using h2.1.2
  | _ => cases h
theorem stretch_inv {d : PyData} (h : isStretchD d = true) : ∃ i j : Int, d = .tuple [.int i, .int j] ∧ 0 ≤ i ∧ i ≤ j ∧ j ≤ 10 ^ 30 := by
  unfold isStretchD at h
  split at h
  · rename_i a b
    rw [Bool.and_eq_true, Bool.and_eq_true] at h
    obtain ⟨⟨ha, hb⟩, hc⟩ := h
    obtain ⟨i, rfl⟩ : ∃ i, a = .int i := by
      cases a with
      | int i => exact ⟨i, rfl⟩
      | _ => cases ha
    obtain ⟨j, rfl⟩ : ∃ j, b = .int j := by
      cases b with
      | int j => exact ⟨j, rfl⟩
      | _ => cases hb
    have h1 : (decide (0 ≤ i) && decide (i ≤ 10 ^ 30)) = true := ha
    have h2 : (decide (0 ≤ j) && decide (j ≤ 10 ^ 30)) = true := hb
    rw [Bool.and_eq_true] at h1 h2
    exact ⟨i, j, rfl, of_decide_eq_true h1.1, of_decide_eq_true hc, of_decide_eq_true h2.2⟩
  · cases h
theorem da_strs {K : PySem.W.Frag} {H : Hp} : ∀ {xs : List V} {ws : List Str}, DaAll K H xs (ws.map PyData.str) → xs = ws.map V.str
  | [], [], _ => rfl
  | x :: xs, w :: ws, .cons a b => by
    cases a
    rw [da_strs b]
    rfl
theorem da_chain {K : PySem.W.Frag} {H : Hp} {v : V} {ws : List Str} (h : Da K H v (.tuple (ws.map PyData.str))) : ∃ a, v = .ref a ∧ SqT K H a (ws.map V.str) := by
  cases h with
  | tup s a =>
    have e := da_strs a
    subst e
    exact ⟨_, rfl, s⟩
theorem da_pair {K : PySem.W.Frag} {H : Hp} {v : V} {i j : Int} (h : Da K H v (.tuple [.int i, .int j])) : ∃ a, v = .ref a ∧ SqT K H a [.int i, .int j] := by
  cases h with
  | tup s a =>
    cases a with
    | cons p q =>
      cases q with
      | cons p' q' =>
        cases q'
        cases p
        cases p'
        exact ⟨_, rfl, s⟩
theorem sum_le8 : ∀ {ws : List Str}, (∀ z ∈ ws, z.length ≤ 8) → (ws.map (·.length)).sum ≤ 8 * ws.length
  | [], _ => by simp
  | w :: ws, h => by
    have a := h w List.mem_cons_self
    have b := sum_le8 fun z hz => h z (List.mem_cons_of_mem _ hz)
    simp only [List.map_cons, List.sum_cons, List.length_cons]
    omega
section
variable {P : Program} {w : World} {K : PySem.W.Frag} {mg : Str → Option Value} {base : Heap}
theorem scStI : FnScope ["self", "person", "days", "text"] ["self", "person", "days", "text"] (defScope sStI) := ⟨rfl, rfl, rfl, by decide +kernel, rfl, by decide +kernel, by decide +kernel⟩
abbrev f1 (p : V) : List (Str × V) := [("_person", p)]
abbrev f2 (p d : V) : List (Str × V) := [("_person", p), ("_days", d)]
abbrev f3 (p d t : V) : List (Str × V) := [("_person", p), ("_days", d), ("_text", t)]
abbrev f4 (p d t n : V) : List (Str × V) := [("_person", p), ("_days", d), ("_text", t), ("_name", n)]
abbrev f5 (p d t n c : V) : List (Str × V) := [("_person", p), ("_days", d), ("_text", t), ("_name", n), ("_chain", c)]
theorem put1 {p : V} : putF "_person" p [] = f1 p := rfl
theorem put2 {p d : V} : putF "_days" d (f1 p) = f2 p d := by
  have h : ¬ (Str.ofString "_person" = Str.ofString "_days") := by decide +kernel
  simp [putF, h]
theorem put3 {p d t : V} : putF "_text" t (f2 p d) = f3 p d t := by
  have h1 : ¬ (Str.ofString "_person" = Str.ofString "_text") := by decide +kernel
  have h2 : ¬ (Str.ofString "_days" = Str.ofString "_text") := by decide +kernel
  simp [putF, h1, h2]
theorem put4 {p d t n : V} : putF "_name" n (f3 p d t) = f4 p d t n := by
  have h1 : ¬ (Str.ofString "_person" = Str.ofString "_name") := by decide +kernel
  have h2 : ¬ (Str.ofString "_days" = Str.ofString "_name") := by decide +kernel
  have h3 : ¬ (Str.ofString "_text" = Str.ofString "_name") := by decide +kernel
  simp [putF, h1, h2, h3]
theorem put5 {p d t n c : V} : putF "_chain" c (f4 p d t n) = f5 p d t n c := by
  have h1 : ¬ (Str.ofString "_person" = Str.ofString "_chain") := by decide +kernel
  have h2 : ¬ (Str.ofString "_days" = Str.ofString "_chain") := by decide +kernel
  have h3 : ¬ (Str.ofString "_text" = Str.ofString "_chain") := by decide +kernel
  have h4 : ¬ (Str.ofString "_name" = Str.ofString "_chain") := by decide +kernel
  simp [putF, h1, h2, h3, h4]
def spStatC (K : PySem.W.Frag) (C : Addr) : Sp := fun vs H Q _ => ∃ (a dx : Addr) (p d t : V), vs = [.ref a, p, d, t] ∧ H a = some (.ins C dx []) ∧ Q .non (upd H a (.ins C dx [("_person", p), ("_days", d), ("_text", t)]))
theorem ok_statI {C : Addr} {f : Addr} {fd : FuncData} (F : Fun K "__init__" "Statement.__init__" sStI f fd) (c : Cls K C) (n1 : NoAttr K C "_person") (n2 : NoAttr K C "_days") (n3 : NoAttr K C "_text") : FnOk P w K mg base CX0 1 f fd ["self", "person", "days", "text"] (spStatC K C) := by
  refine F.ok scStI (fun vs H Q E h => ?_) (fun cdv A outer s H vs Q E hr h => ?_)
  · obtain ⟨a, dx, p, d, t, rfl, _⟩ := h
    rfl
  · obtain ⟨a, dx, p, d, t, rfl, ea, k⟩ := h
    refine ⟨_, pss_cons (ps_fld (pv 0) (pv 1) rfl) (pss_cons (ps_fld (pv 0) (pv 2) rfl) (pss_one (ps_fld (pv 0) (pv 3) rfl))), ?_⟩
    refine ⟨_, rfl, _, rfl, a, C, dx, [], rfl, ea, c, n1, by decide, ?_⟩
    refine ⟨_, rfl, _, rfl, a, C, dx, _, rfl, upd_same, c, n2, by rw [put1]; show 1 < 1000; decide, ?_⟩
    refine ⟨_, rfl, _, rfl, a, C, dx, _, rfl, upd_same, c, n3, by rw [put1, put2]; show 2 < 1000; decide, ?_⟩
    rw [upd_upd, upd_upd, put1, put2, put3]
    exact k
end
end LW

/-! Data stay when an instance is written. -/
namespace G
open PySem PySem.Spec L2
open PySem.W (Frag)
section
variable {K : Frag} {H H' : Hp} {p C dx : Addr} {fs : List (Str × V)}
theorem sqT_but (hp : H p = some (.ins C dx fs)) (e : ∀ b o, H b = some o → b ≠ p → H' b = some o) {a : Addr} {xs : List V} (s : SqT K H a xs) : SqT K H' a xs := by
  rcases s with (s | ⟨o, s⟩) | s
  · exact .inl (.inl (e _ _ s (ne_of s hp (by intro z; cases z))))
  · exact .inl (.inr ⟨o, e _ _ s (ne_of s hp (by intro z; cases z))⟩)
  · exact .inr s
theorem sqL_but (hp : H p = some (.ins C dx fs)) (e : ∀ b o, H b = some o → b ≠ p → H' b = some o) {a : Addr} {xs : List V} (s : SqL K H a xs) : SqL K H' a xs := by
  rcases s with (s | ⟨o, s⟩) | s
  · exact .inl (.inl (e _ _ s (ne_of s hp (by intro z; cases z))))
  · exact .inl (.inr ⟨o, e _ _ s (ne_of s hp (by intro z; cases z))⟩)
  · exact .inr s
mutual
theorem Da.ins (hp : H p = some (.ins C dx fs)) (e : ∀ b o, H b = some o → b ≠ p → H' b = some o) : ∀ {v : V} {d : PyData}, Da K H v d → Da K H' v d
  | _, _, .non => .non
  | _, _, .bl b => .bl b
  | _, _, .int i => .int i
  | _, _, .str x => .str x
  | _, _, .lst n s a => .lst n (sqL_but hp e s) (DaAll.ins hp e a)
  | _, _, .tup s a => .tup (sqT_but hp e s) (DaAll.ins hp e a)
  | _, _, .dct s a b => .dct (e _ _ s (ne_of s hp (by intro z; cases z))) (DaAll.ins hp e a) (DaAll.ins hp e b)
theorem DaAll.ins (hp : H p = some (.ins C dx fs)) (e : ∀ b o, H b = some o → b ≠ p → H' b = some o) : ∀ {vs : List V} {ds : List PyData}, DaAll K H vs ds → DaAll K H' vs ds
  | _, _, .nil => .nil
  | _, _, .cons h t => .cons (Da.ins hp e h) (DaAll.ins hp e t)
end
end
end G

namespace LW
open PySem L2 G
/-- the stretch at st stands for the days vd -/
def StAt (K : PySem.W.Frag) (H : Hp) (vd st : V) (dd : PyData) : Prop := (dd ≠ .none ∧ st = vd) ∨ (dd = .none ∧ Da K H st (.tuple [.int 0, .int (10 ^ 30)]))
def strD : PyData → Str
  | .str z => z
  | _ => Str.empty
/-- the words of a chain -/
def wordsD : PyData → List Str
  | .tuple ds => ds.map strD
  | _ => []
/-- the two numbers of a stretch; None stands for all days -/
def intsD : PyData → Int × Int
  | .tuple [.int i, .int j] => (i, j)
  | _ => (0, 10 ^ 30)
def namTD (dp dn dc dd : PyData) : Str := namT (strD dp) (strD dn) (wordsD dc) (intsD dd).1 (intsD dd).2
theorem wordsD_chain (ws : List Str) : wordsD (.tuple (ws.map PyData.str)) = ws := by
  show (ws.map PyData.str).map _ = ws
  rw [List.map_map]
  exact List.map_id' _
/-- Naming's __init__: C the class of the new one, CW, CC, CS the errors' classes -/
def spNam (K : PySem.W.Frag) (C CW CC CS : Addr) : Sp := fun vs H Q E => ∃ (a dx : Addr) (vp vn vc vd : V) (dp dn dc dd : PyData), vs = [.ref a, vp, vn, vc, vd] ∧ H a = some (.ins C dx []) ∧ Da K H vp dp ∧ Da K H vn dn ∧ Da K H vc dc ∧ Da K H vd dd ∧
  okStr dp ∧ okStr dn ∧ okTup dc ∧
  (isWordD dp = false → Wants E CW vp H) ∧ (isWordD dp = true → isWordD dn = false → Wants E CW vn H) ∧ (isWordD dp = true → isWordD dn = true → isChainD dc 4 = false → Wants E CC vc H) ∧
  (isWordD dp = true → isWordD dn = true → isChainD dc 4 = true → dd ≠ .none → isStretchD dd = false → Wants E CS vd H) ∧
  (isWordD dp = true → isWordD dn = true → isChainD dc 4 = true → dd = .none ∨ isStretchD dd = true → ∀ (st : V) (H' : Hp), (∀ b o, H b = some o → b ≠ a → H' b = some o) → H' a = some (.ins C dx (f5 vp st (.str (namTD dp dn dc dd)) vn vc)) → StAt K H' vd st dd → Q .non H')
section
variable {P : Program} {w : World} {K : PySem.W.Frag} {mg : Str → Option Value} {base : Heap}
variable {C CW CC CS fW fC fD fS fT fI fE : Addr} {fdW fdC fdD fdS fdT fdI fdE : FuncData}
theorem scNmI : ScopeS ["self", "person", "name", "chain", "days", "stretch"] ["self", "person", "name", "chain", "days"] (defScope sNmI) := ⟨rfl, rfl, rfl, by decide +kernel, rfl, by decide +kernel, by decide +kernel, by decide +kernel, by decide +kernel, by decide +kernel, by decide +kernel⟩
theorem ok_namI {f : Addr} {fd : FuncData} (F : FunS K "__init__" "Naming.__init__" sNmI 1 C f fd) (B : Pb mg) (c : NamC K C)
    (GW : FnOk PySem.Challenge.pw_namechains_k02_leaves_made_and_refused w K mg base (L2.CX PySem.Challenge.pw_namechains_k02_leaves_made_and_refused w) 3 fW fdW ["value"] (spCheckW K CW)) (mW : mg "_check_word" = some (.ref fW)) (kW : PySem.W.keepIn K (.ref fW) = true) (bW : Binds K fdW ["value"] [])
    (GC : FnOk PySem.Challenge.pw_namechains_k02_leaves_made_and_refused w K mg base CX0 2 fC fdC ["value", "most"] (spIsChain K)) (mC : mg "is_chain" = some (.ref fC)) (kC : PySem.W.keepIn K (.ref fC) = true) (bC : Binds K fdC ["value", "most"] [])
    (R : Er PySem.Challenge.pw_namechains_k02_leaves_made_and_refused w K mg base "InvalidChain" CC fE fdE)
    (GD : FnOk PySem.Challenge.pw_namechains_k02_leaves_made_and_refused w K mg base (L2.CX PySem.Challenge.pw_namechains_k02_leaves_made_and_refused w) 4 fD fdD ["value"] (spDays K CS)) (mD : mg "_checked_days" = some (.ref fD)) (kD : PySem.W.keepIn K (.ref fD) = true) (bD : Binds K fdD ["value"] [])
    (GT : FnOk PySem.Challenge.pw_namechains_k02_leaves_made_and_refused w K mg base CX0 2 fT fdT ["person", "name", "chain", "days"] (spNText K)) (mT : mg "naming_text" = some (.ref fT)) (kT : PySem.W.keepIn K (.ref fT) = true) (bT : Binds K fdT ["person", "name", "chain", "days"] [])
    (Y : SupOk K mg C C fS) (GS : FnOk PySem.Challenge.pw_namechains_k02_leaves_made_and_refused w K mg base CX0 1 fS fdS ["self", "person", "days", "text"] (spStatC K C)) (bS : Binds K fdS ["self", "person", "days", "text"] []) :
    FnOk PySem.Challenge.pw_namechains_k02_leaves_made_and_refused w K mg base (L2.CX PySem.Challenge.pw_namechains_k02_leaves_made_and_refused w) 5 f fd ["self", "person", "name", "chain", "days"] (spNam K C CW CC CS) := by
  refine fun_okS (pre := (defBody sNmI).take 4) (sup := (defBody sNmI).getD 4 (.Pass ⟨0, 0, 0, 0⟩)) (post := (defBody sNmI).drop 5) F scNmI (fun vs H Q E h => ?_) rfl
    (fun oc od dV kV doc pm an cda cc ct osl cl cld csl ccl cdd vs0 ccs tf lk hcc hcd hv2 A outer s H vs Q E hr h => ?_)
  · obtain ⟨a, dx, vp, vn, vc, vd, dp, dn, dc, dd, rfl, _⟩ := h
    rfl
  · obtain ⟨a, dx, vp, vn, vc, vd, dp, dn, dc, dd, rfl, ea, hp, hn, hc, hd, op, on, oc', e1, e2, e3, e4, k⟩ := h
    obtain ⟨t4, m4⟩ := B.names
    have pass : Passes (L2.CX PySem.Challenge.pw_namechains_k02_leaves_made_and_refused w) (cxS (L2.CX PySem.Challenge.pw_namechains_k02_leaves_made_and_refused w) PySem.Challenge.pw_namechains_k02_leaves_made_and_refused w K mg base ["self", "person", "name", "chain", "days", "stretch"] "Naming.__init__" (defScope sNmI) f cda cc A outer s H E) E :=
      passes_call (takes_of rfl rfl rfl rfl) fun _ _ _ _ h => h
    refine ⟨_, _, _, pss_cons (ps_expr (pe_call GW (hr.mono (by decide)) (by rfl) mW kW bW .nil pass (pa_cons (pv 1) pa_nil)))
        (pss_cons (ps_expr (pe_call GW (hr.mono (by decide)) (by rfl) mW kW bW .nil pass (pa_cons (pv 2) pa_nil)))
        (pss_cons (ps_if (pt_not (pt_val (pe_call GC (hr.mono (by decide)) (by rfl) mC kC bC .nil pass0 (pa_cons (pv 3) (pa_cons (pe_glob (v := .int 4) (by rfl) m4 ⟨_, rfl⟩) pa_nil)))))
          (pss_one (ps_raise rfl (takes_of rfl rfl rfl rfl) (pmk_oex (C := CC) (fI := fE) R.T R.iC R.tI R.I (hr.mono (by decide)) R.b .nil pass0 (by rfl) R.g (pa_cons (pv 3) pa_nil)))) pss_nil)
        (pss_one (ps_set (i := 5) scNmI.nd rfl (Or.inl rfl) (pe_call GD hr (by rfl) mD kD bD .nil pass (pa_cons (pv 4) pa_nil)))))),
      fun pins z σ G Dn I ht => at_super (C := C) (pl := (do return (← importBound (.Call (.Name "super" _) [] [] _) _).getD true)) scNmI lk hcc hcd hv2 ⟨_, rfl, rfl, by decide +kernel⟩ rfl (by decide +kernel) Y GS bS (hr.mono (by decide)) pass0
        (pa_cons (pv 1) (pa_cons (pv 5) (pa_cons (pe_call GT (hr.mono (by decide)) (by rfl) mT kT bT .nil pass0 (pa_cons (pv 1) (pa_cons (pv 2) (pa_cons (pv 3) (pa_cons (pv 5) pa_nil))))) pa_nil))) (by rfl) (by rfl) (by rfl) (by rfl) I ht,
      pss_cons (ps_fld (pv 0) (pv 2) rfl) (pss_one (ps_fld (pv 0) (pv 3) rfl)), ?_⟩
    -- the person
    refine ⟨_, rfl, vp, dp, rfl, hp, op, fun wp H1 S1 => ?_, fun wp => e1 wp⟩
    have np1 : H1 a = some (.ins C dx []) := S1 _ _ ea
    refine ⟨_, rfl, vn, dn, rfl, hn.same S1, on, fun wn H2 S2 => ?_, fun wn => (e2 wp wn).same S1⟩
    have S02 := S1.trans S2
    refine ⟨_, rfl, vc, dc, 4, rfl, hc.same S02, oc', fun H3 S3 => ?_⟩
    have S03 := S02.trans S3
    refine ⟨_, rfl, ?_⟩
    cases wc : isChainD dc 4 with
    | false => exact iteT (mk_er (fun R h => ⟨_, rfl, h⟩) ((e3 wp wn wc).same S03))
    | true =>
      refine iteF ?_
      obtain ⟨zp, rfl, _, lp⟩ := word_inv wp
      obtain ⟨zn, rfl, _, ln⟩ := word_inv wn
      obtain ⟨ws, rfl, w1, w5, w8⟩ := chain_inv wc
      cases hp
      cases hn
      obtain ⟨ac, rfl, hS⟩ := da_chain (hc.same S03)
      have few := sum_le8 w8
      have hd3 := hd.same S03
      have go : ∀ (st : V) (q : Addr) (i j : Int) (H4 : Hp), (∀ b o, H3 b = some o → H4 b = some o) → st = .ref q → SqT K H4 q [.int i, .int j] → 0 ≤ i → i ≤ 10 ^ 30 → 0 ≤ j → j ≤ 10 ^ 30 → StAt K H4 vd st dd → intsD dd = (i, j) → (dd = .none ∨ isStretchD dd = true) →
          tSup C (spStatC K C) E0 (tCons (tVar 1) (tCons (tVar 5) (tCons (tCall (spNText K) [] E0 (tCons (tVar 1) (tCons (tVar 2) (tCons (tVar 3) (tCons (tVar 5) tNil)))) ) tNil)))
            { nx := fun σ2 H2 => tSeq (sFld K (tVar 0) (tVar 2) "_name") (sFld K (tVar 0) (tVar 3) "_chain") { nx := fun _ H3 => Q .non H3, rt := Q } σ2 H2, rt := Q } [some (.ref a), some (.str zp), some (.str zn), some (.ref ac), some vd, some st] H4 := by
        intro st q i j H4 S34 est hst i0 i1 j0 j1 hSt hij hdd
        subst est
        have ea4 : H4 a = some (.ins C dx []) := S34 _ _ (S03 _ _ ea)
        have hS4 : SqT K H4 ac (ws.map V.str) := by
          rcases hS with (z | ⟨o, z⟩) | z
          · exact .inl (.inl (S34 _ _ z))
          · exact .inl (.inr ⟨o, S34 _ _ z⟩)
          · exact .inr z
        refine ⟨a, dx, [], rfl, ea4, _, rfl, _, rfl, _, rfl, _, rfl, _, rfl, _, rfl, zp, zn, ac, q, ws, i, j, rfl, by omega, by omega, hS4, by omega, hst, i0, i1, j0, j1, ?_⟩
        refine ⟨a, dx, _, _, _, rfl, ea4, ?_⟩
        refine ⟨_, rfl, _, rfl, a, C, dx, _, rfl, upd_same, c.cl, c.n4, by show 3 < 1000; decide, ?_⟩
        refine ⟨_, rfl, _, rfl, a, C, dx, _, rfl, upd_same, c.cl, c.n5, by rw [put4]; show 4 < 1000; decide, ?_⟩
        rw [upd_upd, upd_upd, put4, put5]
        have et : namT zp zn ws i j = namTD (.str zp) (.str zn) (.tuple (ws.map PyData.str)) dd := by
          unfold namTD
          rw [hij, wordsD_chain]
          rfl
        rw [et]
        refine k wp wn wc hdd (.ref q) _ (fun b o e nb => by rw [upd_ne nb]; exact S34 _ _ (S03 _ _ e)) upd_same ?_
        rcases hSt with ⟨z1, z2⟩ | ⟨z1, z2⟩
        · exact .inl ⟨z1, z2⟩
        · exact .inr ⟨z1, z2.ins ea4 fun b o e nb => by rw [upd_ne nb]; exact e⟩
      refine ⟨_, rfl, vd, dd, rfl, hd3, fun z q hq => ?_, fun z => ?_, fun z1 z2 => (e4 wp wn wc z1 z2).same S03⟩
      · subst z
        have s4 := same_new (o := .tup [V.int 0, .int (10 ^ 30)]) hq
        refine go (.ref q) q 0 (10 ^ 30) _ s4 rfl (SqT.of upd_same) (by decide) (by decide +kernel) (by decide +kernel) (by decide +kernel) (.inr ⟨rfl, .tup (SqT.of upd_same) (.cons (.int _) (.cons (.int _) .nil))⟩) rfl (.inl rfl)
      · obtain ⟨i, j, rfl, i0, ij, j1⟩ := stretch_inv z
        obtain ⟨q, rfl, hq⟩ := da_pair hd3
        refine go (.ref q) q i j H3 (fun _ _ e => e) rfl hq i0 (by omega) (by omega) j1 (.inl ⟨(by intro y; cases y), rfl⟩) rfl (.inr z)
end
end LW

/-! == and != of an own instance by its class's own __eq__, beside anything, with either answer. -/
namespace G
open PySem PySem.Spec PyProof.Rows L2
section
variable {prog : Program} {w : World} {A : Around} {E : Value → Shared → Prop} {s : Shared} {K : PySem.W.Frag} {x C f : Addr} {ox : Obj} {od : Option Obj} {b tb : Value}
/-- x != b: object.__ne__ asks the own __eq__ -/
theorem ne_own {Q : Value → Shared → Prop} (hu : A.units + 1 < cLine) (X : K.In s.heap) (I : PySem.W.InstAt s.heap x ox C od) (hb : PySem.W.Looks (model prog w) s.heap (typeOf b) tb) (hn : PySem.W.notFirst K C tb = true)
    (heq : PySem.W.findIn K (.ref C) "__eq__" = some (some (.ref f))) (hne : PySem.W.findIn K (.ref C) "__ne__" = some (some (.builtin "object.__ne__"))) (hf : PySem.W.isFn K (.ref f) = true) (hob : PySem.W.subIn K (.ref C) (.type "object") = some true)
    (h : wpAny (model prog w) A.in1 (call (.ref f) [.ref x, b]) (fun v z => ∃ k, v = .bool k ∧ Q (.bool (!k)) z) E s) : wpAny (model prog w) A (richCompare .NotEq (.ref x) b) Q E s := by
  have kind := I.type (M := model prog w)
  have entry : wpAny (model prog w) A.in1 (Builtin.«object.__ne__» ⟨[.ref x, b], []⟩) (fun fin z => ∃ k, fin = .done (.ret (.bool k)) ∧ Q (.bool k) z) E s := by
    unfold Builtin.«object.__ne__»
    refine wpAny_bind (wpAny_of_eq (a := ((Value.ref x : Value), [b])) (by first | rfl | (simp only [slotArgs]; rfl)) ?_)
    refine wpAny_bind (wpAny_cRoomFor hu ?_)
    refine wpAny_bind (PySem.W.ifBound_K X I heq hf (wpAny_mono h (fun v z q => ?_) fun _ _ e => e))
    obtain ⟨k, rfl, q⟩ := q
    refine wpAny_bind (wpAny_truthy_bool ?_)
    exact wpAny_pure ⟨_, rfl, q⟩
  have call1 : wpAny (model prog w) A (call (.builtin "object.__ne__") [.ref x, b]) (fun v z => ∃ k, v = .bool k ∧ Q (.bool k) z) E s := by
    refine wpAny_call (codeAny_call_builtin PySem.F.cmp_object.ne.plain PySem.F.cmpEntry_ne ?_)
    refine PySem.W.check_slot PySem.F.cmpKind_ne PySem.F.cmpSplit_ne (kind.andThen (PySem.W.looks_subIn X hob)) (PySem.F.cmpArgs_ne _ _) ?_
    refine wpAny_mono entry (fun fin z q => ?_) fun _ _ e => e
    obtain ⟨k, rfl, q⟩ := q
    exact ⟨k, rfl, q⟩
  have one : wpAny (model prog w) A (tryCompare (.ref x) "__ne__" b) (fun r z => ∃ k, r = some (.bool k) ∧ Q (.bool k) z) E s := by
    unfold tryCompare
    refine wpAny_bind ?_
    simp only [callSpecialIfBound?, bindSpecialIfBound?]
    refine wpAny_holding (wpAny_bind (wpAny_bind (wpAny_bind (kind.here ((PySem.W.looks_findIn X hne).here ?_)))))
    refine wpAny_bind (wpAny_askSetting (wpAny_ite ?_))
    have fin : ∀ R : Option Value → Shared → Prop, (∀ k z, Q (.bool k) z → R (some (.bool k)) z) → wpAny (model prog w) A (call (.builtin "object.__ne__") ([.ref x] ++ [b]) >>= fun v => pure (some v)) R E s := fun R hR => by
      refine wpAny_bind (wpAny_mono call1 (fun v z q => ?_) fun _ _ e => e)
      obtain ⟨k, rfl, q⟩ := q
      exact wpAny_pure (hR k z q)
    rw [PySem.F.cmp_object.ne.bind]
    split
    · exact wpAny_bind (wpAny_pure (wpAny_pure (fin _ fun k z q => wpAny_pure ⟨k, rfl, q⟩)))
    · exact wpAny_tryCatch (wpAny_bind (wpAny_pure (wpAny_pure (fin _ fun k z q => wpAny_pure ⟨k, rfl, q⟩))))
  unfold richCompare
  simp only [oneThing_ref]
  refine wpAny_holding (wpAny_bind (wpAny_cRoomFor (Nat.lt_of_succ_lt hu) (wpAny_bind (kind.here (wpAny_bind (hb.here ?_))))))
  rw [cmpInfo_NotEq]
  dsimp only
  split
  · rename_i q
    have e : PySem.W.subIn K tb (.ref C) = some false := by
      cases Bool.or_eq_true_iff.mp hn with
      | inl e =>
        rw [beq_iff_eq.mp e] at q
        simp at q
      | inr e => exact beq_iff_eq.mp e
    refine wpAny_bind ((PySem.W.looks_subIn X e).here ?_)
    simp only [Bool.false_eq_true, if_false]
    refine wpAny_bind (wpAny_mono one (fun r z q => ?_) fun _ _ e => e)
    obtain ⟨k, rfl, q⟩ := q
    exact wpAny_pure q
  · refine wpAny_bind (wpAny_pure ?_)
    simp only [Bool.false_eq_true, if_false]
    refine wpAny_bind (wpAny_mono one (fun r z q => ?_) fun _ _ e => e)
    obtain ⟨k, rfl, q⟩ := q
    exact wpAny_pure q
end
/-- what the written part says of a class with its own __eq__, at f, and no __ne__ -/
structure EqC (K : PySem.W.Frag) (C f : Addr) : Prop where
  eq : PySem.W.findIn K (.ref C) "__eq__" = some (some (.ref f))
  ne : PySem.W.findIn K (.ref C) "__ne__" = some (some (.builtin "object.__ne__"))
  fn : PySem.W.isFn K (.ref f) = true
  ob : PySem.W.subIn K (.ref C) (.type "object") = some true
def eqCB (K : PySem.W.Frag) (C f : Addr) : Bool := decide (PySem.W.findIn K (.ref C) "__eq__" = some (some (.ref f))) && (decide (PySem.W.findIn K (.ref C) "__ne__" = some (some (.builtin "object.__ne__"))) && (PySem.W.isFn K (.ref f) && decide (PySem.W.subIn K (.ref C) (.type "object") = some true)))
theorem eqCB_ok {K : PySem.W.Frag} {C f : Addr} (h : eqCB K C f = true) : EqC K C f := by
  simp only [eqCB, Bool.and_eq_true, decide_eq_true_eq] at h
  exact ⟨h.1, h.2.1, h.2.2.1, h.2.2.2⟩
/-- x == y (neg: x != y), x an instance of C, y of a kind that is no subclass of C: as the own __eq__ promises -/
def rOwn (K : PySem.W.Frag) (C : Addr) (sp : Sp) (neg : Bool) : R2 := fun x y H Q => ∃ (a dx : Addr) (fs : List (Str × V)) (tb : Value), x = .ref a ∧ H a = some (.ins C dx fs) ∧ TyX K H y tb ∧ PySem.W.notFirst K C tb = true ∧
  sp [.ref a, y] H (fun v G => ∃ k, v = .bl k ∧ Q (.bl (if neg then !k else k)) G) fun _ _ _ => False
section
variable {X : Cx} {C f : Addr} {fd : FuncData} {ps : List Str} {sp : Sp} {k : Nat}
theorem own_call {pins : List (Addr × Obj)} {σ : L2.St} {H : Hp} {s : Shared} {A : Around} {Q : VK} {us : List Value} {vs : List V} (F : FnOk X.prog X.w X.K X.mg X.base CX0 k f fd ps sp) (b : Binds X.K fd ps []) (r : Room k A) (fr : A.frames = some X.stack) (I : Inv X pins σ H s) (rv : Vals vs us)
    (h : sp vs H Q fun _ _ _ => False) : wpAny (model X.prog X.w) A (call (.ref f) us) (EP X pins σ Q) X.xe s := by
  have e0 := I.env0
  have n : us.length = ps.length := rv.length ▸ F.len _ _ _ _ h
  have b1 := b s us I.kIn (by rw [List.append_nil]; exact n)
  rw [List.append_nil] at b1
  refine wpAny_call (codeAny_mono (F.run A X.stack s H ⟨us, []⟩ us vs Q _ r ⟨fr, e0.mod, e0.bs, e0.bsz, e0.funs, e0.frf, e0.hok, e0.bare⟩ b1 rv h) fun res z q => ?_)
  match res, q with
  | .error e, q => exact q.elim
  | .ok (.ret u), q => exact I.after q
theorem op_eqO (F : FnOk X.prog X.w X.K X.mg X.base CX0 k f fd ps sp) (c : EqC X.K C f) (b : Binds X.K fd ps []) (hr : Room k X.A) : OpR X (compareOp .Eq) (rOwn X.K C sp false) := by
  intro pins s σ H x y v u Q I rx ry h
  obtain ⟨a, dx, fs, tb, rfl, ha, ty, nf, h⟩ := h
  cases rx
  obtain ⟨P, kit, hP, _⟩ := kit_of I ry ty
  obtain ⟨m, J, _⟩ := ins_get I.hok ha
  obtain ⟨od, J, _⟩ := J.look
  obtain ⟨mm, hF⟩ := I.fr
  show wpAny (model X.prog X.w) X.A (richCompare .Eq (.ref a) u) (EP X pins σ Q) X.xe s
  refine PySem.W.cmp_K (op := .Eq) (tb := tb) hr.units0 hF I.ok.mod.kin J (kit.ty _ _ I.kIn hP) nf c.eq c.fn ?_
  refine wpAny_mono (own_call F b hr I.ok.frames I (.cons (a := V.ref a) rfl (.cons ry .nil)) h) (fun z s' q => ?_) fun _ _ z => z
  obtain ⟨v2, H2, J2, r2, k2, rfl, q⟩ := q
  cases r2
  exact ⟨.bl k2, H2, J2, rfl, q⟩
theorem op_neO (F : FnOk X.prog X.w X.K X.mg X.base CX0 k f fd ps sp) (c : EqC X.K C f) (b : Binds X.K fd ps []) (hr : Room (k + 1) X.A) : OpR X (compareOp .NotEq) (rOwn X.K C sp true) := by
  intro pins s σ H x y v u Q I rx ry h
  obtain ⟨a, dx, fs, tb, rfl, ha, ty, nf, h⟩ := h
  cases rx
  obtain ⟨P, kit, hP, _⟩ := kit_of I ry ty
  obtain ⟨m, J, _⟩ := ins_get I.hok ha
  obtain ⟨od, J, _⟩ := J.look
  show wpAny (model X.prog X.w) X.A (richCompare .NotEq (.ref a) u) (EP X pins σ Q) X.xe s
  have hu := hr.units
  refine ne_own (by omega) I.kIn J (kit.ty _ _ I.kIn hP) nf c.eq c.ne c.fn c.ob ?_
  refine wpAny_mono (own_call F b hr.in1 I.ok.frames I (.cons (a := V.ref a) rfl (.cons ry .nil)) h) (fun z s' q => ?_) fun _ _ z => z
  obtain ⟨v2, H2, J2, r2, k2, rfl, q⟩ := q
  cases r2
  exact ⟨k2, rfl, .bl (!k2), H2, J2, rfl, q⟩
end
end G

/-! A Naming's properties and its ==. -/
namespace LW
open PySem L2 G
abbrev sPerson : Stmt := inClass (top 31) 1
abbrev sDays : Stmt := inClass (top 31) 2
abbrev sName : Stmt := inClass (top 32) 1
abbrev sChainP : Stmt := inClass (top 32) 2
abbrev sEqN : Stmt := inClass (top 32) 3
/-- a getter of the field f -/
def spGet (C : Addr) (f : Str) : Sp := fun vs H Q _ => ∃ (a dx : Addr) (fs : List (Str × V)) (v : V), vs = [.ref a] ∧ H a = some (.ins C dx fs) ∧ fs.lookup f = some v ∧ Q v H
/-- the Naming at a -/
structure NamAt (K : PySem.W.Frag) (H : Hp) (C a : Addr) (p n : Str) (ws : List Str) (i j : Int) : Prop where
  at_ : ∃ (dx q c : Addr) (t : Str), H a = some (.ins C dx (f5 (.str p) (.ref q) (.str t) (.str n) (.ref c))) ∧ SqT K H c (ws.map V.str) ∧ SqT K H q [.int i, .int j]
  ok : ∀ z ∈ ws, PyData.strOk z = true
theorem sqT_same {K : PySem.W.Frag} {H H' : Hp} (S : Same H H') {a : Addr} {xs : List V} (s : SqT K H a xs) : SqT K H' a xs := by
  rcases s with (s | ⟨o, s⟩) | s
  · exact .inl (.inl (S _ _ s))
  · exact .inl (.inr ⟨o, S _ _ s⟩)
  · exact .inr s
theorem NamAt.same {K : PySem.W.Frag} {H H' : Hp} {C a : Addr} {p n : Str} {ws : List Str} {i j : Int} (N : NamAt K H C a p n ws i j) (S : Same H H') : NamAt K H' C a p n ws i j := by
  obtain ⟨⟨dx, q, c, t, h1, h2, h3⟩, ok⟩ := N
  exact ⟨⟨dx, q, c, t, S _ _ h1, sqT_same S h2, sqT_same S h3⟩, ok⟩
/-- what the class says of isinstance -/
structure InsK (K : PySem.W.Frag) (C : Addr) : Prop where
  ha : PySem.W.findIn K (.ref C) "__class__" = some (some (.builtin "object.__class__"))
  hn : PySem.W.specialIn K (.builtin "object.__class__") "__get__" = some (some (.builtin "getset_descriptor.__get__"))
  ht : PySem.W.takesIn K (.builtin "object.__class__") = some true
  hm : PySem.W.mroIn K C (.type "object") = some true
  self : PySem.W.kitOne K (.ref C) (.ref C) = some true
theorem NamAt.ty {K : PySem.W.Frag} {H : Hp} {C a : Addr} {p n : Str} {ws : List Str} {i j : Int} (N : NamAt K H C a p n ws i j) (c : NamC K C) (k : InsK K C) : TyX K H (.ref a) (.ref C) := by
  obtain ⟨⟨dx, q, c2, t, h1, h2, h3⟩, ok⟩ := N
  exact .base (.ins h1 c.cl k.ha k.hn k.ht k.hm)
theorem lk1 {p d t n c : V} : List.lookup (Str.ofString "_person") (f5 p d t n c) = some p := by simp [List.lookup]
theorem lk2 {p d t n c : V} : List.lookup (Str.ofString "_days") (f5 p d t n c) = some d := by
  have h1 : (Str.ofString "_days" == Str.ofString "_person") = false := by decide +kernel
  simp [List.lookup, h1]
theorem lk4 {p d t n c : V} : List.lookup (Str.ofString "_name") (f5 p d t n c) = some n := by
  have h1 : (Str.ofString "_name" == Str.ofString "_person") = false := by decide +kernel
  have h2 : (Str.ofString "_name" == Str.ofString "_days") = false := by decide +kernel
  have h3 : (Str.ofString "_name" == Str.ofString "_text") = false := by decide +kernel
  simp [List.lookup, h1, h2, h3]
theorem lk5 {p d t n c : V} : List.lookup (Str.ofString "_chain") (f5 p d t n c) = some c := by
  have h1 : (Str.ofString "_chain" == Str.ofString "_person") = false := by decide +kernel
  have h2 : (Str.ofString "_chain" == Str.ofString "_days") = false := by decide +kernel
  have h3 : (Str.ofString "_chain" == Str.ofString "_text") = false := by decide +kernel
  have h4 : (Str.ofString "_chain" == Str.ofString "_name") = false := by decide +kernel
  simp [List.lookup, h1, h2, h3, h4]
theorem shapedTup (l : List Str) (h : ∀ y ∈ l, PyData.strOk y = true) : SeqAt.shaped (.tuple (l.map PyData.str)) = true := by
  have h1 : (PyData.tuple (l.map PyData.str)).canLay0 = true := by simp only [PyData.canLay0, layStrs l h]
  have h2 : (PyData.tuple (l.map PyData.str)).depth ≤ 64 := by simp only [PyData.depth, depStrs]; omega
  simp only [SeqAt.shaped, h1, h2, decide_true, Bool.and_self]
theorem shapedPair (i j : Int) : SeqAt.shaped (.tuple [.int i, .int j]) = true := by
  simp [SeqAt.shaped, PyData.canLay0, PyData.canLayAll0, PyData.depth, PyData.depthAll]
theorem eqvStrs : ∀ (l m : List Str), PyData.eqvAll (l.map PyData.str) (m.map PyData.str) = decide (l = m)
  | [], [] => by simp [PyData.eqvAll]
  | [], _ :: _ => by simp [PyData.eqvAll]
  | _ :: _, [] => by simp [PyData.eqvAll]
  | a :: l, b :: m => by
    simp only [List.map_cons, PyData.eqvAll, PyData.eqv, eqvStrs l m, List.cons.injEq]
    by_cases h : a = b <;> by_cases h2 : l = m <;> simp [h, h2]
theorem eqvTup (l m : List Str) : PyData.eqv (.tuple (l.map PyData.str)) (.tuple (m.map PyData.str)) = decide (l = m) := by
  simp only [PyData.eqv, eqvStrs]
theorem eqvPair (i j k l : Int) : PyData.eqv (.tuple [.int i, .int j]) (.tuple [.int k, .int l]) = decide (i = k ∧ j = l) := by
  simp only [PyData.eqv, PyData.eqvAll]
  by_cases h : i = k <;> by_cases h2 : j = l <;> simp [h, h2]
/-- Naming's == -/
def spEqN (K : PySem.W.Frag) (C : Addr) : Sp := fun vs H Q _ => ∃ (a : Addr) (y : V) (p n : Str) (ws : List Str) (i j : Int), vs = [.ref a, y] ∧ NamAt K H C a p n ws i j ∧
  ((∃ (b : Addr) (p2 n2 : Str) (ws2 : List Str) (i2 j2 : Int), y = .ref b ∧ NamAt K H C b p2 n2 ws2 i2 j2 ∧ Q (.bl (decide (p = p2 ∧ n = n2 ∧ ws = ws2 ∧ i = i2 ∧ j = j2))) H) ∨ ∃ tb, TyX K H y tb ∧ PySem.W.kitOne K tb (.ref C) = some false ∧ Q (.bl false) H)
section
variable {P : Program} {w : World} {K : PySem.W.Frag} {mg : Str → Option Value} {base : Heap} {C : Addr}
theorem scGP : FnScope ["self"] ["self"] (defScope sPerson) := ⟨rfl, rfl, rfl, by decide +kernel, rfl, by decide +kernel, by decide +kernel⟩
theorem scGD : FnScope ["self"] ["self"] (defScope sDays) := ⟨rfl, rfl, rfl, by decide +kernel, rfl, by decide +kernel, by decide +kernel⟩
theorem scGN : FnScope ["self"] ["self"] (defScope sName) := ⟨rfl, rfl, rfl, by decide +kernel, rfl, by decide +kernel, by decide +kernel⟩
theorem scGC : FnScope ["self"] ["self"] (defScope sChainP) := ⟨rfl, rfl, rfl, by decide +kernel, rfl, by decide +kernel, by decide +kernel⟩
theorem scEqN : FnScope ["self", "other"] ["self", "other"] (defScope sEqN) := ⟨rfl, rfl, rfl, by decide +kernel, rfl, by decide +kernel, by decide +kernel⟩
theorem ok_gP {f : Addr} {fd : FuncData} (F : Fun K "person" "Statement.person" sPerson f fd) (c : NamC K C) : FnOk P w K mg base CX0 1 f fd ["self"] (spGet C "_person") := by
  refine F.ok scGP (fun vs H Q E h => ?_) (fun cdv A outer s H vs Q E hr h => ?_)
  · obtain ⟨a, dx, fs, v, rfl, _⟩ := h
    rfl
  · obtain ⟨a, dx, fs, v, rfl, ea, l, k⟩ := h
    exact ⟨_, pss_one (ps_ret (pe_fld (pv 0) rfl)), ⟨_, rfl, a, C, dx, fs, v, rfl, ea, c.cl, c.n1, l, k⟩⟩
theorem ok_gD {f : Addr} {fd : FuncData} (F : Fun K "days" "Statement.days" sDays f fd) (c : NamC K C) : FnOk P w K mg base CX0 1 f fd ["self"] (spGet C "_days") := by
  refine F.ok scGD (fun vs H Q E h => ?_) (fun cdv A outer s H vs Q E hr h => ?_)
  · obtain ⟨a, dx, fs, v, rfl, _⟩ := h
    rfl
  · obtain ⟨a, dx, fs, v, rfl, ea, l, k⟩ := h
    exact ⟨_, pss_one (ps_ret (pe_fld (pv 0) rfl)), ⟨_, rfl, a, C, dx, fs, v, rfl, ea, c.cl, c.n2, l, k⟩⟩
theorem ok_gN {f : Addr} {fd : FuncData} (F : Fun K "name" "Naming.name" sName f fd) (c : NamC K C) : FnOk P w K mg base CX0 1 f fd ["self"] (spGet C "_name") := by
  refine F.ok scGN (fun vs H Q E h => ?_) (fun cdv A outer s H vs Q E hr h => ?_)
  · obtain ⟨a, dx, fs, v, rfl, _⟩ := h
    rfl
  · obtain ⟨a, dx, fs, v, rfl, ea, l, k⟩ := h
    exact ⟨_, pss_one (ps_ret (pe_fld (pv 0) rfl)), ⟨_, rfl, a, C, dx, fs, v, rfl, ea, c.cl, c.n4, l, k⟩⟩
theorem ok_gC {f : Addr} {fd : FuncData} (F : Fun K "chain" "Naming.chain" sChainP f fd) (c : NamC K C) : FnOk P w K mg base CX0 1 f fd ["self"] (spGet C "_chain") := by
  refine F.ok scGC (fun vs H Q E h => ?_) (fun cdv A outer s H vs Q E hr h => ?_)
  · obtain ⟨a, dx, fs, v, rfl, _⟩ := h
    rfl
  · obtain ⟨a, dx, fs, v, rfl, ea, l, k⟩ := h
    exact ⟨_, pss_one (ps_ret (pe_fld (pv 0) rfl)), ⟨_, rfl, a, C, dx, fs, v, rfl, ea, c.cl, c.n5, l, k⟩⟩
/-- a property of Namings, as the walk needs it -/
structure Pr (P : Program) (w : World) (K : PySem.W.Frag) (mg : Str → Option Value) (base : Heap) (C : Addr) (x f : Str) (p g : Addr) (fd : FuncData) : Prop where
  of : PropOf K C x p g
  ok : FnOk P w K mg base CX0 1 g fd ["self"] (spGet C f)
  b : Binds K fd ["self"] []
variable {pP gP pD gD pN gN pC gC : Addr} {dP dD dN dC : FuncData}
theorem dpTup {K : PySem.W.Frag} {H : Hp} {a : Addr} {ws : List Str} (h : SqT K H a (ws.map V.str)) : Dp K H (.ref a) (.tuple (ws.map PyData.str)) := .tup h (dpStrs K H ws)
theorem dpPair {K : PySem.W.Frag} {H : Hp} {a : Addr} {i j : Int} (h : SqT K H a [.int i, .int j]) : Dp K H (.ref a) (.tuple [.int i, .int j]) := .tup h (.cons (.int i) (.cons (.int j) .nil))
theorem ok_eqN {f : Addr} {fd : FuncData} (F : Fun K "__eq__" "Naming.__eq__" sEqN f fd) (is : mg "isinstance" = none) (gNm : mg "Naming" = some (.ref C)) (c : NamC K C) (k : InsK K C)
    (rP : Pr P w K mg base C "person" "_person" pP gP dP) (rD : Pr P w K mg base C "days" "_days" pD gD dD) (rN : Pr P w K mg base C "name" "_name" pN gN dN) (rC : Pr P w K mg base C "chain" "_chain" pC gC dC) :
    FnOk P w K mg base CX0 3 f fd ["self", "other"] (spEqN K C) := by
  refine F.ok scEqN (fun vs H Q E h => ?_) (fun cdv A outer s H vs Q E hr h => ?_)
  · obtain ⟨a, y, p, n, ws, i, j, rfl, _⟩ := h
    rfl
  · obtain ⟨a, y, p, n, ws, i, j, rfl, N, q⟩ := h
    have hu := hr.units
    refine ⟨_, pss_one (ps_ret (pe_and (pe_callB call_isi (by rfl) is (by decide +kernel) (pa_cons (pv 1) (pa_cons (pe_glob (v := .ref C) (by rfl) gNm rfl) pa_nil)))
      (pe_and (pe_cmpR op_eq (pe_prop (pv 0) c.cl rP.of rP.ok hr rP.b .nil pass0 rfl) (pe_prop (pv 1) c.cl rP.of rP.ok hr rP.b .nil pass0 rfl) (nomark _))
      (pe_and (pe_cmpR op_eq (pe_prop (pv 0) c.cl rN.of rN.ok hr rN.b .nil pass0 rfl) (pe_prop (pv 1) c.cl rN.of rN.ok hr rN.b .nil pass0 rfl) (nomark _))
      (pe_and (pe_cmpR (op_eqD hu) (pe_prop (pv 0) c.cl rC.of rC.ok hr rC.b .nil pass0 rfl) (pe_prop (pv 1) c.cl rC.of rC.ok hr rC.b .nil pass0 rfl) (nomark _))
      (pe_one (pe_cmpR (op_eqD hu) (pe_prop (pv 0) c.cl rD.of rD.ok hr rD.b .nil pass0 rfl) (pe_prop (pv 1) c.cl rD.of rD.ok hr rD.b .nil pass0 rfl) (nomark _)))))))), ?_⟩
    rcases q with ⟨b, p2, n2, ws2, i2, j2, rfl, N2, q⟩ | ⟨tb, ty, kf, q⟩
    · refine ⟨_, rfl, .ref b, .ref C, _, _, true, rfl, .own C, N2.ty c k, k.self, _, rfl, iteT ?_⟩
      obtain ⟨⟨dx, aq, ac, t, h1, h2, h3⟩, ok⟩ := N
      obtain ⟨⟨dx2, aq2, ac2, t2, g1, g2, g3⟩, ok2⟩ := N2
      refine ⟨_, rfl, a, dx, _, rfl, h1, a, dx, _, _, rfl, h1, lk1, _, rfl, b, dx2, _, rfl, g1, b, dx2, _, _, rfl, g1, lk1, (show scal (V.str p) (V.str p2) = true from rfl), _, rfl, ?_⟩
      by_cases ep : p = p2
      rotate_left
      · rw [decide_eq_false (show ¬ V.str p = V.str p2 from fun z => ep (V.str.inj z))]
        rw [decide_eq_false (fun z => ep z.1)] at q
        exact iteF q
      rw [decide_eq_true (show V.str p = V.str p2 by rw [ep])]
      refine iteT ⟨_, rfl, a, dx, _, rfl, h1, a, dx, _, _, rfl, h1, lk4, _, rfl, b, dx2, _, rfl, g1, b, dx2, _, _, rfl, g1, lk4, (show scal (V.str n) (V.str n2) = true from rfl), _, rfl, ?_⟩
      by_cases en : n = n2
      rotate_left
      · rw [decide_eq_false (show ¬ V.str n = V.str n2 from fun z => en (V.str.inj z))]
        rw [decide_eq_false (fun z => en z.2.1)] at q
        exact iteF q
      rw [decide_eq_true (show V.str n = V.str n2 by rw [en])]
      refine iteT ⟨_, rfl, a, dx, _, rfl, h1, a, dx, _, _, rfl, h1, lk5, _, rfl, b, dx2, _, rfl, g1, b, dx2, _, _, rfl, g1, lk5, _, _, dpTup h2, dpTup g2, shapedTup _ ok, shapedTup _ ok2, _, rfl, ?_⟩
      rw [eqvTup]
      by_cases ew : ws = ws2
      rotate_left
      · rw [decide_eq_false ew]
        rw [decide_eq_false (fun z => ew z.2.2.1)] at q
        exact iteF q
      rw [decide_eq_true ew]
      refine iteT ⟨_, rfl, a, dx, _, rfl, h1, a, dx, _, _, rfl, h1, lk2, _, rfl, b, dx2, _, rfl, g1, b, dx2, _, _, rfl, g1, lk2, _, _, dpPair h3, dpPair g3, shapedPair _ _, shapedPair _ _, ?_⟩
      rw [eqvPair]
      have e : decide (p = p2 ∧ n = n2 ∧ ws = ws2 ∧ i = i2 ∧ j = j2) = decide (i = i2 ∧ j = j2) := decide_eq_decide.mpr ⟨fun z => z.2.2.2, fun z => ⟨ep, en, ew, z⟩⟩
      rw [e] at q
      exact q
    · exact ⟨_, rfl, y, .ref C, _, _, false, rfl, .own C, ty, kf, _, rfl, iteF q⟩
end
end LW

/-! Leaves: times and their text. -/
namespace LW
open PySem L2 G
abbrev pTimes : Stmt := top 12
abbrev pTText : Stmt := top 29
def isTimesD : PyData → Bool
  | .none => true
  | d => intInD d 0 9
def timesT : Option Int → Str
  | none => ""
  | some i => Str.empty ++ " + " ++ Str.ofString (toString i)
def timesV : Option Int → V
  | none => .non
  | some i => .int i
def spIsTimes (K : PySem.W.Frag) : Sp := fun vs H Q _ => ∃ (v : V) (d : PyData), vs = [v] ∧ Da K H v d ∧ Q (.bl (isTimesD d)) H
def spTText : Sp := fun vs H Q _ => ∃ t : Option Int, vs = [timesV t] ∧ (∀ i, t = some i → 0 ≤ i ∧ i ≤ 9) ∧ Q (.str (timesT t)) H
section
variable {P : Program} {w : World} {K : PySem.W.Frag} {mg : Str → Option Value} {base : Heap}
variable {fI : Addr} {fdI : FuncData}
theorem scTimes : FnScope ["value"] ["value"] (defScope pTimes) := ⟨rfl, rfl, rfl, by decide +kernel, rfl, by decide +kernel, by decide +kernel⟩
theorem scTText : FnScope ["times"] ["times"] (defScope pTText) := ⟨rfl, rfl, rfl, by decide +kernel, rfl, by decide +kernel, by decide +kernel⟩
theorem ok_times {f : Addr} {fd : FuncData} (F : Fun K "is_times" "is_times" pTimes f fd) (mT : ∃ t, mg "MAX_TIMES" = some (.int 9 t)) (GI : FnOk P w K mg base CX0 1 fI fdI ["value", "low", "high"] (spInt K)) (mI : mg "is_integer_in" = some (.ref fI)) (kI : PySem.W.keepIn K (.ref fI) = true) (bI : Binds K fdI ["value", "low", "high"] []) :
    FnOk P w K mg base CX0 2 f fd ["value"] (spIsTimes K) := by
  refine F.ok scTimes (fun vs H Q E h => ?_) (fun cdv A outer s H vs Q E hr h => ?_)
  · obtain ⟨v, d, rfl, _⟩ := h
    rfl
  · obtain ⟨v, d, rfl, hd, k⟩ := h
    obtain ⟨tT, mT⟩ := mT
    refine ⟨_, pss_one (ps_ret (pe_or (pe_cmpR op_isN (pv 0) pe_non (nomark _)) (pe_one (pe_call GI hr (by rfl) mI kI bI .nil pass0 (pa_cons (pv 0) (pa_cons pe_int (pa_cons (pe_glob (v := .int 9) (by rfl) mT ⟨_, rfl⟩) pa_nil))))))), ?_⟩
    refine ⟨_, rfl, rfl, _, rfl, ?_⟩
    by_cases n : v = .non
    · subst n
      cases hd
      exact iteT k
    · rw [decide_eq_false n]
      refine iteF ⟨_, rfl, v, d, 0, 9, rfl, hd, ?_⟩
      have e : isTimesD d = intInD d 0 9 := by
        cases hd <;> first | rfl | exact absurd rfl n
      rw [e] at k
      exact k
theorem ok_ttext {f : Addr} {fd : FuncData} (F : Fun K "_times_text" "_times_text" pTText f fd) : FnOk P w K mg base CX0 1 f fd ["times"] spTText := by
  refine F.ok scTText (fun vs H Q E h => ?_) (fun cdv A outer s H vs Q E hr h => ?_)
  · obtain ⟨t, rfl, _⟩ := h
    rfl
  · obtain ⟨t, rfl, few, k⟩ := h
    refine ⟨_, pss_cons (ps_if (pt_cmpR op_isN (pv 0) pe_non (nomark _)) (pss_one (ps_ret pe_str)) pss_nil) (pss_one (ps_ret (pe_joined (.cons pe_str (.cons (pe_fmt (pv 0)) .nil))))), ?_⟩
    cases t with
    | none => exact ⟨_, rfl, rfl, _, rfl, iteT k⟩
    | some i =>
      obtain ⟨i0, i1⟩ := few i rfl
      refine ⟨_, rfl, rfl, _, rfl, iteF ?_⟩
      have a1 := num_len i0 (by omega)
      have a3 : (Str.ofString " + ").length = 3 := by decide +kernel
      have a4 : (Str.empty).length = 0 := rfl
      refine ⟨_, rfl, ?_, _, rfl, .inr ⟨i, rfl, num_log i0 (by omega), _, rfl, ?_, k⟩⟩
      · rw [sl, a3, a4, sizeLine_eq]; omega
      · rw [sl, sl, a3, a4, sizeLine_eq]; omega
end
end LW

/-! Sets of at most four keys that stand in the heap (tuples of texts): built from a tuple, and counted. -/
namespace TX
open PySem PySem.Spec PyProof.Rows L2
section
variable {P : Program} {w : World} {κ : Type} [DecidableEq κ]
/-- what keys of a kind answer to the small questions -/
structure Sane (g : HeapKind P w κ) : Prop where
  cls : ∀ {A : Around} {E : Value → Shared → Prop} {s : Shared} {k : κ} {b : Addr} {Q : Bool → Shared → Prop}, g.is s.heap k b → Q false s → wpAny (model P w) A (ofAClassStatement 8 (.ref b)) Q E s
  byv : ∀ {A : Around} {E : Value → Shared → Prop} {s : Shared} {k : κ} {b : Addr} {Q : Bool → Shared → Prop}, g.is s.heap k b → (∀ r, Q r s) → wpAny (model P w) A (hashByValue 8 (.ref b)) Q E s
  stay : ∀ {h h' : Heap} {k : κ} {b : Addr}, g.is h k b → (∀ o, h.get? b = some o → h'.get? b = some o) → g.is h' k b
  sq : ∀ {h : Heap} {k : κ} {b : Addr}, g.is h k b → ∃ o vs n, h.get? b = some o ∧ o.data = .seq vs n
/-- the set at a has the keys of L, where they stand -/
structure SetG (g : HeapKind P w κ) (h : Heap) (a : Addr) (L : List (Addr × κ)) (es : Array (Int × Value)) (ep : Nat) (t : SetTable) : Prop where
  at' : ∃ o, h.get? a = some o ∧ o.ExactSet ∧ o.data = .set es ep t
  ent : es.toList = L.map fun q => (g.hash q.2, Value.ref q.1)
  tab : TabOk t (L.map fun q => g.hash q.2)
  one : (L.map Prod.snd).Nodup
  key : ∀ q ∈ L, g.is h q.2 q.1
  ld : w.params.followText "set-order" = true ∨ t.led = true
  m7 : t.mask = 7
  le4 : L.length ≤ 4
variable {g : HeapKind P w κ} {A : Around} {E : Value → Shared → Prop} {s : Shared} {a : Addr} {L : List (Addr × κ)} {es : Array (Int × Value)} {ep : Nat} {t : SetTable}
theorem SetG.num (R : SetG g s.heap a L es ep t) : es.size = L.length := by
  have z := congrArg List.length R.ent
  simpa using z
theorem SetG.fit (R : SetG g s.heap a L es ep t) : t.fits es.size = true := by
  have z := R.tab.sz
  have y := R.num
  have x := R.le4
  have m := R.m7
  rw [List.length_map] at z
  unfold SetTable.fits SetTable.fill
  rw [R.tab.dm]
  simp only [Bool.and_eq_true, beq_iff_eq, decide_eq_true_eq, List.size_toArray, List.length_nil]
  omega
theorem SetG.nth (R : SetG g s.heap a L es ep t) {i : Nat} {q : Addr × κ} (e : L[i]? = some q) : es[i]? = some (g.hash q.2, Value.ref q.1) := by
  have z : es.toList[i]? = some (g.hash q.2, Value.ref q.1) := by
    rw [R.ent, List.getElem?_map, e]
    rfl
  simpa using z
/-- where the search for h begins -/
abbrev beg (t : SetTable) (h : Int) : SetTable.Probe := runAt t.mask (SetTable.bits h % (t.mask + 1)) (SetTable.bits h)
theorem dum (m : Nat) : ∀ (n : Nat) (p : SetTable.Probe), p.dummy = none → (L2.nth m p n).dummy = none
  | 0, _, e => e
  | n + 1, p, e => dum m n (adv m p) (by
    unfold adv
    split <;> exact e)
theorem quiet_all (S : Sane g) {x : Addr} {k : κ} (kx : g.is s.heap k x) {ys : List Value} (all : ∀ y ∈ ys, ∃ k' c, y = Value.ref c ∧ g.is s.heap k' c) {Q : Bool → Shared → Prop} (go : Q false s) :
    wpAny (model P w) A (searchCouldBeSeen (.ref x) ys) Q E s := by
  unfold searchCouldBeSeen
  refine wpAny_bind (wpAny_forIn_list _ (fun left r z => (r.1 = none ∧ z = s) ∧ ∀ y ∈ left, ∃ k' c, y = Value.ref c ∧ g.is s.heap k' c) _ (fun y left r z I => ?_) (fun r z I => ?_) _ _ ⟨⟨rfl, rfl⟩, all⟩)
  · obtain ⟨⟨r0, rfl⟩, al⟩ := I
    obtain ⟨k', c, rfl, kc⟩ := al y List.mem_cons_self
    have al' := fun u (hu : u ∈ left) => al u (List.mem_cons_of_mem _ hu)
    dsimp only
    by_cases v : (x == c || (carriedByValue (.ref x) && carriedByValue (.ref c))) = true
    · exact wp_if_pos v (wpAny_pure ⟨⟨rfl, rfl⟩, al'⟩)
    · refine wp_if_neg v (wpAny_bind (g.quiet kx ?_))
      simp only [Bool.not_true, Bool.false_eq_true, ↓reduceIte]
      refine wpAny_bind (g.quiet kc ?_)
      simp only [Bool.not_true, Bool.false_eq_true, ↓reduceIte]
      refine wpAny_bind (S.cls kx ?_)
      simp only [Bool.false_eq_true, ↓reduceIte]
      refine wpAny_bind (S.cls kc ?_)
      simp only [Bool.false_eq_true, ↓reduceIte]
      exact wpAny_pure ⟨⟨rfl, rfl⟩, al'⟩
  · obtain ⟨r1, r2⟩ := r
    obtain ⟨⟨r0, rfl⟩, _⟩ := I
    dsimp only at r0
    subst r0
    exact wpAny_pure go
/-- the search for the key k, which stands at x, from the c-th step on, d steps ahead of the first free place -/
theorem hunt (S : Sane g) (R : SetG g s.heap a L es ep t) {x : Addr} {k : κ} (kx : g.is s.heap k x) (ro : g.room A) {z : Nat} (free : way t.mask (g.hash k) z ∉ t.place.toList) (busy : ∀ c, c < z → way t.mask (g.hash k) c ∈ t.place.toList)
    (zb : z < 10 * SetTable.turns t.mask) {Q : SetFound → Shared → Prop} (yes : k ∈ L.map Prod.snd → Q (.there none) s) (no : k ∉ L.map Prod.snd → Q (.free (way t.mask (g.hash k) z) false) s) :
    ∀ (d c f : Nat) (st : Option SetTable.Probe), c + d = z → d < f → st.getD (t.probeStart (g.hash k)) = L2.nth t.mask (beg t (g.hash k)) c →
      (∀ (i : Nat) q, L[i]? = some q → q.2 = k → ∃ e, c ≤ e ∧ e < z ∧ t.place.toList[i]? = some (way t.mask (g.hash k) e)) → wpAny (model P w) A (setSearchFrom a (.ref x) (g.hash k) true f st) Q E s := by
  intro d
  induction d using Nat.strongRecOn with
  | ind d ih =>
    intro c f st cd df est later
    obtain ⟨f, rfl⟩ : ∃ f', f = f' + 1 := ⟨f - 1, by omega⟩
    obtain ⟨o, oA, _, oD⟩ := R.at'
    have odd : ¬ t.gaveWay = true := by
      unfold SetTable.gaveWay
      rw [R.m7]
      decide
    rw [setSearchFrom_succ]
    refine wpAny_bind (wpAny_setState_of oA oD R.fit ?_)
    dsimp only
    refine wp_if_neg odd ?_
    try refine wpAny_bind (wpAny_pure ?_)
    have step : ∀ q, L2.nth t.mask (L2.nth t.mask (beg t (g.hash k)) c) q = L2.nth t.mask (beg t (g.hash k)) (c + q) := fun q => (nth_add t.mask c _ q).symm
    have stepj : ∀ q, (L2.nth t.mask (L2.nth t.mask (beg t (g.hash k)) c) q).j = way t.mask (g.hash k) (c + q) := fun q => congrArg SetTable.Probe.j (step q)
    have hash : ∀ (i : Nat) q, L[i]? = some q → (fun i => (es[i]?.map (·.1)).getD 0) i = g.hash q.2 := fun i q e => by
      dsimp only
      rw [R.nth e]
      rfl
    rcases go_spec t R.tab.ris R.tab.dm (fun i => (es[i]?.map (·.1)).getD 0) (g.hash k) (10 * SetTable.turns t.mask) d _ (dum t.mask c _ rfl) (by omega)
      (fun q hq => by rw [stepj]; exact busy _ (by omega)) (by rw [stepj, cd]; exact free) with ⟨q, i, qd, iq, hh, none', found⟩ | ⟨none', found⟩
    · have pr : t.probe (fun i => (es[i]?.map (·.1)).getD 0) (g.hash k) (st.getD (t.probeStart (g.hash k))) = some (.candidate (way t.mask (g.hash k) (c + q)) i (L2.nth t.mask (beg t (g.hash k)) (c + (q + 1)))) := by
        rw [est, ← stepj, ← step]
        exact found
      rw [pr]
      dsimp only
      rw [stepj] at iq
      have il : i < L.length := by
        have u := (List.getElem?_eq_some_iff.mp iq).1
        have v := R.tab.sz
        simp only [List.length_map] at v
        simp only [Array.length_toList] at u
        omega
      obtain ⟨y, ey⟩ : ∃ y, L[i]? = some y := ⟨_, List.getElem?_eq_getElem il⟩
      have my : y ∈ L := List.mem_of_getElem? ey
      have sl := slot_live R.tab.ris iq
      have tail : wpAny (model P w) A (searchRest a (.ref x) (g.hash k) true f es t (way t.mask (g.hash k) (c + q)) i (L2.nth t.mask (beg t (g.hash k)) (c + (q + 1)))) Q E s := by
        unfold searchRest
        rw [R.nth ey]
        dsimp only
        refine wpAny_bind (wpAny_holding (g.eqBool ro (R.key y my) kx (wpAny_bind (wpAny_setState_of oA oD R.fit ?_))))
        dsimp only
        by_cases same : y.2 = k
        · exact wp_if_pos (by simp [same]) (wpAny_pure (yes (List.mem_map.mpr ⟨y, my, same⟩)))
        · refine wp_if_neg (by simp [same]) ?_
          try refine wpAny_bind (wpAny_pure ?_)
          rw [sameMem]
          dsimp only
          simp only [↓reduceIte, sl, R.nth ey]
          refine wpAny_bind (wpAny_isSame_ref_self (wpAny_bind (wpAny_pure ?_)))
          simp only [↓reduceIte]
          refine wp_if_neg (by simp [same]) ?_
          refine ih (d - (q + 1)) (by omega) (c + (q + 1)) f _ (by omega) (by omega) rfl fun i' y' ei ek => ?_
          obtain ⟨e, ce, ez, pe⟩ := later i' y' ei ek
          refine ⟨e, ?_, ez, pe⟩
          by_cases lo : e < c + q
          · refine absurd ((hash i' y' ei).trans (congrArg g.hash ek)) (none' (e - c) i' (by omega) ?_)
            rw [stepj, show c + (e - c) = e by omega]
            exact pe
          · by_cases eq : e = c + q
            · exfalso
              rw [eq] at pe
              have u := slot_live R.tab.ris pe
              rw [sl] at u
              injection u with u
              rw [← u, ey] at ei
              exact same ((congrArg Prod.snd (Option.some.inj ei)).trans ek)
            · omega
      by_cases led : t.led = true
      · refine wp_if_neg (by simp [led]) ?_
        try refine wpAny_bind (wpAny_pure ?_)
        exact tail
      · refine wp_if_pos (by simp [led]) (wpAny_bind (quiet_all S kx (fun u hu => ?_) ?_))
        · obtain ⟨e, he, rfl⟩ := List.mem_map.mp hu
          have he2 : e ∈ es ∧ e.1 = g.hash k := by simpa using he
          have in' : e ∈ es.toList := by simpa using he2.1
          rw [R.ent] at in'
          obtain ⟨v, hv, rfl⟩ := List.mem_map.mp in'
          exact ⟨_, _, rfl, R.key v hv⟩
        · refine wp_if_neg (by decide) ?_
          try refine wpAny_bind (wpAny_pure ?_)
          exact tail
    · have pr : t.probe (fun i => (es[i]?.map (·.1)).getD 0) (g.hash k) (st.getD (t.probeStart (g.hash k))) = some (.empty (way t.mask (g.hash k) z) none) := by
        rw [est, ← cd, ← stepj]
        exact found
      rw [pr]
      dsimp only
      refine wpAny_pure (no fun mem => ?_)
      obtain ⟨y, my, ek⟩ := List.mem_map.mp mem
      obtain ⟨i, ei⟩ := List.getElem?_of_mem my
      obtain ⟨e, ce, ez, pe⟩ := later i y ei ek
      refine none' (e - c) i (by omega) ?_ ((hash i y ei).trans (congrArg g.hash ek))
      rw [stepj, show c + (e - c) = e by omega]
      exact pe
/-- the key k, which stands at x, is put in -/
theorem put_in (S : Sane g) (R : SetG g s.heap a L es ep t) {x : Addr} {k : κ} (kx : g.is s.heap k x) (ro : g.room A) (few : L.length + 1 ≤ 4) {Q : Bool → Shared → Prop}
    (go : ∀ b h' L' es' ep' t', Heap.SameBut a s.heap h' → SetG g h' a L' es' ep' t' → (k ∈ L.map Prod.snd ∧ L' = L ∨ k ∉ L.map Prod.snd ∧ L'.Perm ((x, k) :: L)) → Q b { s with heap := h' }) :
    wpAny (model P w) A (setAddHashed a (.ref x) (g.hash k)) Q E s := by
  obtain ⟨o, oA, oX, oD⟩ := R.at'
  have num := R.num
  have m7 := R.m7
  obtain ⟨z, zb, free, busy⟩ := R.tab.first (by rw [List.length_map]; omega) (g.hash k)
  have zf : z < 100000 := by
    have u : 10 * SetTable.turns t.mask ≤ 1420 := by
      rw [m7]
      decide
    omega
  unfold setAddHashed
  refine wpAny_holding ?_
  rw [show (100000 : Nat) = 99999 + 1 from rfl, setAddHashedIn_succ]
  refine wpAny_bind (wpAny_setState_of oA oD R.fit ?_)
  dsimp only
  refine wp_if_neg (by simp [byScan, Value.scannable]) ?_
  try refine wpAny_bind (wpAny_pure ?_)
  unfold setSearch
  refine wpAny_bind (hunt S R kx ro free busy zb (fun mem => ?_) (fun out => ?_) z 0 100000 none (by omega) (by omega) rfl fun i q ei ek => ?_)
  · exact wpAny_pure (go false s.heap L es ep t (Heap.SameBut.refl a s.heap) R (.inl ⟨mem, rfl⟩))
  · dsimp only
    refine wpAny_bind (wpAny_setState_of oA oD R.fit ?_)
    dsimp only
    obtain ⟨q1, q2, q3, q4, q5, _, _, _, q9⟩ := R.tab.put free busy
    generalize t.put (way t.mask (g.hash k) z) = both at q1 q3 q4 q5 q9 ⊢
    obtain ⟨t1, p⟩ := both
    dsimp only at q1 q3 q4 q5 q9 ⊢
    subst q1
    have ins : (SetTable.insertAt es (SetTable.below t.place (way t.mask (g.hash k) z)) (g.hash k, Value.ref x)).toList =
        (L.take (SetTable.below t.place (way t.mask (g.hash k) z)) ++ (x, k) :: L.drop (SetTable.below t.place (way t.mask (g.hash k) z))).map fun q => (g.hash q.2, Value.ref q.1) := by
      rw [SetTable.toList_insertAt, R.ent, List.map_append, List.map_cons, List.map_take, List.map_drop]
    generalize SetTable.below t.place (way t.mask (g.hash k) z) = p at q2 q3 ins ⊢
    have pm : (L.take p ++ (x, k) :: L.drop p).Perm ((x, k) :: L) := put_perm L p (x, k)
    have tab1 : TabOk t1 ((L.take p ++ (x, k) :: L.drop p).map fun q => g.hash q.2) := by
      rw [List.map_append, List.map_cons, List.map_take, List.map_drop]
      exact q3
    generalize L.take p ++ (x, k) :: L.drop p = L1 at pm tab1 ins
    have len1 : L1.length = L.length + 1 := pm.length_eq
    have one1 : (L1.map Prod.snd).Nodup := (pm.map Prod.snd).nodup_iff.mpr (List.nodup_cons.mpr ⟨out, R.one⟩)
    have num1 : (SetTable.insertAt es p (g.hash k, Value.ref x)).size = L.length + 1 := by
      have u := congrArg List.length ins
      simpa [len1] using u
    generalize SetTable.insertAt es p (g.hash k, Value.ref x) = es1 at ins num1 ⊢
    have last : ∀ t2 : SetTable, TabOk t2 (L1.map fun q => g.hash q.2) → t2.mask = 7 → t2.led = t.led → t2.fill = L.length + 1 → wpAny (model P w) A (storeSet a es1 t2 >>= fun _ => if (!false && t2.tooFull) = true then do setRelay a (SetTable.grown (es.size + 1)); pure true else pure true) Q E s := by
      intro t2 tab2 m2 l2 f2
      refine wpAny_bind (wpAny_storeSet_of oA oD ?_ (by rw [num1, sizeLine_eq]; omega))
      have but : Heap.SameBut a s.heap (s.heap.update a (Obj.putSet es1 t2)) := Heap.SameBut.update ..
      have oA1 := store_at (es' := es1) (t' := t2) oA oD
      generalize s.heap.update a (Obj.putSet es1 t2) = h1 at but oA1 ⊢
      have old : ∀ {q : Addr} {k' : κ}, g.is s.heap k' q → g.is h1 k' q := fun {q k'} u => S.stay u fun o' e => by
        have ne : q ≠ a := by
          rintro rfl
          obtain ⟨o2, vs, n, e2, d2⟩ := S.sq u
          obtain rfl := Option.some.inj (e2.symm.trans oA)
          rw [oD] at d2
          exact nomatch d2
        rw [but.2 q ne]
        exact e
      have loose : ¬ t2.tooFull = true := by
        unfold SetTable.tooFull
        rw [f2, m2]
        simp only [decide_eq_true_eq]
        omega
      refine wp_if_neg (by simp [loose]) ?_
      refine wpAny_pure (go true h1 L1 es1 (ep + 1) t2 but ⟨⟨_, oA1, ⟨oX.1, oX.2.1, oX.2.2⟩, rfl⟩, ins, tab2, one1, fun q hq => ?_, by rw [l2]; exact R.ld, m2, by omega⟩ (.inr ⟨out, pm⟩))
      rcases List.mem_cons.mp (pm.mem_iff.mp hq) with e | hq
      · rw [e]
        exact old kx
      · exact old (R.key q hq)
    rw [List.length_map] at q9
    have both : ∀ r : Bool, wpAny (model P w) A (storeSet a es1 (if r = true then t1 else { t1 with plain := false }) >>= fun _ => if (!false && (if r = true then t1 else { t1 with plain := false }).tooFull) = true then do setRelay a (SetTable.grown (es.size + 1)); pure true else pure true) Q E s := by
      intro r
      cases r with
      | true => exact last t1 tab1 (q4.trans m7) q5 q9
      | false => exact last { t1 with plain := false } ⟨tab1.ris, tab1.dm, tab1.sz, tab1.mok, tab1.bd, tab1.reach⟩ (q4.trans m7) q5 q9
    by_cases pl : t1.plain = true
    · first
        | refine wp_if_pos pl (wpAny_bind (S.byv kx fun r => ?_))
        | refine wpAny_bind (wp_if_pos pl (S.byv kx fun r => ?_))
      exact both r
    · first
        | refine wp_if_neg pl (wpAny_bind (wpAny_pure ?_))
        | refine wpAny_bind (wp_if_neg pl (wpAny_pure ?_))
      exact both true
  · have ih : (L.map fun q => g.hash q.2)[i]? = some (g.hash k) := by
      rw [List.getElem?_map, ei, ← ek]
      rfl
    have il : i < t.place.toList.length := by
      have u := (List.getElem?_eq_some_iff.mp ei).1
      have v := R.tab.sz
      simp only [List.length_map] at v
      simp only [Array.length_toList]
      omega
    obtain ⟨e, ez, we⟩ := R.tab.before free ih (List.getElem?_eq_getElem il)
    exact ⟨e, Nat.zero_le _, ez, by rw [we]; exact List.getElem?_eq_getElem il⟩
/-- what has got in of the first i of the keys ks -/
def Half (ks L : List (Addr × κ)) (i : Nat) : Prop := L.length ≤ i ∧ (∀ q ∈ L, q ∈ ks) ∧ ∀ (j : Nat) q, j < i → ks[j]? = some q → q.2 ∈ L.map Prod.snd
theorem upd_loop (S : Sane g) {I : Addr} {fp wr : List Addr} {G : Array GenState → Array GenState → Prop} {n : Nat} {Pv : Nat → Value → Prop} {St : Nat → Shared → Prop} {B : Result → Shared → Prop}
    (W : WalksS P w A.in1 I fp wr G n Pv St) (D : Addr) (out : D ∉ fp) (ks : List (Addr × κ)) (nk : n = ks.length) (k4 : ks.length ≤ 4) (is : ∀ i v, Pv i v → ∃ q, ks[i]? = some q ∧ v = .ref q.1)
    (old : Heap) (keys : ∀ q ∈ ks, g.is old q.2 q.1) (oD : old.get? D = none) (oW : ∀ b ∈ wr, old.get? b = none) (ro : g.room A.in1) :
    ∀ (m i : Nat) (s : Shared), i + m = n → St i s → (∀ b o, old.get? b = some o → s.heap.get? b = some o) → (∃ L es ep t, SetG g s.heap D L es ep t ∧ Half ks L i) →
      (∀ s' L es ep t, Moved (D :: wr) G s s' → SetG g s'.heap D L es ep t → Half ks L n → (∀ b o, old.get? b = some o → s'.heap.get? b = some o) → B (.ok (.ret .none)) s') →
      codeAny (model P w) A (.builtin "set.update.loop" ⟨[.ref D, .ref I], []⟩) B s := by
  have Dw : D ∉ wr := fun z => out (W.sub _ z)
  have inc : ∀ b ∈ wr, b ∈ D :: wr := fun b z => List.mem_cons_of_mem _ z
  have held : ∀ {u v : Shared}, Moved wr G u v → (∀ b o, old.get? b = some o → u.heap.get? b = some o) → ∀ b o, old.get? b = some o → v.heap.get? b = some o :=
    fun M kp b o e => M.heap b o (fun z => by rw [oW b z] at e; cases e) (kp b o e)
  intro m
  induction m with
  | zero =>
    intro i s im st kp ⟨L, es, ep, t, R, hf⟩ done
    obtain rfl : i = n := by omega
    refine codeAny_builtin F.entry_set_update_loop ?_
    rw [Around.under_plainId F.plain_set_update_loop _]
    show wpAny _ A.in1 (pyNext (.ref I) >>= fun _ => _) _ _ s
    refine wpAny_bind (W.done s _ _ st fun s' M => ?_)
    have kp' := held M kp
    obtain ⟨o, oA, r⟩ := R.at'
    exact wpAny_pure (done s' L es ep t (M.mono inc) { R with at' := ⟨o, M.heap D o Dw oA, r⟩, key := fun q hq => S.stay (keys q (hf.2.1 q hq)) (kp' q.1) } hf kp')
  | succ m ih =>
    intro i s im st kp ⟨L, es, ep, t, R, hf⟩ done
    have lt : i < n := by omega
    refine codeAny_builtin F.entry_set_update_loop ?_
    rw [Around.under_plainId F.plain_set_update_loop _]
    show wpAny _ A.in1 (pyNext (.ref I) >>= fun _ => _) _ _ s
    refine wpAny_bind (W.item i s _ _ lt st fun v s' pv st' M => ?_)
    obtain ⟨q, eq, rfl⟩ := is i v pv
    have kp' := held M kp
    obtain ⟨o, oA, r⟩ := R.at'
    have R' : SetG g s'.heap D L es ep t := { R with at' := ⟨o, M.heap D o Dw oA, r⟩, key := fun q hq => S.stay (keys q (hf.2.1 q hq)) (kp' q.1) }
    have kq : g.is s'.heap q.2 q.1 := S.stay (keys q (List.mem_of_getElem? eq)) (kp' q.1)
    show wpAny _ A.in1 (holding [Value.ref q.1] (setAdd D (.ref q.1)) >>= fun _ => _) _ _ s'
    refine wpAny_bind (wpAny_holding ?_)
    unfold setAdd
    refine wpAny_holding (wpAny_bind (g.pyHash ro kq ?_))
    refine put_in (s := { s' with toks := s'.toks + g.draws q.2 }) S R' kq ro (by have := hf.1; omega) fun b h' L' es' ep' t' but R2 ch => ?_
    have hf' : Half ks L' (i + 1) := by
      rcases ch with ⟨mem, rfl⟩ | ⟨_, pm⟩
      · refine ⟨Nat.le_succ_of_le hf.1, hf.2.1, fun j y ji ey => ?_⟩
        by_cases e : j = i
        · subst e
          obtain rfl := Option.some.inj (ey.symm.trans eq)
          exact mem
        · exact hf.2.2 j y (by omega) ey
      · refine ⟨by rw [pm.length_eq]; exact Nat.succ_le_succ hf.1, fun y hy => ?_, fun j y ji ey => (pm.map Prod.snd).mem_iff.mpr ?_⟩
        · rcases List.mem_cons.mp (pm.mem_iff.mp hy) with e | hy
          · rw [e]
            exact List.mem_of_getElem? eq
          · exact hf.2.1 y hy
        · by_cases e : j = i
          · subst e
            obtain rfl := Option.some.inj (ey.symm.trans eq)
            exact List.mem_cons_self
          · exact List.mem_cons_of_mem _ (hf.2.2 j y (by omega) ey)
    have kp2 : ∀ b o, old.get? b = some o → h'.get? b = some o := fun b o e => (but.2 b (fun z => by rw [z, oD] at e; cases e)).trans (kp' b o e)
    refine wpAny_pure ⟨plainId_quiet F.plain_set_update_loop _, ih (i + 1) _ (by omega) (W.frame _ s' _ _ st' (Nat.le_add_right _ _) fun b hb o e => ?_) kp2 ⟨L', es', ep', t', R2, hf'⟩ fun s2 L2 es2 ep2 t2 M2 R3 f3 kp3 => ?_⟩
    · rw [but.2 b fun z => out (z ▸ hb)]
      exact e
    · refine done s2 L2 es2 ep2 t2 (Moved.trans W.gtrans ((M.mono inc).then_heap (Nat.le_add_right _ _) fun b o hb e => ?_) M2) R3 f3 kp3
      rw [but.2 b fun z => hb (z ▸ List.mem_cons_self)]
      exact e
theorem start (S : Sane g) {h : Heap} {D : Addr} (ks : List (Addr × κ)) (e : h.get? D = some { cls := .type "set", dict := none, data := .set #[] 0 (.fresh 0 0 (!w.params.followText "set-order")) }) :
    ∃ L es ep t, SetG g h D L es ep t ∧ Half ks L 0 := by
  refine ⟨[], #[], 0, _, ⟨⟨_, e, ⟨rfl, rfl, rfl⟩, rfl⟩, rfl, ⟨List.Pairwise.nil, rfl, rfl, .inl rfl, fun x hx => (by cases hx), fun i z j hi => (by simp at hi)⟩, List.nodup_nil, fun q hq => (by cases hq), ?_, rfl, Nat.zero_le _⟩, Nat.le_refl _, fun q hq => (by cases hq), fun j q z _ => absurd z (Nat.not_lt_zero _)⟩
  show _ ∨ (!w.params.followText "set-order") = true
  cases w.params.followText "set-order" with
  | false => exact .inr rfl
  | true => exact .inl rfl
set_option maxHeartbeats 4000000 in
/-- set(t), t a tuple of at most four keys -/
theorem call_setG (S : Sane g) {l : Addr} {items : Array Value} (ks : List (Addr × κ)) {Q : Value → Shared → Prop} (calm : A.handled = none) (lt : s.heap.IsTuple l items) (eq : items.toList = ks.map fun q => Value.ref q.1) (keys : ∀ q ∈ ks, g.is s.heap q.2 q.1) (k4 : ks.length ≤ 4) (ro : g.room A.in1.in1.in1)
    (go : ∀ (h' : Heap) (tk : Nat) L es ep t, SetG g h' s.heap.objs.size L es ep t → Half ks L ks.length → (∀ b o, s.heap.get? b = some o → h'.get? b = some o) → Q (.ref s.heap.objs.size) { s with heap := h', toks := tk }) :
    wpAny (model P w) A (call (.type "set") [.ref l]) Q E s := by
  have nk : items.size = ks.length := by simpa using congrArg List.length eq
  obtain ⟨_, _, hmro⟩ := F.called_set.mro
  have hmade := F.called_set.made
  have hsub := F.called_set.sub
  refine wpAny_call (codeAny_of_tree ?_)
  show wpAny _ _ (callAny (.type "set") _) _ _ _
  refine wpAny_pure ⟨Code.quiet_builtin _ (by decide +kernel), codeAny_builtin F.entry_type_call ?_⟩
  rw [Around.under_plain (weight_type_call_type "set" [.ref l] []) rfl]
  have a1 := F.called_set.notType
  have a2 := F.called_set.canCreate
  have a3 := F.typeCall_set_1 (.ref l)
  repeat (any_goals (first | assumption | wp_step))
  refine codeAny_mono (code_set_led1 (.ref l) (E := E) (Q₁ := fun x z => x = .ref s.heap.objs.size ∧ z = { s with heap := s.heap.push { cls := .type "set", dict := none, data := .set #[] 0 (.fresh 0 0 (!w.params.followText "set-order")) } }) ⟨rfl, rfl⟩) fun r z hr => ?_
  generalize eO : (Obj.mk (.type "set") none (.set #[] 0 (.fresh 0 0 (!w.params.followText "set-order"))) #[] : Obj) = ob at hr
  cases r with
  | error e => exact hr
  | ok fl =>
    cases fl with
    | ret x =>
      obtain ⟨rfl, rfl⟩ := hr
      have atD : (s.heap.push ob).get? s.heap.objs.size = some ob := Heap.get?_push_size _ (by rw [← eO]; rfl)
      have ty : Shared.TypeIs { s with heap := s.heap.push ob } (.ref s.heap.objs.size) "set" := ⟨_, atD, by rw [← eO]⟩
      have b1 := F.called_set.init.lookup
      have b2 := F.called_set.init.bind (.ref s.heap.objs.size)
      repeat (any_goals (first | assumption | wp_step))
      refine codeAny_mono (codeAny_call_builtin (R := wants (fun r z => r = .none ∧ ∃ h' tk L es ep t, z = { s with heap := h', toks := tk } ∧ SetG g h' s.heap.objs.size L es ep t ∧ Half ks L ks.length ∧ (∀ b o, s.heap.get? b = some o → h'.get? b = some o)) E) F.called_set.init.plain F.entry_set_init (check_set_init_1 ty ?_)) fun r z hr => ?_
      · obtain ⟨⟨oc, od, dt, sl⟩, ol, hc, nl, hd⟩ := lt
        dsimp only at hc hd
        subst hc
        subst hd
        have ol' : (s.heap.push ob).get? l = some { cls := .type "tuple", dict := od, data := .seq items nl, slots := sl } := Heap.get?_push_of_some _ ol
        have s1 := F.sub_tuple_set
        have s2 := F.sub_tuple_frozenset
        have s3 : (Value.type "tuple" == Value.type "dict") = false := by decide
        have tup1 : (s.heap.push ob).IsTuple l items := ⟨_, ol', rfl, nl, rfl⟩
        subst eO
        unfold Builtin.«set.__init__» noKeywords Builtin.Frozenset.updateFrom
        generalize hPI : pyIter = PI
        wp_walk
        subst hPI
        refine wpAny_pyIter_tuple tup1 ?_
        refine wpAny_bind (wpAny_runValue ?_)
        have ls : l < s.heap.objs.size := Heap.lt_size ol
        have size1 : ∀ o : Obj, (s.heap.push o).objs.size = s.heap.objs.size + 1 := fun o => Heap.size_push ..
        have none' : ∀ b, s.heap.objs.size ≤ b → s.heap.get? b = none := fun b hb => by
          cases q : s.heap.get? b with
          | none => rfl
          | some o => exact absurd (Heap.lt_size q) (Nat.not_lt.mpr hb)
        refine upd_loop S ((Walks.tuple (by simp [calm]) _ l ?far items).toS) s.heap.objs.size (fun z => ?_) ks nk k4 (fun i v hv => ?_) s.heap keys (none' _ (Nat.le_refl _)) (fun b hb => none' b ?_) ro items.size 0 _ (Nat.zero_add _) ?st
          ?kept (start S ks ?here) fun s' L es ep t M R hf kp => ?_
        case far =>
          rw [size1]
          exact Nat.ne_of_lt (Nat.lt_succ_of_lt ls)
        case here => exact Heap.get?_push_of_some _ atD
        case st => exact ⟨⟨_, Heap.get?_push_size _ rfl, rfl, rfl⟩, tup1.push _⟩
        case kept => exact fun b o e => Heap.get?_push_of_some _ (Heap.get?_push_of_some _ e)
        · rw [size1] at z
          rcases List.mem_cons.mp z with z | z
          · exact absurd z (Nat.ne_of_lt (Nat.lt_succ_self _))
          · exact absurd (List.mem_singleton.mp z) (Nat.ne_of_gt ls)
        · have u : items.toList[i]? = some v := by
            rw [Array.getElem?_toList]
            exact hv
          rw [eq, List.getElem?_map] at u
          obtain ⟨q, hq, rfl⟩ := Option.map_eq_some_iff.mp u
          exact ⟨q, hq, rfl⟩
        · rw [List.mem_singleton.mp hb, size1]
          exact Nat.le_succ _
        · obtain ⟨h', g2, d', tk', os'⟩ := s'
          have e1 : g2 = s.gens := M.gens
          have e2 : d' = s.drawn := M.drawn
          have e3 : os' = s.os := M.os
          subst e1
          subst e2
          subst e3
          refine wpAny_pure (?_ : wpAny _ _ _ _ _ _)
          rw [nk] at hf
          exact wpAny_pure ⟨rfl, h', tk', L, es, ep, t, rfl, R, hf, kp⟩
      · cases r with
        | error e => exact hr
        | ok fl =>
          cases fl with
          | ret r =>
            obtain ⟨rfl, h', tk, L, es, ep, t, rfl, R, hf, kp⟩ := hr
            repeat (any_goals (first | assumption | wp_step))
            exact go _ _ _ _ _ _ R hf kp
          | _ => exact hr.elim
    | _ => exact hr.elim
end
/-- keys that are tuples of texts -/
abbrev txK (P : Program) (w : World) : HeapKind P w (List Str) := tupleKind (PySem.strKind P w)
theorem strs_shape {P : Program} {w : World} {ks : List Str} {vs : List Value} (h : ItemsAre (PySem.strKind P w) ks vs) : ∀ v ∈ vs, ∃ z t, v = Value.str z t := by
  induction h with
  | nil => exact fun v hv => by cases hv
  | @cons k v ks vs h1 _ ih =>
    intro u hu
    rcases List.mem_cons.mp hu with e | hu
    · obtain ⟨t, e2⟩ := Value.isStrOf_shape h1
      exact ⟨k, t, e.trans e2⟩
    · exact ih u hu
theorem str_nocls (n : Nat) (z : Str) (t : Tok) : ofAClassStatement n (.str z t) = pure false := by cases n <;> rfl
theorem str_byv (n : Nat) (z : Str) (t : Tok) : hashByValue n (.str z t) = pure false := by
  cases n <;> simp [hashByValue]
theorem txK_sane {P : Program} {w : World} : Sane (txK P w) where
  cls := fun {A E s k b Q} x go => by
    have ty := IsTupleKey.typeIs x
    obtain ⟨o, items, n, oA, _, oD, oI⟩ := x
    unfold ofAClassStatement
    refine wpAny_bind (wpAny_typeOf ty ?_)
    dsimp only
    have e : (("tuple" : String) == "tuple") = true := by decide
    simp only [e, ↓reduceIte, Bool.not_true, Bool.false_eq_true]
    try refine wpAny_bind (wpAny_pure ?_)
    try simp only [Bool.not_true, Bool.false_eq_true, ↓reduceIte]
    refine wpAny_bind (wpAny_seqItems oA oD ?_)
    dsimp only
    refine wpAny_bind (?_ : wpAny _ _ (forIn items _ _) _ _ s)
    rw [← Array.forIn_toList]
    refine wpAny_forIn_list _ (fun left r z => (r.1 = none ∧ z = s) ∧ ∀ v ∈ left, ∃ z t, v = Value.str z t) _ (fun v left r z I => ?_) (fun r z I => ?_) _ _ ⟨⟨rfl, rfl⟩, strs_shape oI⟩
    · obtain ⟨⟨r0, rfl⟩, al⟩ := I
      obtain ⟨z, t, rfl⟩ := al v List.mem_cons_self
      rw [str_nocls]
      refine wpAny_bind (wpAny_pure ?_)
      simp only [Bool.false_eq_true, ↓reduceIte]
      exact wpAny_pure ⟨⟨rfl, rfl⟩, fun u hu => al u (List.mem_cons_of_mem _ hu)⟩
    · obtain ⟨r1, r2⟩ := r
      obtain ⟨⟨r0, rfl⟩, _⟩ := I
      dsimp only at r0
      subst r0
      exact wpAny_pure go
  byv := fun {A E s k b Q} x go => by
    have ty := IsTupleKey.typeIs x
    obtain ⟨o, items, n, oA, _, oD, oI⟩ := x
    unfold hashByValue
    refine wpAny_bind (wpAny_specialOf ty F.slot_tuple_hash.lookup ?_)
    refine wpAny_bind (wpAny_seqItems oA oD ?_)
    refine wpAny_bind (?_ : wpAny _ _ (forIn items _ _) _ _ s)
    rw [← Array.forIn_toList]
    refine wpAny_forIn_list _ (fun left r z => (r.1 = none ∧ z = s) ∧ ∀ v ∈ left, ∃ z t, v = Value.str z t) _ (fun v left r z I => ?_) (fun r z I => ?_) _ _ ⟨⟨rfl, rfl⟩, strs_shape oI⟩
    · obtain ⟨⟨r0, rfl⟩, al⟩ := I
      obtain ⟨z, t, rfl⟩ := al v List.mem_cons_self
      rw [str_byv]
      refine wpAny_bind (wpAny_pure ?_)
      simp only [Bool.not_false, ↓reduceIte]
      exact wpAny_pure (wpAny_pure (go false))
    · obtain ⟨r1, r2⟩ := r
      obtain ⟨⟨r0, rfl⟩, _⟩ := I
      dsimp only at r0
      subst r0
      exact wpAny_pure (go _)
  stay := fun x kp => let ⟨o, items, n, oA, r⟩ := x; ⟨o, items, n, kp o oA, r⟩
  sq := fun x => let ⟨o, items, n, oA, _, oD, _⟩ := x; ⟨o, _, _, oA, oD⟩
end TX
namespace L2
open PySem PySem.Spec PyProof.Rows
theorem strs_items {P : Program} {w : World} : ∀ {k : List Str} {us : List Value}, Vals (k.map V.str) us → ItemsAre (PySem.strKind P w) k us
  | [], _, .nil => .nil
  | z :: k, _, .cons r t => by
    obtain ⟨tk, rfl⟩ := r
    exact .cons (k := z) (by show (z == z) = true; exact beq_self_eq_true z) (strs_items t)
theorem refsA_of {α : Type} : ∀ {ks : List (Addr × α)} {us : List Value}, Vals (ks.map fun q => V.ref q.1) us → us = ks.map fun q => Value.ref q.1
  | [], _, .nil => rfl
  | p :: ks, _, .cons r t => by
    cases r
    rw [refsA_of t]
    rfl
section
variable {X : Cx}
theorem inv_txt {pins : List (Addr × Obj)} {σ : St} {H : Hp} {s : Shared} {b : Addr} {k : List Str} (I : Inv X pins σ H s) (h : SqT X.K H b (k.map V.str)) : (TX.txK X.prog X.w).is s.heap k b := by
  obtain ⟨its, r, ⟨o, ho, hc, n, hd⟩, _⟩ := I.tuple h
  exact ⟨o, its.toArray, n, ho, hc, hd, by simpa using strs_items r⟩
/-- len(set(t)), t a tuple of at most four tuples of texts -/
def tLenSetT (K : PySem.W.Frag) (ta : TE) : TE := fun σ H Q => ta σ H fun x H1 => ∃ (l : Addr) (ks : List (Addr × List Str)), x = V.ref l ∧ SqT K H1 l (ks.map fun q => V.ref q.1) ∧ (∀ q ∈ ks, SqT K H1 q.1 (q.2.map V.str)) ∧ ks.length ≤ 4 ∧
  ∀ L : List (Addr × List Str), (L.map Prod.snd).Nodup → (∀ q ∈ L, q ∈ ks) → (∀ q ∈ ks, q.2 ∈ L.map Prod.snd) → Q (.int L.length) H1
theorem pe_lenSetT {a : Expr} {ta : TE} {p p2 q pos : Pos} (hc : X.calm = true) (hu : X.A.units + 64 < cLine) (hg : Gl X "len") (hm : X.mg "len" = none) (hg2 : Gl X "set") (hm2 : X.mg "set" = none) (ha : PE X a ta)
    (na : starEach [a] X.env = (false, eval a X.env) :: starEach [] X.env := by rfl) : PE X (.Call (.Name "len" p) [.Call (.Name "set" p2) [a] [] q] [] pos) (tLenSetT X.K ta) := by
  refine ⟨fun pins s σ H Q I h => Call_ (ld_blt I hg hm PySem.boot_len ?_)⟩
  refine PyProof.Rows.callWith_builtin1 (PyProof.Rows.args_cons (Call_ (ld_blt I hg2 hm2 PyProof.Rows.boot_set ?_)) rfl) rfl rfl
  refine PyProof.Rows.callWith_type1 (PyProof.Rows.args_cons (thn (ha.run pins s σ H _ I h) fun v s1 ⟨x, H1, I1, r1, q1⟩ => PyProof.Rows.args_nil ?_) na) na rfl
  obtain ⟨l, ks, rfl, hl, hk, k4, q1⟩ := q1
  cases r1
  obtain ⟨its, r, pl, hz⟩ := I1.tuple hl
  refine TX.call_setG TX.txK_sane ks (I1.ok.hd hc) pl (by simpa using refsA_of r) (fun p hp => inv_txt I1 (hk p hp)) k4 (show X.A.in1.in1.in1.units < cLine from by show X.A.units + 1 + 1 + 1 < cLine; omega) fun h' tk L es ep t R hf kp => ?_
  refine PyProof.Rows.args_nil ?_
  obtain ⟨o, oA, oX, oD⟩ := R.at'
  have I2 : Inv X pins σ H1 { s1 with heap := h', toks := tk } := I1.kept fun b o e => kp b o e
  have num := R.num (s := { s1 with heap := h', toks := tk })
  have le4 := R.le4
  refine call_len_set oA oX oD (R.fit (s := { s1 with heap := h', toks := tk })) (by rw [num]; omega) ⟨.int L.length, H1, I2.tok _, ⟨_, by rw [num]⟩, q1 L R.one hf.2.1 fun y hy => ?_⟩
  obtain ⟨j, ej⟩ := List.getElem?_of_mem hy
  exact hf.2.2 j y (List.getElem?_eq_some_iff.mp ej).1 ej
end
end L2

/-! Whether any value is a subject. -/
namespace LW
open PySem L2 G
abbrev pSubject : Stmt := top 11
abbrev pIsShare : Stmt := top 13
abbrev pUnlike : Stmt := top 14
def unlikeD : PyData → Bool
  | .tuple ds => decide (1 ≤ ds.length) && decide (ds.length ≤ 4) && ds.all (isChainD · 4) && decide (ds.map wordsD).Nodup
  | _ => false
def lenD : PyData → Int
  | .tuple ds => ds.length
  | _ => 0
def shareD : PyData → Bool
  | .tuple [n, c] => unlikeD c && intInD n 1 (lenD c)
  | _ => false
def subjD (d : PyData) : Bool := isChainD d 4 || shareD d
def okTups (d : PyData) : Prop := ∀ ds, d = .tuple ds → ∀ e ∈ ds, okTup e
def okSub (d : PyData) : Prop := okTup d ∧ ∀ ds, d = .tuple ds → ∀ e ∈ ds, okTups e
def spUnlike (K : PySem.W.Frag) : Sp := fun vs H Q _ => ∃ (v : V) (d : PyData), vs = [v] ∧ Da K H v d ∧ okTups d ∧ ∀ H', Same H H' → Q (.bl (unlikeD d)) H'
def spIsShare (K : PySem.W.Frag) : Sp := fun vs H Q _ => ∃ (v : V) (d : PyData), vs = [v] ∧ Da K H v d ∧ (∀ ds, d = .tuple ds → ∀ e ∈ ds, okTups e) ∧ ∀ H', Same H H' → Q (.bl (shareD d)) H'
def spSubject (K : PySem.W.Frag) : Sp := fun vs H Q _ => ∃ (v : V) (d : PyData), vs = [v] ∧ Da K H v d ∧ okSub d ∧ ∀ H', Same H H' → Q (.bl (subjD d)) H'
theorem pigeon {α : Type} : ∀ (A B : List α), A.Nodup → (∀ x ∈ A, x ∈ B) → A.length ≤ B.length ∧ (B.length ≤ A.length → B.Nodup ∧ ∀ x ∈ B, x ∈ A) := by
  classical
  intro A
  induction A with
  | nil =>
    intro B _ _
    refine ⟨Nat.zero_le _, fun h => ?_⟩
    have e : B = [] := List.length_eq_zero_iff.mp (Nat.le_zero.mp h)
    subst e
    exact ⟨List.nodup_nil, fun x hx => hx⟩
  | cons x A ih =>
    intro B nd sub
    obtain ⟨nx, nd'⟩ := List.nodup_cons.mp nd
    have xB : x ∈ B := sub x List.mem_cons_self
    have sub' : ∀ y ∈ A, y ∈ B.erase x := fun y hy => (List.mem_erase_of_ne (fun e : y = x => nx (e ▸ hy))).mpr (sub y (List.mem_cons_of_mem _ hy))
    have pos : 0 < B.length := List.length_pos_of_mem xB
    have le := List.length_erase_of_mem xB
    obtain ⟨h1, h2⟩ := ih (B.erase x) nd' sub'
    refine ⟨by rw [List.length_cons]; omega, fun h => ?_⟩
    rw [List.length_cons] at h
    obtain ⟨h3, h4⟩ := h2 (by omega)
    have pm := List.perm_cons_erase xB
    refine ⟨pm.nodup_iff.mpr (List.nodup_cons.mpr ⟨fun z => nx (h4 x z), h3⟩), fun y hy => ?_⟩
    rcases List.mem_cons.mp (pm.mem_iff.mp hy) with rfl | hy
    · exact List.mem_cons_self
    · exact List.mem_cons_of_mem _ (h4 y hy)
theorem once_iff {α β : Type} {f : α → β} {L ks : List α} (nd : (L.map f).Nodup) (sub : ∀ q ∈ L, q ∈ ks) (all : ∀ q ∈ ks, f q ∈ L.map f) : (L.length = ks.length) ↔ (ks.map f).Nodup := by
  have s2 : ∀ x ∈ L.map f, x ∈ ks.map f := fun x hx => by
    obtain ⟨q, hq, rfl⟩ := List.mem_map.mp hx
    exact List.mem_map.mpr ⟨q, sub q hq, rfl⟩
  have s3 : ∀ x ∈ ks.map f, x ∈ L.map f := fun x hx => by
    obtain ⟨q, hq, rfl⟩ := List.mem_map.mp hx
    exact all q hq
  have p1 := pigeon _ _ nd s2
  rw [List.length_map, List.length_map] at p1
  refine ⟨fun e => (p1.2 (by omega)).1, fun n => ?_⟩
  have p2 := (pigeon _ _ n s3).1
  rw [List.length_map, List.length_map] at p2
  omega
/-- chains that stand in the heap -/
theorem da_chains {K : PySem.W.Frag} {H : Hp} : ∀ {xs : List V} {ds : List PyData}, DaAll K H xs ds → ds.all (isChainD · 4) = true →
    ∃ ks : List (Addr × List Str), xs = ks.map (fun q => V.ref q.1) ∧ ds = ks.map (fun q => PyData.tuple (q.2.map PyData.str)) ∧ ∀ q ∈ ks, SqT K H q.1 (q.2.map V.str)
  | _, _, .nil, _ => ⟨[], rfl, rfl, fun q hq => by cases hq⟩
  | _, _, .cons (d := d) p q, h => by
    rw [List.all_cons, Bool.and_eq_true] at h
    obtain ⟨ws, rfl, _⟩ := chain_inv h.1
    obtain ⟨a, rfl, s⟩ := da_chain p
    obtain ⟨ks, rfl, rfl, hk⟩ := da_chains q h.2
    refine ⟨(a, ws) :: ks, rfl, rfl, fun y hy => ?_⟩
    rcases List.mem_cons.mp hy with rfl | hy
    · exact s
    · exact hk y hy
section
variable {P : Program} {w : World} {K : PySem.W.Frag} {mg : Str → Option Value} {base : Heap}
variable {fC fU fI fS : Addr} {fdC fdU fdI fdS : FuncData}
theorem scUnlike : FnScope ["value", "chain"] ["value"] (defScope pUnlike) := ⟨rfl, rfl, rfl, by decide +kernel, rfl, by decide +kernel, by decide +kernel⟩
theorem ok_unlike {f : Addr} {fd : FuncData} (F : Fun K "_are_unlike_chains" "_are_unlike_chains" pUnlike f fd) (B : Pb mg) (mS : mg "set" = none) (m4 : ∃ t, mg "MAX_CHAINS" = some (.int 4 t))
    (GC : FnOk P w K mg base CX0 2 fC fdC ["value", "most"] (spIsChain K)) (mC : mg "is_chain" = some (.ref fC)) (kC : PySem.W.keepIn K (.ref fC) = true) (bC : Binds K fdC ["value", "most"] []) :
    FnOk P w K mg base CX0 3 f fd ["value"] (spUnlike K) := by
  refine F.ok scUnlike (fun vs H Q E h => ?_) (fun cdv A outer s H vs Q E hr h => ?_)
  · obtain ⟨v, d, rfl, _⟩ := h
    rfl
  · obtain ⟨v, d, rfl, hd, ok, k⟩ := h
    obtain ⟨t4, m4⟩ := m4
    obtain ⟨tN, mN⟩ := B.names
    refine ⟨_, pss_cons (ps_if (PW.pt (pw_or (pt_not (pt_val (pe_callB (call_isD kit_tup) (by rfl) B.isin (by decide +kernel) (pa_cons (pv 0) (pa_cons (pe_bltn (v := .ty "tuple") (by rfl) B.tup (by decide +kernel) rfl) pa_nil)))))
        (pw_or1 (pt_not (pt_chain op_le op_le pe_int (pe_callB call_len (by rfl) B.len PySem.boot_len (pa_cons (pv 0) pa_nil)) (pe_glob (v := .int 4) (by rfl) m4 ⟨_, rfl⟩)))))) (pss_one (ps_ret pe_bl)) pss_nil)
      (pss_one (ps_ret (pe_and (pe_callB (cr_all rfl) (by rfl) B.all (by decide +kernel) (pa_cons (pe_lc (own := [("chain", 1)]) (g := gName 1) (tt := tYes) rfl scUnlike.nd (pi_tup (pv 0))
        (blkOk_by (own := [("chain", 1)]) (N := ["value", "chain"]) (sc := defScope pUnlike) (by decide +kernel))
        (fun _ _ _ _ _ => pg_name (i := 1) scUnlike.nd rfl (Or.inl rfl)) (fun _ _ _ _ _ => pts_nil) (fun _ _ _ _ _ => pe_call GC hr (by rfl) mC kC bC .nil pass0 (pa_cons (pv 1) (pa_cons (pe_glob (v := .int 4) (by rfl) mN ⟨_, rfl⟩) pa_nil)))) pa_nil))
        (pe_one (pe_cmpR op_eq (pe_lenSetT rfl hr.units (by rfl) B.len (by rfl) mS (pv 0)) (pe_callB call_len (by rfl) B.len PySem.boot_len (pa_cons (pv 0) pa_nil)) (nomark _)))))), ?_⟩
    refine ⟨_, rfl, v, d, rfl, hd, _, rfl, ?_⟩
    by_cases hs : isTup d = true
    rotate_left
    · have e : isTup d = false := by simpa using hs
      rw [e]
      refine iteT ?_
      have e2 : unlikeD d = false := by cases d <;> first | rfl | cases e
      have kk := k H (Same.refl H)
      rw [e2] at kk
      exact kk
    rw [hs]
    refine iteF ?_
    obtain ⟨ds, rfl⟩ : ∃ ds, d = .tuple ds := by cases d <;> first | exact ⟨_, rfl⟩ | cases hs
    obtain ⟨a, xs, rfl, hS, hA⟩ : ∃ a xs, v = .ref a ∧ SqT K H a xs ∧ DaAll K H xs ds := by
      cases hd with
      | tup s a => exact ⟨_, _, rfl, s, a⟩
    have L := hA.length
    refine ⟨_, rfl, _, xs.length, rfl, .inr ⟨_, hS, rfl⟩, _, _, rfl, rfl, _, rfl, ?_⟩
    refine ite2 (fun h1 => ?_) (fun h1 => ?_)
    rotate_left
    · refine ⟨_, rfl, iteT ?_⟩
      have n1 : ¬ 1 ≤ ds.length := by
        have := of_decide_eq_false (Bool.eq_false_iff.mpr h1)
        omega
      have kk := k H (Same.refl H)
      rw [show unlikeD (.tuple ds) = false by simp only [unlikeD, decide_eq_false n1, Bool.false_and]] at kk
      exact kk
    have p1 : 1 ≤ ds.length := by
      have := of_decide_eq_true h1
      omega
    refine ⟨_, _, rfl, rfl, _, rfl, ?_⟩
    by_cases h4 : (xs.length : Int) ≤ 4
    rotate_left
    · rw [decide_eq_false h4]
      refine iteT ?_
      have n4 : ¬ ds.length ≤ 4 := by omega
      have kk := k H (Same.refl H)
      rw [show unlikeD (.tuple ds) = false by simp only [unlikeD, decide_eq_false n4, Bool.false_and, Bool.and_false]] at kk
      exact kk
    rw [decide_eq_true h4]
    refine iteF ?_
    have p4 : ds.length ≤ 4 := by omega
    have we : unlikeD (.tuple ds) = (ds.all (isChainD · 4) && decide (ds.map wordsD).Nodup) := by simp only [unlikeD, decide_eq_true p1, decide_eq_true p4, Bool.true_and]
    rw [we] at k
    refine ⟨_, rfl, a, rfl, ⟨_, hS⟩, fun D hD => ?_⟩
    refine lc_it (walk_tup (xs := xs)) (fun i G => G D = some (.lst ((ds.take i).map fun e => V.bl (isChainD e 4))) ∧ Same H G)
      ⟨by rw [upd_same]; rfl, same_new hD⟩ (fun i G _ pv => ?_) (fun i x G G' hi pv y => ?_) (fun G pv => ?_)
    · exact sqT_same pv.2 hS
    · obtain ⟨rfl, hx⟩ := y
      obtain ⟨gD, S⟩ := pv
      obtain ⟨e, he, hde⟩ := da_at hA hx
      have me : e ∈ ds := List.mem_of_getElem? he
      have tk : ds.take (i + 1) = ds.take i ++ [e] := by rw [List.take_add_one, he]; rfl
      refine ⟨rfl, _, rfl, x, e, 4, rfl, hde.same S, ok ds rfl e me, fun G2 S2 => ?_⟩
      refine ⟨_, S2 _ _ gD, by rw [List.length_map, List.length_take, sizeLine_eq]; omega, by rw [upd_same, tk, List.map_append]; rfl, fun b o e' => by rw [upd_ne (ne_of_none e' hD)]; exact S2 _ _ (S _ _ e')⟩
    · obtain ⟨gD, S⟩ := pv
      have ft : ds.take xs.length = ds := List.take_of_length_le (by omega)
      rw [ft] at gD
      refine ⟨D, ds.map (isChainD · 4), rfl, SqL.of (by rw [gD, List.map_map]; rfl), ?_⟩
      have al : (ds.map (isChainD · 4)).all id = ds.all (isChainD · 4) := by
        rw [List.all_map]
        rfl
      rw [al]
      by_cases ch : ds.all (isChainD · 4) = true
      rotate_left
      · have e : ds.all (isChainD · 4) = false := by simpa using ch
        rw [e] at k ⊢
        exact ⟨_, rfl, iteF (k G S)⟩
      rw [ch] at k ⊢
      rw [Bool.true_and] at k
      obtain ⟨ks, rfl, rfl, hk⟩ := da_chains hA ch
      have l4 : ks.length ≤ 4 := by simpa using p4
      refine ⟨_, rfl, iteT ?_⟩
      refine ⟨_, rfl, a, ks, rfl, sqT_same S hS, fun q hq => sqT_same S (hk q hq), l4, fun L nd sub all => ?_⟩
      refine ⟨_, rfl, _, ks.length, rfl, .inr ⟨_, sqT_same S hS, by rw [List.length_map]⟩, rfl, ?_⟩
      have e : decide (V.int L.length = V.int ks.length) = decide ((ks.map fun q => PyData.tuple (q.2.map PyData.str)).map wordsD).Nodup := by
        refine decide_eq_decide.mpr ?_
        have e1 : (ks.map fun q => PyData.tuple (q.2.map PyData.str)).map wordsD = ks.map Prod.snd := by
          rw [List.map_map]
          exact List.map_congr_left fun q _ => wordsD_chain q.2
        rw [e1, ← once_iff nd sub all]
        refine ⟨fun z => ?_, fun z => by rw [z]⟩
        have := V.int.inj z
        omega
      rw [e]
      exact k G S
theorem scIsShare : FnScope ["value", "number", "chains"] ["value"] (defScope pIsShare) := ⟨rfl, rfl, rfl, by decide +kernel, rfl, by decide +kernel, by decide +kernel⟩
theorem ok_isShare {f : Addr} {fd : FuncData} (F : Fun K "_is_share" "_is_share" pIsShare f fd) (B : Pb mg)
    (GU : FnOk P w K mg base CX0 3 fU fdU ["value"] (spUnlike K)) (mU : mg "_are_unlike_chains" = some (.ref fU)) (kU : PySem.W.keepIn K (.ref fU) = true) (bU : Binds K fdU ["value"] [])
    (GI : FnOk P w K mg base CX0 1 fI fdI ["value", "low", "high"] (spInt K)) (mI : mg "is_integer_in" = some (.ref fI)) (kI : PySem.W.keepIn K (.ref fI) = true) (bI : Binds K fdI ["value", "low", "high"] []) :
    FnOk P w K mg base CX0 4 f fd ["value"] (spIsShare K) := by
  refine F.ok scIsShare (fun vs H Q E h => ?_) (fun cdv A outer s H vs Q E hr h => ?_)
  · obtain ⟨v, d, rfl, _⟩ := h
    rfl
  · obtain ⟨v, d, rfl, hd, ok, k⟩ := h
    refine ⟨_, pss_cons (ps_if (PW.pt (pw_or (pt_not (pt_val (pe_callB (call_isD kit_tup) (by rfl) B.isin (by decide +kernel) (pa_cons (pv 0) (pa_cons (pe_bltn (v := .ty "tuple") (by rfl) B.tup (by decide +kernel) rfl) pa_nil)))))
        (pw_or1 (pt_cmpR op_ne (pe_callB call_len (by rfl) B.len PySem.boot_len (pa_cons (pv 0) pa_nil)) pe_int (nomark _))))) (pss_one (ps_ret pe_bl)) pss_nil)
      (pss_cons (ps_asg (pv 0) (pg_tup (n := 2) rfl (pgs_cons (pg_name (i := 1) scIsShare.nd rfl (Or.inl rfl)) (pgs_cons (pg_name (i := 2) scIsShare.nd rfl (Or.inl rfl)) pgs_nil))))
      (pss_one (ps_ret (pe_and (pe_call GU hr (by rfl) mU kU bU .nil pass0 (pa_cons (pv 2) pa_nil))
        (pe_one (pe_call GI (hr.mono (by decide)) (by rfl) mI kI bI .nil pass0 (pa_cons (pv 1) (pa_cons pe_int (pa_cons (pe_callB call_len (by rfl) B.len PySem.boot_len (pa_cons (pv 2) pa_nil)) pa_nil))))))))), ?_⟩
    refine ⟨_, rfl, v, d, rfl, hd, _, rfl, ?_⟩
    by_cases hs : isTup d = true
    rotate_left
    · have e : isTup d = false := by simpa using hs
      rw [e]
      refine iteT ?_
      have e2 : shareD d = false := by cases d <;> first | rfl | cases e
      have kk := k H (Same.refl H)
      rw [e2] at kk
      exact kk
    rw [hs]
    refine iteF ?_
    obtain ⟨ds, rfl⟩ : ∃ ds, d = .tuple ds := by cases d <;> first | exact ⟨_, rfl⟩ | cases hs
    obtain ⟨a, xs, rfl, hS, hA⟩ : ∃ a xs, v = .ref a ∧ SqT K H a xs ∧ DaAll K H xs ds := by
      cases hd with
      | tup s a => exact ⟨_, _, rfl, s, a⟩
    refine ⟨_, rfl, _, xs.length, rfl, .inr ⟨_, hS, rfl⟩, rfl, _, rfl, ?_⟩
    have L := hA.length
    refine ite2 (fun hc => ?_) (fun hc => ?_)
    · have n2 : xs.length ≠ 2 := fun z => by
        rw [z] at hc
        revert hc
        decide
      have e2 : shareD (.tuple ds) = false := by
        unfold shareD
        split
        · rename_i e
          cases e
          exact absurd L n2
        · rfl
      have kk := k H (Same.refl H)
      rw [e2] at kk
      exact kk
    · have n2 : xs.length = 2 := by
        by_cases z : xs.length = 2
        · exact z
        · exfalso
          apply hc
          simp only [Bool.not_eq_true', decide_eq_false_iff_not]
          intro y
          have := V.int.inj y
          omega
      obtain ⟨d1, d2, rfl⟩ : ∃ d1 d2, ds = [d1, d2] := by
        rw [n2] at L
        match ds, L with
        | [d1, d2], _ => exact ⟨d1, d2, rfl⟩
      obtain ⟨x, y, rfl, h1, h2⟩ : ∃ x y, xs = [x, y] ∧ Da K H x d1 ∧ Da K H y d2 := by
        cases hA with
        | cons p q =>
          cases q with
          | cons p' q' =>
            cases q'
            exact ⟨_, _, rfl, p, p'⟩
      refine ⟨_, rfl, a, _, rfl, hS, rfl, _, _, rfl, _, _, rfl, rfl, ?_⟩
      refine ⟨_, rfl, y, d2, rfl, h2, ok _ rfl d2 (by simp), fun H1 S1 => ⟨_, rfl, ?_⟩⟩
      have e : shareD (.tuple [d1, d2]) = (unlikeD d2 && intInD d1 1 (lenD d2)) := rfl
      rw [e] at k
      cases u : unlikeD d2 with
      | false =>
        rw [u] at k
        exact iteF (k H1 S1)
      | true =>
        rw [u] at k
        refine iteT ?_
        obtain ⟨cs, rfl⟩ : ∃ cs, d2 = .tuple cs := by cases d2 <;> first | exact ⟨_, rfl⟩ | cases u
        obtain ⟨b, ys, rfl, hS2, hA2⟩ : ∃ b ys, y = .ref b ∧ SqT K H b ys ∧ DaAll K H ys cs := by
          cases h2 with
          | tup s a => exact ⟨_, _, rfl, s, a⟩
        refine ⟨_, rfl, _, rfl, _, ys.length, rfl, .inr ⟨_, sqT_same S1 hS2, rfl⟩, x, d1, 1, ys.length, rfl, h1.same S1, ?_⟩
        rw [show (ys.length : Int) = lenD (.tuple cs) from by rw [hA2.length]; rfl]
        exact k H1 S1
theorem scSubject : FnScope ["value"] ["value"] (defScope pSubject) := ⟨rfl, rfl, rfl, by decide +kernel, rfl, by decide +kernel, by decide +kernel⟩
theorem ok_subject {f : Addr} {fd : FuncData} (F : Fun K "is_subject" "is_subject" pSubject f fd) (B : Pb mg)
    (GC : FnOk P w K mg base CX0 2 fC fdC ["value", "most"] (spIsChain K)) (mC : mg "is_chain" = some (.ref fC)) (kC : PySem.W.keepIn K (.ref fC) = true) (bC : Binds K fdC ["value", "most"] [])
    (GS : FnOk P w K mg base CX0 4 fS fdS ["value"] (spIsShare K)) (mS : mg "_is_share" = some (.ref fS)) (kS : PySem.W.keepIn K (.ref fS) = true) (bS : Binds K fdS ["value"] []) :
    FnOk P w K mg base CX0 5 f fd ["value"] (spSubject K) := by
  refine F.ok scSubject (fun vs H Q E h => ?_) (fun cdv A outer s H vs Q E hr h => ?_)
  · obtain ⟨v, d, rfl, _⟩ := h
    rfl
  · obtain ⟨v, d, rfl, hd, ok, k⟩ := h
    obtain ⟨tN, mN⟩ := B.names
    refine ⟨_, pss_one (ps_ret (pe_or (pe_call GC (hr.mono (by decide)) (by rfl) mC kC bC .nil pass0 (pa_cons (pv 0) (pa_cons (pe_glob (v := .int 4) (by rfl) mN ⟨_, rfl⟩) pa_nil))) (pe_one (pe_call GS hr (by rfl) mS kS bS .nil pass0 (pa_cons (pv 0) pa_nil))))), ?_⟩
    refine ⟨_, rfl, v, d, 4, rfl, hd, ok.1, fun H1 S1 => ⟨_, rfl, ?_⟩⟩
    unfold subjD at k
    cases c : isChainD d 4 with
    | true =>
      rw [c] at k
      exact iteT (k H1 S1)
    | false =>
      rw [c] at k
      exact iteF ⟨_, rfl, v, d, rfl, hd.same S1, ok.2, fun H2 S2 => k H2 (S1.trans S2)⟩
end
end LW

/-! a op1 b op2 c op3 d, as a test. -/
namespace G
open PySem PySem.Spec PyProof.Rows L2
def tChain3 (r r' r2 : R2) (ta tb tc td : TE) : TE := fun σ H Q => ta σ H fun x H1 => tb σ H1 fun y H2 => r x y H2 fun z H3 => ∃ k, z = .bl k ∧
  (if k = true then tc σ H3 fun w' H4 => r' y w' H4 fun z2 H5 => ∃ k2, z2 = .bl k2 ∧ (if k2 = true then td σ H5 fun w2 H6 => r2 w' w2 H6 Q else Q (.bl false) H5) else Q (.bl false) H3)
section
variable {X : Cx}
theorem pt_chain3 {op op' op2 : CmpOp} {r r' r2 : R2} {a b c e : Expr} {ta tb tc td : TE} {pos : Pos} (ho : OpR X (compareOp op) r) (ho' : OpR X (compareOp op') r') (ho2 : OpR X (compareOp op2) r2) (ha : PE X a ta) (hb : PE X b tb) (hc : PE X c tc) (hd : PE X e td)
    (hm : lastMarks [op, op', op2] [b, c, e] = false := by with_unfolding_all rfl) : PT X (.Compare a [op, op', op2] [b, c, e] pos) (tTest (tChain3 r r' r2 ta tb tc td)) := by
  refine ⟨fun pins s σ H Q I h => ?_⟩
  refine isTrue_chain (thn (ha.run pins s σ H _ I h) fun v s1 ⟨x, H1, I1, r1, q1⟩ => test_link (thn (hb.run pins s1 σ H1 _ I1 q1) fun u s2 ⟨y, H2, I2, r2, q2⟩ =>
    thn (ho pins s2 σ H2 x y v u _ I2 r1 r2 q2) fun d s3 ⟨z, H3, I3, r3, k, e, q3⟩ => ?_)) hm
  subst e
  cases r3
  refine wpAny_truthy_bool ?_
  cases k with
  | false =>
    obtain ⟨k', e', q'⟩ := q3
    cases e'
    exact ite_ff ⟨H3, I3, q'⟩
  | true =>
    refine ite_tt (test_link (thn (hc.run pins s3 σ H3 _ I3 q3) fun w' s4 ⟨z', H4, I4, r4, q4⟩ => thn (ho' pins s4 σ H4 y z' u w' _ I4 r2 r4 q4) fun d' s5 ⟨z2, H5, I5, r5, k2, e2, q5⟩ => ?_))
    subst e2
    cases r5
    refine wpAny_truthy_bool ?_
    cases k2 with
    | false =>
      obtain ⟨k', e', q'⟩ := q5
      cases e'
      exact ite_ff ⟨H5, I5, q'⟩
    | true =>
      refine ite_tt (test_last (thn (hd.run pins s5 σ H5 _ I5 q5) fun w2 s6 ⟨z6, H6, I6, r6, q6⟩ => thn (ho2 pins s6 σ H6 z' z6 w' w2 _ I6 r4 r6 q6) fun d7 s7 ⟨z7, H7, I7, r7, k7, e7, q7⟩ => ?_))
      subst e7
      cases r7
      exact wpAny_truthy_bool ⟨H7, I7, q7⟩
end
section
variable {X : Cx}
theorem op_neNil (hu : X.A.units < cLine) : OpR X (compareOp .NotEq) (rNeNil X.K) := by
  intro pins s σ H x y v u Q I rx ry h
  obtain ⟨a, b, xs, rfl, rfl, ha, hb, q⟩ := h
  cases rx
  cases ry
  obtain ⟨its, rv, l1, _⟩ := I.list ha
  obtain ⟨its2, rv2, l2, _⟩ := I.list hb
  have e1 := vals_len rv
  have e2 := vals_len rv2
  cases xs with
  | nil =>
    have z1 : its = [] := List.eq_nil_of_length_eq_zero e1
    have z2 : its2 = [] := List.eq_nil_of_length_eq_zero e2
    subst z1 z2
    exact (SeqAt.RcNeAt.lists (e := fun _ => true) l1.isList l2.isList rfl hu (fun j h1 => absurd h1 (Nat.not_lt_zero _))) _ _ _ _ ⟨.bl false, H, I, rfl, q⟩
  | cons z zs =>
    refine (SeqAt.RcNeAt.lists_lengths l1.isList l2.isList ?_ hu) _ _ _ _ ⟨.bl true, H, I, rfl, by simpa using q⟩
    have : its.toArray.size = zs.length + 1 := by simpa using e1
    have t2 : its2.toArray.size = 0 := by simpa using e2
    rw [this, t2]
    rfl
end
end G

/-! The law's own looks: whether any value is a subject, can be the times. -/
namespace LW
open PySem L2 G
abbrev sIsGoal : Stmt := top 53
abbrev sIsPasses : Stmt := top 54
theorem isChainC {d : PyData} (h : isTup d = false) : subjD d = false := by cases d <;> first | rfl | cases h
/-- is a subject that is no chain -/
theorem share_of {ds : List PyData} (n : ds.length ≠ 2) : shareD (.tuple ds) = false := by
  unfold shareD
  split
  · rename_i e
    cases e
    exact absurd rfl n
  · rfl
section
variable {P : Program} {w : World} {K : PySem.W.Frag} {mg : Str → Option Value} {base : Heap}
variable {fC : Addr} {fdC : FuncData}
theorem scIsPasses : FnScope ["_law_thing"] ["_law_thing"] (defScope sIsPasses) := ⟨rfl, rfl, rfl, by decide +kernel, rfl, by decide +kernel, by decide +kernel⟩
theorem ok_is_passes {f : Addr} {fd : FuncData} (F : Fun K "_law_is_passes" "_law_is_passes" sIsPasses f fd) (T : Bt mg) (Is : mg "isinstance" = none) (Bo : mg "bool" = none) :
    FnOk P w K mg base CX0 1 f fd ["_law_thing"] (spIsTimes K) := by
  refine F.ok scIsPasses (fun vs H Q E h => ?_) (fun cdv A outer s H vs Q E hr h => ?_)
  · obtain ⟨v, d, rfl, _⟩ := h
    rfl
  · obtain ⟨v, d, rfl, hd, k⟩ := h
    refine ⟨_, pss_one (ps_ret (pe_or (pe_cmpR op_isN (pv 0) pe_non (nomark _)) (pe_one (pe_and (pe_callB (call_isD kit_int) (by rfl) Is (by decide +kernel) (pa_cons (pv 0) (pa_cons (pe_bltn (v := .ty "int") (by rfl) T.int (by decide +kernel) rfl) pa_nil)))
      (pe_and (pe_not (pe_callB (call_isD kit_bool) (by rfl) Is (by decide +kernel) (pa_cons (pv 0) (pa_cons (pe_bltn (v := .ty "bool") (by rfl) Bo (by decide +kernel) rfl) pa_nil))))
      (pe_one (pe_chain op_le op_le pe_int (pv 0) pe_int))))))), ?_⟩
    refine ⟨_, rfl, rfl, _, rfl, ?_⟩
    by_cases n : v = .non
    · subst n
      cases hd
      exact iteT k
    rw [decide_eq_false n]
    refine iteF ⟨_, rfl, v, d, rfl, hd, _, rfl, ?_⟩
    have nd : d ≠ .none := fun z => by
      subst z
      cases hd
      exact n rfl
    by_cases hs : isInt d = true
    rotate_left
    · have e : isInt d = false := by simpa using hs
      rw [e]
      refine iteF ?_
      have e2 : isTimesD d = false := by cases d <;> first | exact absurd rfl nd | rfl | cases e
      rw [e2] at k
      exact k
    rw [hs]
    refine iteT ⟨_, rfl, v, d, rfl, hd, _, rfl, _, rfl, ?_⟩
    by_cases hb : isBool d = true
    · rw [hb]
      refine iteF ?_
      have e2 : isTimesD d = false := by cases d <;> first | rfl | cases hb
      rw [e2] at k
      exact k
    have e : isBool d = false := by simpa using hb
    rw [e]
    refine iteT ?_
    obtain ⟨i, rfl⟩ : ∃ i, d = .int i := by
      cases d with
      | int i => exact ⟨i, rfl⟩
      | bool b => cases e
      | _ => cases hs
    cases hd
    refine ⟨_, rfl, _, _, rfl, rfl, _, rfl, ?_⟩
    have e3 : isTimesD (.int i) = (decide (0 ≤ i) && decide (i ≤ 9)) := rfl
    rw [e3] at k
    refine ite2 (fun h0 => ?_) (fun h0 => ?_)
    · refine ⟨_, _, rfl, rfl, ?_⟩
      rw [h0, Bool.true_and] at k
      exact k
    · rw [Bool.eq_false_iff.mpr h0, Bool.false_and] at k
      exact k
theorem scIsGoal : FnScope ["_law_thing", "_law_row"] ["_law_thing"] (defScope sIsGoal) := ⟨rfl, rfl, rfl, by decide +kernel, rfl, by decide +kernel, by decide +kernel⟩
theorem ok_is_goal {f : Addr} {fd : FuncData} (F : Fun K "_law_is_goal" "_law_is_goal" sIsGoal f fd) (T : Bt mg) (Is : mg "isinstance" = none) (Bo : mg "bool" = none) (Tu : mg "tuple" = none) (mS : mg "set" = none)
    (GC : FnOk P w K mg base CX0 2 fC fdC ["_law_thing", "_law_top"] (spIsChain K)) (mC : mg "_law_is_chain" = some (.ref fC)) (kC : PySem.W.keepIn K (.ref fC) = true) (bC : Binds K fdC ["_law_thing", "_law_top"] []) :
    FnOk P w K mg base CX0 3 f fd ["_law_thing"] (spSubject K) := by
  refine F.ok scIsGoal (fun vs H Q E h => ?_) (fun cdv A outer s H vs Q E hr h => ?_)
  · obtain ⟨v, d, rfl, _⟩ := h
    rfl
  · obtain ⟨v, d, rfl, hd, ok, k⟩ := h
    have hu := hr.units
    have hu1 : _ < cLine := Nat.lt_of_le_of_lt (Nat.le_add_right _ 64) hu
    refine ⟨_, pss_cons (ps_if (pt_val (pe_call GC hr (by rfl) mC kC bC .nil pass0 (pa_cons (pv 0) (pa_cons pe_int pa_nil)))) (pss_one (ps_ret pe_bl)) pss_nil)
      (pss_cons (ps_if (PW.pt (pw_or (pt_not (pt_val (pe_callB (call_isD kit_tup) (by rfl) Is (by decide +kernel) (pa_cons (pv 0) (pa_cons (pe_bltn (v := .ty "tuple") (by rfl) Tu (by decide +kernel) rfl) pa_nil)))))
        (pw_or (pt_cmpR op_ne (pe_callB call_len (by rfl) T.len PySem.boot_len (pa_cons (pv 0) pa_nil)) pe_int (nomark _))
        (pw_or1 (pt_not (pt_val (pe_callB (call_isD kit_tup) (by rfl) Is (by decide +kernel) (pa_cons (pe_ix ix_tup (pv 0) pe_int (fun _ _ => rfl)) (pa_cons (pe_bltn (v := .ty "tuple") (by rfl) Tu (by decide +kernel) rfl) pa_nil))))))))) (pss_one (ps_ret pe_bl)) pss_nil)
      (pss_cons (ps_if (PW.pt (pw_or (pt_not (pt_val (pe_callB (call_isD kit_int) (by rfl) Is (by decide +kernel) (pa_cons (pe_ix ix_tup (pv 0) pe_int (fun _ _ => rfl)) (pa_cons (pe_bltn (v := .ty "int") (by rfl) T.int (by decide +kernel) rfl) pa_nil)))))
        (pw_or (pt_val (pe_callB (call_isD kit_bool) (by rfl) Is (by decide +kernel) (pa_cons (pe_ix ix_tup (pv 0) pe_int (fun _ _ => rfl)) (pa_cons (pe_bltn (v := .ty "bool") (by rfl) Bo (by decide +kernel) rfl) pa_nil))))
        (pw_or1 (pt_not (pt_chain3 op_le op_le op_le pe_int (pe_ix ix_tup (pv 0) pe_int (fun _ _ => rfl)) (pe_callB call_len (by rfl) T.len PySem.boot_len (pa_cons (pe_ix ix_tup (pv 0) pe_int (fun _ _ => rfl)) pa_nil)) pe_int)))))) (pss_one (ps_ret pe_bl)) pss_nil)
      (pss_cons (ps_if (pt_cmpR (op_neNil hu1) (pe_lc (own := [("_law_row", 1)]) (g := gName 1) rfl scIsGoal.nd (pi_tup (pe_ix ix_tup (pv 0) pe_int (fun _ _ => rfl)))
        (blkOk_by (own := [("_law_row", 1)]) (N := ["_law_thing", "_law_row"]) (sc := defScope sIsGoal) (by decide +kernel))
        (fun _ _ _ _ _ => pg_name (i := 1) scIsGoal.nd rfl (Or.inl rfl)) (fun _ _ _ _ _ => pts_one (pt_not (pt_val (pe_call GC hr (by rfl) mC kC bC .nil pass0 (pa_cons (pv 1) (pa_cons pe_int pa_nil)))))) (fun _ _ _ _ _ => pv 1)) (pe_lst pa_nil) (nomark _)) (pss_one (ps_ret pe_bl)) pss_nil)
      (pss_one (ps_ret (pe_cmpR op_eq (pe_lenSetT rfl hr.units (by rfl) T.len (by rfl) mS (pe_ix ix_tup (pv 0) pe_int (fun _ _ => rfl))) (pe_callB call_len (by rfl) T.len PySem.boot_len (pa_cons (pe_ix ix_tup (pv 0) pe_int (fun _ _ => rfl)) pa_nil)) (nomark _))))))), ?_⟩
    refine ⟨_, rfl, v, d, 4, rfl, hd, ok.1, fun H0 S0 => ⟨_, rfl, ?_⟩⟩
    have e0 : subjD d = (isChainD d 4 || shareD d) := rfl
    cases c0 : isChainD d 4 with
    | true =>
      rw [e0, c0, Bool.true_or] at k
      exact iteT (k H0 S0)
    | false =>
    rw [e0, c0, Bool.false_or] at k
    refine iteF ?_
    have hd := hd.same S0
    have k : ∀ H', Same H0 H' → Q (.bl (shareD d)) H' := fun H' S' => k H' (S0.trans S')
    have kR := k H0 (Same.refl H0)
    refine ⟨_, rfl, v, d, rfl, hd, _, rfl, ?_⟩
    by_cases hs : isTup d = true
    rotate_left
    · have e : isTup d = false := by simpa using hs
      rw [e]
      refine iteT ?_
      rw [show shareD d = false from (by cases d <;> first | rfl | cases e)] at kR
      exact kR
    rw [hs]
    refine iteF ?_
    obtain ⟨ds, rfl⟩ : ∃ ds, d = .tuple ds := by cases d <;> first | exact ⟨_, rfl⟩ | cases hs
    obtain ⟨a, xs, rfl, hS, hA⟩ : ∃ a xs, v = .ref a ∧ SqT K H0 a xs ∧ DaAll K H0 xs ds := by
      cases hd with
      | tup s a => exact ⟨_, _, rfl, s, a⟩
    have L := hA.length
    refine ⟨_, rfl, _, xs.length, rfl, .inr ⟨_, hS, rfl⟩, rfl, _, rfl, ?_⟩
    by_cases n2 : xs.length = 2
    rotate_left
    · have e : (!decide (V.int (xs.length : Int) = V.int 2)) = true := by
        simp only [Bool.not_eq_true', decide_eq_false_iff_not]
        intro z
        have := V.int.inj z
        omega
      rw [e]
      refine iteT ?_
      rw [share_of (by omega)] at kR
      exact kR
    have e : (!decide (V.int (xs.length : Int) = V.int 2)) = false := by rw [n2]; rfl
    rw [e]
    refine iteF ?_
    obtain ⟨d1, d2, rfl⟩ : ∃ d1 d2, ds = [d1, d2] := by
      rw [n2] at L
      match ds, L with
      | [d1, d2], _ => exact ⟨d1, d2, rfl⟩
    obtain ⟨x, y, rfl, h1, h2⟩ : ∃ x y, xs = [x, y] ∧ Da K H0 x d1 ∧ Da K H0 y d2 := by
      cases hA with
      | cons p q =>
        cases q with
        | cons p' q' =>
          cases q'
          exact ⟨_, _, rfl, p, p'⟩
    have a0 : atI [x, y] 0 = some x := rfl
    have a1 : atI [x, y] 1 = some y := rfl
    have es : shareD (.tuple [d1, d2]) = (unlikeD d2 && intInD d1 1 (lenD d2)) := rfl
    rw [es] at k kR
    refine ⟨_, rfl, a, _, _, y, rfl, rfl, hS, a1, y, d2, rfl, h2, _, rfl, ?_⟩
    by_cases t2 : isTup d2 = true
    rotate_left
    · have e : isTup d2 = false := by simpa using t2
      rw [e]
      refine iteT ?_
      rw [show unlikeD d2 = false from (by cases d2 <;> first | rfl | cases e), Bool.false_and] at kR
      exact kR
    rw [t2]
    refine iteF ?_
    obtain ⟨cs, rfl⟩ : ∃ cs, d2 = .tuple cs := by cases d2 <;> first | exact ⟨_, rfl⟩ | cases t2
    obtain ⟨b, ys, rfl, hS2, hA2⟩ : ∃ b ys, y = .ref b ∧ SqT K H0 b ys ∧ DaAll K H0 ys cs := by
      cases h2 with
      | tup s a => exact ⟨_, _, rfl, s, a⟩
    have L2 := hA2.length
    refine ⟨_, rfl, a, _, _, x, rfl, rfl, hS, a0, x, d1, rfl, h1, _, rfl, ?_⟩
    by_cases i1 : isInt d1 = true
    rotate_left
    · have e : isInt d1 = false := by simpa using i1
      rw [e]
      refine iteT ?_
      rw [show intInD d1 1 (lenD (.tuple cs)) = false from (by cases d1 <;> first | rfl | cases e), Bool.and_false] at kR
      exact kR
    rw [i1]
    refine iteF ⟨_, rfl, a, _, _, x, rfl, rfl, hS, a0, x, d1, rfl, h1, _, rfl, ?_⟩
    by_cases b1 : isBool d1 = true
    · rw [b1]
      refine iteT ?_
      rw [show intInD d1 1 (lenD (.tuple cs)) = false from (by cases d1 <;> first | rfl | cases b1), Bool.and_false] at kR
      exact kR
    have e : isBool d1 = false := by simpa using b1
    rw [e]
    refine iteF ?_
    obtain ⟨i, rfl⟩ : ∃ i, d1 = .int i := by
      cases d1 with
      | int i => exact ⟨i, rfl⟩
      | bool b => cases e
      | _ => cases i1
    cases h1
    have ei : intInD (.int i) 1 (lenD (.tuple cs)) = (decide (1 ≤ i) && decide (i ≤ (cs.length : Int))) := rfl
    have eu : unlikeD (.tuple cs) = (decide (1 ≤ cs.length) && decide (cs.length ≤ 4) && cs.all (isChainD · 4) && decide (cs.map wordsD).Nodup) := rfl
    rw [ei, eu] at k kR
    refine ⟨_, rfl, a, _, _, .int i, rfl, rfl, hS, a0, _, _, rfl, rfl, _, rfl, ?_⟩
    refine ite2 (fun hc => ?_) (fun hc => ?_)
    rotate_left
    · refine ⟨_, rfl, iteT ?_⟩
      rw [Bool.eq_false_iff.mpr hc, Bool.false_and, Bool.and_false] at kR
      exact kR
    rw [hc, Bool.true_and] at k kR
    have i1' : 1 ≤ i := of_decide_eq_true hc
    refine ⟨_, rfl, a, _, _, .ref b, rfl, rfl, hS, a1, _, ys.length, rfl, .inr ⟨_, hS2, rfl⟩, _, _, rfl, rfl, _, rfl, ?_⟩
    refine ite2 (fun hc => ?_) (fun hc => ?_)
    rotate_left
    · refine ⟨_, rfl, iteT ?_⟩
      rw [show decide (i ≤ (cs.length : Int)) = false from by rw [← L2]; exact Bool.eq_false_iff.mpr hc, Bool.and_false] at kR
      exact kR
    have il : i ≤ (ys.length : Int) := of_decide_eq_true hc
    rw [show decide (i ≤ (cs.length : Int)) = true from by rw [← L2]; exact hc, Bool.and_true] at k kR
    refine ⟨_, _, rfl, rfl, _, rfl, ?_⟩
    by_cases f4 : (ys.length : Int) ≤ 4
    rotate_left
    · rw [decide_eq_false f4]
      refine iteT ?_
      rw [decide_eq_false (show ¬ cs.length ≤ 4 by omega)] at kR
      simp only [Bool.and_false, Bool.false_and] at kR
      exact kR
    rw [decide_eq_true f4]
    refine iteF ?_
    rw [decide_eq_true (show cs.length ≤ 4 by omega), decide_eq_true (show 1 ≤ cs.length by omega), Bool.true_and, Bool.true_and] at k
    clear kR
    refine ⟨_, rfl, a, _, _, .ref b, rfl, rfl, hS, a1, b, rfl, ⟨_, hS2⟩, fun D hD => ?_⟩
    have okc := ok.2 _ rfl (.tuple cs) (by simp) cs rfl
    refine lc_it (walk_tup (xs := ys)) (fun j G => ∃ bad : List V, G D = some (.lst bad) ∧ bad.length ≤ j ∧ (decide (bad = []) = (cs.take j).all (isChainD · 4)) ∧ Same H0 G)
      ⟨[], upd_same, Nat.le_refl _, by simp, same_new hD⟩ (fun j G _ pv => ?_) (fun j x G G' hj pv y => ?_) (fun G pv => ?_)
    · obtain ⟨bad, gD, bl, be, S⟩ := pv
      exact sqT_same S hS2
    · obtain ⟨rfl, hx⟩ := y
      obtain ⟨bad, gD, bl, be, S⟩ := pv
      obtain ⟨e, he, hde⟩ := da_at hA2 hx
      have me : e ∈ cs := List.mem_of_getElem? he
      have tk : (cs.take (j + 1)).all (isChainD · 4) = ((cs.take j).all (isChainD · 4) && isChainD e 4) := by
        rw [List.take_add_one, he, List.all_append]
        simp
      refine ⟨rfl, _, rfl, x, e, 4, rfl, hde.same S, okc e me, fun G2 S2 => ?_⟩
      refine ⟨_, rfl, ?_⟩
      cases hw : isChainD e 4 with
      | false =>
        refine iteT ?_
        refine ⟨_, rfl, _, S2 _ _ gD, by rw [sizeLine_eq]; omega, bad ++ [x], upd_same, by simp; omega, ?_, fun b o e' => by rw [upd_ne (ne_of_none e' hD)]; exact S2 _ _ (S _ _ e')⟩
        rw [tk, hw, Bool.and_false]
        simp
      | true =>
        refine iteF ?_
        refine ⟨bad, S2 _ _ gD, by omega, ?_, S.trans S2⟩
        rw [tk, hw, Bool.and_true]
        exact be
    · obtain ⟨bad, gD, bl, be, S⟩ := pv
      rw [List.take_of_length_le (by omega)] at be
      refine ⟨by decide, fun q hq => ?_⟩
      have s2 := same_new (o := .lst []) hq
      refine ⟨D, q, bad, rfl, rfl, SqL.of (s2 _ _ gD), SqL.of upd_same, _, rfl, ?_⟩
      have S3 := S.trans s2
      rw [be]
      by_cases ch : cs.all (isChainD · 4) = true
      rotate_left
      · have e : cs.all (isChainD · 4) = false := by simpa using ch
        rw [e] at k ⊢
        refine iteT ?_
        rw [Bool.false_and] at k
        exact k _ S3
      rw [ch] at k ⊢
      rw [Bool.true_and] at k
      refine iteF ?_
      obtain ⟨ks, rfl, rfl, hk⟩ := da_chains hA2 ch
      have l4 : ks.length ≤ 4 := by
        have h := f4
        rw [List.length_map] at h
        omega
      have hS := sqT_same S3 hS
      have hS2 := sqT_same S3 hS2
      refine ⟨_, rfl, a, _, _, .ref b, rfl, rfl, hS, a1, b, ks, rfl, hS2, fun q hq => sqT_same S3 (hk q hq), l4, fun L nd sub all => ?_⟩
      refine ⟨_, rfl, a, _, _, .ref b, rfl, rfl, hS, a1, _, ks.length, rfl, .inr ⟨_, hS2, by rw [List.length_map]⟩, rfl, ?_⟩
      have e : decide (V.int L.length = V.int ks.length) = decide ((ks.map fun q => PyData.tuple (q.2.map PyData.str)).map wordsD).Nodup := by
        refine decide_eq_decide.mpr ?_
        have e1 : (ks.map fun q => PyData.tuple (q.2.map PyData.str)).map wordsD = ks.map Prod.snd := by
          rw [List.map_map]
          exact List.map_congr_left fun q _ => wordsD_chain q.2
        rw [e1, ← once_iff nd sub all]
        refine ⟨fun z => ?_, fun z => by rw [z]⟩
        have := V.int.inj z
        omega
      rw [e]
      exact k _ S3
end
end LW

/-! Several except clauses that name what they caught; isinstance of a caught error that bears fields. -/
namespace G
open PySem PySem.Spec PyProof.Rows L2
abbrev Suit := Addr → Value → Option Addr → TS
/-- slot i forgets its value -/
def emptied (i : Nat) (D : Ends) : Ends := { nx := fun τ G => D.nx (τ.set i none) G, rt := D.rt, bk := fun τ G => D.bk (τ.set i none) G, ct := fun τ G => D.ct (τ.set i none) G }
/-- what clauses «except c as n» wish of what the body raises; each with its class, the slot of its name and its suite's reading -/
def wClauses (K : PySem.W.Frag) (Wo : WX) (D : Ends) : List (Value × Nat × Suit) → WX
  | [] => Wo
  | (c, i, ts) :: more => fun k d τ G => ∃ yes, PySem.W.exmOne K k c = some yes ∧ (yes = true → ∀ a, G a = none → ts a k d (emptied i D) (τ.set i (some (.ref a))) G) ∧ (yes = false → wClauses K Wo D more k d τ G)
inductive Clauses (X : Cx) : List ExceptHandler → List (Value × Nat × Suit) → Prop
  | done : Clauses X [] []
  | next {x n : Str} {c : Value} {i : Nat} {ts : Suit} {s0 : Stmt} {suite : List Stmt} {p1 p2 : Pos} {hs : List ExceptHandler} {l : List (Value × Nat × Suit)} (nm : Names X x c) (at_ : X.N[i]? = some n) (lc : X.env.kindOf n = some .local)
      (body : ∀ (a : Addr) (oe : Obj) (k : Value) (d : Option Addr) (pn : List (Addr × Obj)), Zc k d oe → (∃ vs, oe.data = .fields vs) → PSs (X.suite a ((a, oe) :: pn)) (s0 :: suite) (ts a k d)) (more : Clauses X hs l) :
      Clauses X (.ExceptHandler (some (.Name x p1)) (some n) (s0 :: suite) p2 :: hs) ((c, i, ts) :: l)
section
variable {X : Cx} {pins : List (Addr × Obj)} {D : Ends} {Wo : WX}
/-- an exception flies behind the body: the state without it is I's, the ground is B -/
theorem clauses_run (ok : X.Ok) (hs : X.stack = X.env :: X.outer) (hf : X.env.frame = some X.env.locals) (nd : X.N.Nodup) (tk : Takes X Wo) {sI : Shared} {τ : L2.St} {G : Hp} {B : Heap} {a : Addr} {k : Value} {d : Option Addr} {os' : OsState}
    (I : Inv X pins τ G sI) (nb : ∀ b o, sI.heap.get? b = some o → b ∉ frs X.stack → B.get? b = some o) (na : G a = none) (nL : a ≠ X.env.locals) (nF : a ∉ X.fs) :
    ∀ {cl : List ExceptHandler} {l : List (Value × Nat × Suit)}, Clauses X cl l → ∀ s : Shared, HandSPX.FlyingZ B (X.env :: X.outer) a (Zc k d) s.heap → sI.heap.UpToSlots s.heap → s.os = sI.os → AllBare s.gens → wClauses X.K Wo D l k d τ G →
      wpAny (model X.prog X.w) X.A (handleBy (.ref a) X.env cl) (SP X pins D) X.xe s := by
  intro cl l C
  induction C with
  | done =>
    intro s fl up os bare w
    refine wpAny_handleBy_nil ?_
    have fl2 := fl
    obtain ⟨_, _, _, oe, vs, T, _, _, ge, _, dd, v1, _⟩ := fl2
    have go : wpAny (model X.prog X.w) X.A (setFlight (.ref a) X.env.frame) (fun _ z => wpAny (model X.prog X.w) X.A (throw (.ref a) : Sem Flow) (SP X pins D) X.xe z) X.xe s := by
      rw [hf]
      refine HandSPX.setFlight_upZ fl fun h4 held up4 => ?_
      refine wpAny_throw (tk _ _ ⟨a, B, sI, pins, τ, G, k, d, rfl, I, nb, up.trans up4, ?_, na, os, bare, w⟩)
      rw [hs]
      exact Or.inr (Or.inr held)
    unfold PySem.passOn
    refine wpAny_bind (wpAny_field ge dd v1 ?_)
    have nn : ¬ ((Value.ref T == Value.none) = true) := by simp
    rw [if_neg nn]
    first
      | exact wpAny_bind (wpAny_pure (wpAny_bind go))
      | exact wpAny_bind go
  | @next x n c i ts s0 suite p1 p2 cl2 l2 nm at_ lc body more ih =>
    intro s fl up os bare w
    obtain ⟨yes, hy, hyes, hno⟩ := w
    obtain ⟨oe, vs, ge, hz, dd⟩ := fl.there
    have J : Inv X pins τ G s := I.landed nb fl.1 up os bare
    have S := J.suite ge dd na nL nF
    have kind : PySem.W.Looks (model X.prog X.w) s.heap (typeOf (.ref a)) k := fun A Q E z kk q => wpAny_typeOf_ref (kk _ _ ge) (by rw [hz.1]; exact q)
    have fits := PySem.W.exm_one (M := model X.prog X.w) J.kIn kind hy
    refine wpAny_handleBy_cons (codeAny_handlers_test ?_) (fun z => by cases z)
    have name : ∀ {Q : Value → Shared → Prop} {E : Value → Shared → Prop}, Q c s → wpAny (model X.prog X.w) (X.A.mark (some (.ref a))) (eval (.Name x p1) X.env) Q E s := fun {Q E} q => by
      obtain ⟨g, nd', m⟩ := nm
      cases m with
      | inl m => exact ld_glob (X := X.suite a ((a, oe) :: (X.pn ++ pins))) S g m q nd'
      | inr m => exact ld_blt (X := X.suite a ((a, oe) :: (X.pn ++ pins))) S g m.1 m.2.1 q m.2.2 nd'
    refine name (fits.here ?_)
    cases yes with
    | false => exact ih s fl up os bare (hno rfl)
    | true =>
      refine codeAny_handlers_suite_as (HandSPX.lands_againZ fl fun h4 fl4 up4 => ?_)
      obtain ⟨oe4, vs4, ge4, hz4, dd4⟩ := fl4.there
      have J4 : Inv X pins τ G { s with heap := h4 } := I.landed nb fl4.1 (up.trans up4) os bare
      have S4 := J4.suite ge4 dd4 na nL nF
      refine store_ok (X := X.suite a ((a, oe4) :: (X.pn ++ pins))) (v := .ref a) S4 nd at_ (.inl lc) rfl (fun s5 S5 => ?_) (.inr lc)
      refine wpAny_mono ((body a oe4 k d (X.pn ++ pins) hz4 ⟨_, dd4⟩).run [] s5 _ G _ S5 (hyes rfl a na)) (fun fw s6 q => ?_) (fun _ _ z => z.elim)
      have out : ∀ {σ6 : L2.St} {H6 : Hp} {R : Shared → Prop}, Inv (X.suite a ((a, oe4) :: (X.pn ++ pins))) [] σ6 H6 s6 → (∀ z, Inv X pins (σ6.set i none) H6 z → R z) →
          wpAny (model X.prog X.w) X.A (do bindName X.env n .none; unbindBehindTheSuite X.env n p2) (fun _ z => R z) X.xe s6 := fun I6 r => gone_ok (I6.unsuite ok) nd at_ lc r
      match fw, q with
      | .next, ⟨_, _, I6, q6⟩ => exact out I6 fun _ I7 => ⟨_, _, I7, q6⟩
      | .brk, ⟨_, _, I6, q6⟩ => exact out I6 fun _ I7 => ⟨_, _, I7, q6⟩
      | .cont, ⟨_, _, I6, q6⟩ => exact out I6 fun _ I7 => ⟨_, _, I7, q6⟩
      | .ret u, ⟨_, _, _, I6, r6, q6⟩ => exact out I6 fun _ I7 => ⟨_, _, _, I7, r6, q6⟩
theorem ps_clauses {body : List Stmt} {h0 : ExceptHandler} {cl : List ExceptHandler} {l : List (Value × Nat × Suit)} {pos : Pos} {tb : WX → TS} (hs : X.stack = X.env :: X.outer) (hf : X.env.frame = some X.env.locals) (nd : X.N.Nodup) (tk : Takes X Wo)
    (hb : ∀ (W : WX) (pn : List (Addr × Obj)) (xe : Value → Shared → Prop), Takes (X.tr pn xe) W → PassesOwn (model X.prog X.w) X.A X.env xe → PSs (X.tr pn xe) body (tb W)) (C : Clauses X (h0 :: cl) l) :
    PS X (.Try body (h0 :: cl) [] [] pos) (fun D σ H => tb (wClauses X.K Wo D l) D σ H) := by
  refine ⟨fun pins s σ H D I h => ?_⟩
  have ok := I.ok
  have hfr : X.A.frames = some (X.env :: X.outer) := by rw [ok.frames, hs]
  let xe2 : Value → Shared → Prop := fun e z => wpAny (model X.prog X.w) X.A (noteFrame e X.env) (fun _ z2 => wpAny (model X.prog X.w) X.A (setFlight e none) (fun _ z3 =>
    wpAny (model X.prog X.w) X.A (handleBy e X.env (h0 :: cl)) (SP X pins D) X.xe z3) X.xe z2) X.xe z
  have tk2 : Takes (X.tr (X.pn ++ pins) xe2) (wClauses X.K Wo D l) := by
    rintro u z ⟨a, B, sI, pins', τ, G, k, d, rfl, J', nb, up, sky, na, os, bare, w⟩
    have J : Inv X pins τ G sI := J'.ofTry ok
    have sky2 : Sky B (X.env :: X.outer) a (Zc k d) X.env.locals z.heap := by rw [← hs]; exact sky
    show wpAny (model X.prog X.w) X.A (noteFrame (.ref a) X.env) _ X.xe z
    refine Sky.land Zc.steady hfr hf sky2 fun h3 fl up3 => ?_
    obtain ⟨oe, vs, ge, _, dd⟩ := fl.there
    have away : a ∉ frs (X.env :: X.outer) := fun m => by
      obtain ⟨_, o2, g2, n2⟩ := fl.2.2.1.mem m
      rw [ge] at g2
      cases g2
      exact n2 _ dd
    have nL : a ≠ X.env.locals := fun q => away (List.mem_filterMap.mpr ⟨X.env, List.mem_cons_self, by rw [hf, q]⟩)
    have nF : a ∉ X.fs := fun m => away (by
      obtain ⟨e, he, q⟩ := List.mem_filterMap.mp m
      exact List.mem_filterMap.mpr ⟨e, List.mem_cons_of_mem _ he, q⟩)
    exact clauses_run (os' := z.os) ok hs hf nd tk J nb na nL nF C { z with heap := h3 } fl (up.trans up3) os bare w
  refine wpAny_Try_except (wpAny_mono ((hb (wClauses X.K Wo D l) (X.pn ++ pins) xe2 tk2 PassesOwn.looking).run [] s σ H D (I.toTry _) h) (fun fw s1 q => ?_) fun e z q => q)
  match fw, q with
  | .next, ⟨_, _, J, q⟩ => exact wpAny_execs_nil ⟨_, _, J.ofTry ok, q⟩
  | .brk, ⟨_, _, J, q⟩ => exact ⟨_, _, J.ofTry ok, q⟩
  | .cont, ⟨_, _, J, q⟩ => exact ⟨_, _, J.ofTry ok, q⟩
  | .ret u, ⟨_, _, _, J, r, q⟩ => exact ⟨_, _, _, J.ofTry ok, r, q⟩
end
/-- isinstance(e, c) in the suite, e's class D, its own dict at dd -/
def rIsX (K : PySem.W.Frag) (D a dd : Addr) : List V → Hp → VK → Prop := fun xs H Q => ∃ (c : V) (cv : Value) (b : Bool) (fs : List (Str × V)), xs = [.ref a, c] ∧ H dd = some (.xd fs) ∧ (∀ u, RelV c u → u = cv) ∧ PySem.W.kitOne K (.ref D) cv = some b ∧ Q (.bl b) H
theorem call_isX {X : Cx} {a D dd : Addr} {oe : Obj} {pn : List (Addr × Obj)} (C : ExcC X.K D) (hz : Zc (.ref D) (some dd) oe) (hf : ∃ vs, oe.data = .fields vs) : CallR (X.suite a ((a, oe) :: pn)) (.builtin "isinstance") (rIsX X.K D a dd) := by
  intro pins s σ H xs us Q I r h
  obtain ⟨c, cv, b, fs, rfl, hx, hcv, e, q⟩ := h
  cases r with
  | cons rx rr =>
  cases rr with
  | cons rt rr =>
  cases rr
  cases rx
  obtain rfl := hcv _ rt
  have here := (I.pin (a, oe) (List.mem_append_left _ List.mem_cons_self)).1
  obtain ⟨vs, hv⟩ := hf
  have ok : ObjOk X.prog X.w H s.heap dd (.xd fs) := I.hok dd _ hx
  obtain ⟨m, hns, _⟩ := ok
  obtain ⟨od, ho, _⟩ := lookIn_ns hns
  have J : PySem.W.InstAt s.heap a oe D (some od) := ⟨here, hz.1, by unfold PySem.W.notCls; rw [hv] <;> rfl, by rw [hz.2]; exact ho⟩
  have cl : (PySem.W.clsIn X.K D).isSome = true := by
    obtain ⟨cd, hc, _⟩ := PySem.W.any_some C.hd
    rw [hc]
    rfl
  exact PySem.W.kia_one (PySem.W.kitx_exc cl C.hg C.hk C.hs C.ha C.hn C.ht C.hm) I.kIn J e (fun z => nomatch z) fun tk => ⟨.bl b, H, I.kept (t' := tk) fun _ _ z => z, rfl, q⟩
end G

/-! Promises of defs where nothing is being shown by repr: their calls. -/
namespace G
open PySem PySem.Spec PyProof.Rows L2
/-- as FnOk, but only within surroundings in which no repr runs -/
structure FnOkG (P : Program) (w : World) (K : PySem.W.Frag) (mg : Str → Option Value) (base : Heap) (CX : CXT) (k : Nat) (f : Addr) (fd : FuncData) (ps : List Str) (sp : Sp) : Prop where
  len : ∀ vs H Q E, sp vs H Q E → vs.length = ps.length
  run : ∀ (A : Around) (outer : List Env) (s : Shared) (H : Hp) (args : Args) (us : List Value) (vs : List V) (Q : VK) (E : XK), Room k A → A.guards = some [] → Env0 P w K mg base A outer s H → BindsTo s fd args (ps.zip us) → Vals vs us → sp vs H Q E →
    codeAny (model P w) A (.call (.ref f) args) (CR CX outer P w H s Q E) s
section
variable {P : Program} {w : World} {K : PySem.W.Frag} {mg : Str → Option Value} {base : Heap} {CX : CXT} {k : Nat} {f : Addr} {fd : FuncData} {ps : List Str} {sp : Sp}
theorem FnOkG.of (F : FnOk P w K mg base CX k f fd ps sp) : FnOkG P w K mg base CX k f fd ps sp := ⟨F.len, fun A o s H args us vs Q E r _ => F.run A o s H args us vs Q E r⟩
/-- a def's body, where nothing is being shown -/
theorem fun_okG {nm ql : Str} {st : Stmt} {N : List Str} {k : Nat} (T : Fun K nm ql st f fd) (S : FnScope N ps (defScope st)) (len : ∀ vs H Q E, sp vs H Q E → vs.length = ps.length)
    (body : ∀ (cdv : Value) (A : Around) (outer : List Env) (s : Shared) (H : Hp) (vs : List V) (Q : VK) (E : XK), A.guards = some [] → Room k (A.deeper (envOfC ql (defScope st) s.heap.objs.size f cdv)) → sp vs H Q E →
      ∃ t, PSs (cxOf CX P w K mg base N ql (defScope st) f cdv A outer s H E) (defBody st) t ∧ t { nx := fun _ G => Q .non G, rt := Q } (start N vs) H) : FnOkG P w K mg base CX (k + 1) f fd ps sp := by
  obtain ⟨oc, od, kV, doc, pm, an, cdv, ct, osl, rfl, look, code⟩ := T.ex
  exact ⟨len, fun A outer s H args us vs Q E r g e0 b rv h => LamX.run_ofS look code S r e0 b rv (len _ _ _ _ h) fun r2 => body cdv A outer s H vs Q E g r2 h⟩
end
section
variable {X : Cx} {CX : CXT} {k : Nat} {f : Addr} {fd : FuncData} {ps : List Str} {sp : Sp} {dvs : List V} {ds : List Value} {E : XK} {x : Str} {p pos : Pos} {e : Expr} {es : List Expr} {t : TA}
theorem run_G {pins : List (Addr × Obj)} {σ : L2.St} {H : Hp} {s : Shared} {Q : VK} {us : List Value} {vs : List V} (F : FnOkG X.prog X.w X.K X.mg X.base CX k f fd ps sp) (g : X.A.guards = some []) (hr : Room k X.A) (b : Binds X.K fd ps ds) (d : Vals dvs ds) (pass : Passes CX X E)
    (I : Inv X pins σ H s) (r : Vals vs us) (h : sp (vs ++ dvs) H Q E) : wpAny (model X.prog X.w) X.A (call (.ref f) us) (EP X pins σ Q) X.xe s := by
  have r2 : Vals (vs ++ dvs) (us ++ ds) := r.append d
  have n : (us ++ ds).length = ps.length := r2.length ▸ F.len _ _ _ _ h
  refine wpAny_call (codeAny_mono (F.run _ _ _ _ ⟨us, []⟩ _ _ _ _ hr g I.env0 (b s us I.kIn n) r2 h) fun res z q => ?_)
  match res, q with
  | .error e, q => exact pass pins σ H s e z I q
  | .ok (.ret u), q => exact I.after q
theorem pe_callG (F : FnOkG X.prog X.w X.K X.mg X.base CX k f fd ps sp) (g : X.A.guards = some []) (hr : Room k X.A) (gl : Gl X x) (hm : X.mg x = some (.ref f)) (kp : PySem.W.keepIn X.K (.ref f) = true) (b : Binds X.K fd ps ds) (d : Vals dvs ds) (pass : Passes CX X E) (ha : PA X (e :: es) t)
    (nd : (x == ("__debug__" : Str)) = false := by decide) (st : starEach (e :: es) X.env = (false, eval e X.env) :: starEach es X.env := by rfl) (pl : (backTo pos (starEach es X.env)).any (·.1) = false := by rfl) : PE X (.Call (.Name x p) (e :: es) [] pos) (tCall sp dvs E t) := by
  constructor
  intro pins s σ H Q I h
  refine wpAny_Call_Name_kw (ld_glob I gl hm (PySem.W.callWith_K (h₀ := X.base) I.ok.mod.kin kp (wpAny_mono (ha.run pos pins s σ H _ I h) (fun us s1 z => ?_) fun _ _ z => z) st pl) nd)
  obtain ⟨vs, H1, J, r, q⟩ := z
  exact ⟨J.kIn, run_G F g hr b d pass J r q⟩
end
end G

/-! What was due. -/
namespace LW
open PySem L2 G
abbrev sTold : Stmt := top 52
abbrev sDue : Stmt := top 55
/-- a datum that is shown by a text of bounded length -/
def Fit (d : PyData) : Prop := d.showable = true ∧ d.depth ≤ 20 ∧ d.shown.length ≤ 300000
theorem fit_repr {K : PySem.W.Frag} {H : Hp} {v : V} {d : PyData} {Q : VK} (h : Da K H v d) (f : Fit d) (q : Q (.str d.shown) H) : rRepr K [v] H Q :=
  ⟨v, d, rfl, h, f.1, by have := f.2.1; omega, by have := f.2.2; rw [sizeLine_eq]; omega, q⟩
/-- the row that tells of an error: its kind, the value shown -/
def rowE (k : Str) (d : PyData) : List V := [.str k, .str d.shown, .bl true]
def isNoneD : PyData → Bool
  | .none => true
  | _ => false
theorem isNoneD_iff {d : PyData} : isNoneD d = true ↔ d = .none := by cases d <;> simp [isNoneD]
/-- what is due -/
def dueO (d1 d2 d3 d4 d5 : PyData) : Option (Str × PyData) :=
  if isWordD d1 = false then some ("word", d1) else if subjD d2 = false then some ("subject", d2) else if isStretchD d3 = false then some ("stretch", d3) else if (isNoneD d4 || isStretchD d4) = false then some ("stretch", d4) else if isTimesD d5 = true then none else some ("times", d5)
def spDue (K : PySem.W.Frag) : Sp := fun vs H Q _ => ∃ (v1 v2 v3 v4 v5 : V) (d1 d2 d3 d4 d5 : PyData), vs = [v1, v2, v3, v4, v5] ∧ Da K H v1 d1 ∧ Da K H v2 d2 ∧ Da K H v3 d3 ∧ Da K H v4 d4 ∧ Da K H v5 d5 ∧ okStr d1 ∧ okSub d2 ∧ Fit d1 ∧ Fit d2 ∧ Fit d3 ∧ Fit d4 ∧ Fit d5 ∧
  ∀ (v : V) (H' : Hp), Same H H' → (match dueO d1 d2 d3 d4 d5 with | none => v = .non | some (k, d) => ∃ q, v = .ref q ∧ H' q = some (.tup (rowE k d))) → Q v H'
section
variable {P : Program} {w : World} {K : PySem.W.Frag} {mg : Str → Option Value} {base : Heap}
variable {fW fC fS fT : Addr} {fdW fdC fdS fdT : FuncData}
theorem scDue : FnScope ["_law_who", "_law_goal", "_law_tags_here", "_law_span_here", "_law_often"] ["_law_who", "_law_goal", "_law_tags_here", "_law_span_here", "_law_often"] (defScope sDue) := ⟨rfl, rfl, rfl, by decide +kernel, rfl, by decide +kernel, by decide +kernel⟩
theorem ok_due {f : Addr} {fd : FuncData} (F : Fun K "_law_due" "_law_due" sDue f fd) (re : mg "repr" = none)
    (GW : FnOk P w K mg base CX0 1 fW fdW ["_law_thing"] (spIsWord K)) (mW : mg "_law_is_word" = some (.ref fW)) (kW : PySem.W.keepIn K (.ref fW) = true) (bW : Binds K fdW ["_law_thing"] [])
    (GC : FnOk P w K mg base CX0 3 fC fdC ["_law_thing"] (spSubject K)) (mC : mg "_law_is_goal" = some (.ref fC)) (kC : PySem.W.keepIn K (.ref fC) = true) (bC : Binds K fdC ["_law_thing"] [])
    (GS : FnOk P w K mg base CX0 2 fS fdS ["_law_thing"] (spIsStretch K)) (mS : mg "_law_is_stretch" = some (.ref fS)) (kS : PySem.W.keepIn K (.ref fS) = true) (bS : Binds K fdS ["_law_thing"] [])
    (GT : FnOk P w K mg base CX0 1 fT fdT ["_law_thing"] (spIsTimes K)) (mT : mg "_law_is_passes" = some (.ref fT)) (kT : PySem.W.keepIn K (.ref fT) = true) (bT : Binds K fdT ["_law_thing"] []) :
    FnOkG P w K mg base CX0 4 f fd ["_law_who", "_law_goal", "_law_tags_here", "_law_span_here", "_law_often"] (spDue K) := by
  refine fun_okG F scDue (fun vs H Q E h => ?_) (fun cdv A outer s H vs Q E hg hr h => ?_)
  · obtain ⟨v1, v2, v3, v4, v5, d1, d2, d3, d4, d5, rfl, _⟩ := h
    rfl
  · obtain ⟨v1, v2, v3, v4, v5, d1, d2, d3, d4, d5, rfl, h1, h2, h3, h4, h5, o1, o2, f1, f2, f3, f4, f5, k⟩ := h
    have hu := hr.units
    have g2 : (A.deeper (PyProof.Rows.envOfC "_law_due" (defScope sDue) s.heap.objs.size f cdv)).guards = some [] := hg
    have row3 : ∀ {σ : L2.St} {H' : Hp} {i : Nat} {v : V} {d : PyData} {kd : Str} {R : VK}, σ[i]? = some (some v) → Da K H' v d → Fit d → (∀ q, H' q = none → R (.ref q) (upd H' q (.tup (rowE kd d)))) →
        tTup (tCons (tC (.str kd)) (tCons (fun σ H Q => tCons (tVar i) tNil σ H fun vs H1 => rRepr K vs H1 Q) (tCons (tC (.bl true)) tNil))) σ H' R := fun {σ H' i v d kd R} e hd hf q => by
      refine ⟨_, e, ?_⟩
      exact fit_repr (Q := fun x G => [V.str kd, x, V.bl true].length ≤ sizeLine ∧ ∀ p, G p = none → R (.ref p) (upd G p (.tup [V.str kd, x, V.bl true]))) hd hf ⟨by show 3 ≤ sizeLine; decide, fun p hp => q p hp⟩
    refine ⟨_, pss_cons (ps_if (pt_not (pt_val (pe_call GW (hr.mono (by decide)) (by rfl) mW kW bW .nil pass0 (pa_cons (pv 0) pa_nil)))) (pss_one (ps_ret (pe_tup (pa_cons pe_str (pa_cons (pe_callB (call_repr g2 hu) (by rfl) re (by decide +kernel) (pa_cons (pv 0) pa_nil)) (pa_cons pe_bl pa_nil)))))) pss_nil)
      (pss_cons (ps_if (pt_not (pt_val (pe_call GC hr (by rfl) mC kC bC .nil pass0 (pa_cons (pv 1) pa_nil)))) (pss_one (ps_ret (pe_tup (pa_cons pe_str (pa_cons (pe_callB (call_repr g2 hu) (by rfl) re (by decide +kernel) (pa_cons (pv 1) pa_nil)) (pa_cons pe_bl pa_nil)))))) pss_nil)
      (pss_cons (ps_if (pt_not (pt_val (pe_call GS (hr.mono (by decide)) (by rfl) mS kS bS .nil pass0 (pa_cons (pv 2) pa_nil)))) (pss_one (ps_ret (pe_tup (pa_cons pe_str (pa_cons (pe_callB (call_repr g2 hu) (by rfl) re (by decide +kernel) (pa_cons (pv 2) pa_nil)) (pa_cons pe_bl pa_nil)))))) pss_nil)
      (pss_cons (ps_if (PW.pt (pw_and (pt_cmpR op_notN (pv 3) pe_non (nomark _)) (pw_and1 (pt_not (pt_val (pe_call GS (hr.mono (by decide)) (by rfl) mS kS bS .nil pass0 (pa_cons (pv 3) pa_nil))))))) (pss_one (ps_ret (pe_tup (pa_cons pe_str (pa_cons (pe_callB (call_repr g2 hu) (by rfl) re (by decide +kernel) (pa_cons (pv 3) pa_nil)) (pa_cons pe_bl pa_nil)))))) pss_nil)
      (pss_one (ps_ret (pe_ifExp (pt_val (pe_call GT (hr.mono (by decide)) (by rfl) mT kT bT .nil pass0 (pa_cons (pv 4) pa_nil))) pe_non
        (pe_tup (pa_cons pe_str (pa_cons (pe_callB (call_repr g2 hu) (by rfl) re (by decide +kernel) (pa_cons (pv 4) pa_nil)) (pa_cons pe_bl pa_nil)))))))))), ?_⟩
    refine ⟨_, rfl, v1, d1, rfl, h1, o1, fun H1 S1 => ⟨_, rfl, ?_⟩⟩
    cases w1 : isWordD d1 with
    | false =>
      refine iteT (row3 (i := 0) rfl (h1.same S1) f1 fun q hq => k _ _ (S1.trans (same_new hq)) ?_)
      simp only [dueO, w1, if_true]
      exact ⟨q, rfl, upd_same⟩
    | true =>
    refine iteF ⟨_, rfl, v2, d2, rfl, h2.same S1, o2, fun H2 S2 => ⟨_, rfl, ?_⟩⟩
    have S02 := S1.trans S2
    cases w2 : subjD d2 with
    | false =>
      refine iteT (row3 (i := 1) rfl (h2.same S02) f2 fun q hq => k _ _ (S02.trans (same_new hq)) ?_)
      simp only [dueO, w1, w2, if_true, Bool.true_eq_false, if_false]
      exact ⟨q, rfl, upd_same⟩
    | true =>
    refine iteF ⟨_, rfl, v3, d3, rfl, h3.same S02, _, rfl, ?_⟩
    cases w3 : isStretchD d3 with
    | false =>
      refine iteT (row3 (i := 2) rfl (h3.same S02) f3 fun q hq => k _ _ (S02.trans (same_new hq)) ?_)
      simp only [dueO, w1, w2, w3, if_true, Bool.true_eq_false, if_false]
      exact ⟨q, rfl, upd_same⟩
    | true =>
    have h42 := h4.same S02
    have h52 := h5.same S02
    have last : (isNoneD d4 || isStretchD d4) = true → tIf (tB (tCall (spIsTimes K) [] E0 (tCons (tVar 4) tNil))) (tC V.non) (tTup (tCons (tC (.str "times")) (tCons (fun σ H Q => tCons (tVar 4) tNil σ H fun vs H1 => rRepr K vs H1 Q) (tCons (tC (.bl true)) tNil)))) [some v1, some v2, some v3, some v4, some v5] H2 Q := fun z => by
      refine ⟨_, rfl, v5, d5, rfl, h52, _, rfl, ?_⟩
      cases w5 : isTimesD d5 with
      | true =>
        refine iteT (k .non _ S02 ?_)
        simp only [dueO, w1, w2, w3, w5, z, Bool.true_eq_false, if_false, if_true]
      | false =>
        refine iteF (row3 (i := 4) rfl h52 f5 fun q hq => k _ _ (S02.trans (same_new hq)) ?_)
        simp only [dueO, w1, w2, w3, w5, z, Bool.true_eq_false, Bool.false_eq_true, if_false]
        exact ⟨q, rfl, upd_same⟩
    refine iteF ⟨_, rfl, rfl, _, rfl, ?_⟩
    by_cases z : d4 = .none
    · subst z
      cases h42
      refine iteF ?_
      exact last rfl
    · have nv : v4 ≠ V.non := fun y => by
        subst y
        cases h42
        exact z rfl
      rw [decide_eq_false nv]
      refine iteT ⟨_, rfl, v4, d4, rfl, h42, _, rfl, ?_⟩
      cases w4 : isStretchD d4 with
      | true =>
        refine iteF ?_
        exact last (by rw [w4, Bool.or_true])
      | false =>
        have z3 : isNoneD d4 = false := by
          cases z4 : isNoneD d4 with
          | true => exact absurd (isNoneD_iff.mp z4) z
          | false => rfl
        refine iteT (row3 (i := 3) rfl h42 f4 fun q hq => k _ _ (S02.trans (same_new hq)) ?_)
        simp only [dueO, w1, w2, w3, w4, z3, Bool.or_self, Bool.true_eq_false, if_false, if_true]
        exact ⟨q, rfl, upd_same⟩
end
end LW

/-! What a call told: its value, or a row for each of four errors. -/
namespace LW
open PySem L2 G
/-- what the written part says of an error class in a clause -/
structure CaughtC (K : PySem.W.Frag) (C : Addr) : Prop where
  xf : XfC K C
  ex : ExcC K C
  nf : PySem.W.findIn K (.ref C) "value" = some none
  ve : PySem.W.kitOne K (.ref C) (.type "ValueError") = some true
/-- the wish of the call within the try -/
def wTold (K : PySem.W.Frag) (l : List (Addr × Str)) (Q : VK) : XK := fun cls d H => ∃ (C : Addr) (kd : Str) (dd : Addr) (v : V) (dat : PyData), (C, kd) ∈ l ∧ cls = .ref C ∧ d = some dd ∧ H dd = some (.xd [("value", v)]) ∧ Da K H v dat ∧ Fit dat ∧ ∀ q, H q = none → Q (.ref q) (upd H q (.tup (rowE kd dat)))
def TTold (K : PySem.W.Frag) (l : List (Addr × Str)) : (XK → Hp → VK → Prop) → Hp → VK → Prop := fun tl H Q => tl (wTold K l Q) H Q
section
variable {X : Cx} {CW CJ CS CT : Addr}
/-- the suite of a clause -/
def tsTold (K : PySem.W.Frag) (kd : Str) : Suit := fun a cls d D σ H => ∃ (C dd : Addr) (v : V) (dat : PyData), cls = .ref C ∧ d = some dd ∧ (∃ τ : L2.St, σ = τ.set 1 (some (.ref a))) ∧ H dd = some (.xd [("value", v)]) ∧ Da K H v dat ∧ Fit dat ∧ CaughtC K C ∧ ∀ q, H q = none → D.rt (.ref q) (upd H q (.tup (rowE kd dat)))
theorem suite_told {Y : Cx} {kd : Str} {a : Addr} {oe : Obj} {k : Value} {d : Option Addr} {pn : List (Addr × Obj)} {jk : Nat} {p1 p2 p3 p4 p5 p6 p7 p8 p9 p10 p11 : Pos} {ctx : Nat} (gu : (Y.suite a ((a, oe) :: pn)).A.guards = some []) (hu : (Y.suite a ((a, oe) :: pn)).A.units + 64 < cLine)
    (re : Y.mg "repr" = none) (is : Y.mg "isinstance" = none) (ve : Y.mg "ValueError" = none) (g1 : Gl Y "repr") (g2 : Gl Y "isinstance") (g3 : Gl Y "ValueError") (nl : Y.N.length = 2) (nm : Y.N[1]? = some (Str.ofString "e")) (vis : Vis Y.env.scope "e") (hz : Zc k d oe) (hf : ∃ vs, oe.data = .fields vs) :
    PSs (Y.suite a ((a, oe) :: pn)) [.Return (some (.Tuple [.Constant (.str kd) jk p1, .Call (.Name "repr" p2) [.Attribute (.Name "e" p3) "value" p4] [] p5, .Call (.Name "isinstance" p6) [.Name "e" p7, .Name "ValueError" p8] [] p9] ctx p10)) p11] (tsTold Y.K kd a k d) := by
  refine ⟨fun pins s σ H D I h => ?_⟩
  obtain ⟨C, dd, v, dat, rfl, rfl, ⟨τ, eτ⟩, hdd, hd, hfit, cC, q⟩ := h
  have e1 : σ[1]? = some (some (V.ref a)) := by
    have l : σ.length = Y.N.length := I.len
    rw [eτ, List.length_set, nl] at l
    rw [eτ, List.getElem?_set_self (by omega)]
  have nmS : (Y.suite a ((a, oe) :: pn)).N[1]? = some (Str.ofString "e") := nm
  have visS : Vis (Y.suite a ((a, oe) :: pn)).env.scope (Str.ofString "e") := vis
  refine (pss_one (ps_ret (pe_tup (pa_cons pe_str (pa_cons (pe_callB (call_repr gu hu) g1 re (by decide +kernel) (pa_cons (pe_xf cC.xf cC.nf hz hf (pe_var (i := 1) nmS visS)) pa_nil))
    (pa_cons (pe_callB (call_isX cC.ex hz hf) g2 is (by decide +kernel) (pa_cons (pe_var (i := 1) nmS visS) (pa_cons (pe_bltn (v := .ty "ValueError") g3 ve (by decide +kernel) rfl) pa_nil))) pa_nil)))))).run pins s σ H D I ?_
  refine ⟨_, e1, rfl, rfl, dd, _, v, rfl, hdd, by simp [List.lookup], ?_⟩
  refine fit_repr (Q := fun x G => ∃ v2, σ[1]? = some (some v2) ∧ rIsX Y.K C a dd [v2, .ty "ValueError"] G fun y G2 => [V.str kd, x, y].length ≤ sizeLine ∧ ∀ p, G2 p = none → D.rt (.ref p) (upd G2 p (.tup [V.str kd, x, y]))) hd hfit ?_
  exact ⟨_, e1, .ty "ValueError", .type "ValueError", true, _, rfl, hdd, fun u r => r, cC.ve, by show 3 ≤ sizeLine; decide, fun p hp => q p hp⟩
theorem told_gives {q : Str} {g : Addr} {cdg : Value} (gu : X.A.guards = some []) (hu : X.A.units + 80 < cLine) (re : X.mg "repr" = none) (is : X.mg "isinstance" = none) (ve : X.mg "ValueError" = none)
    (gW : X.mg "InvalidWord" = some (.ref CW)) (gJ : X.mg "InvalidSubject" = some (.ref CJ)) (gS : X.mg "InvalidStretch" = some (.ref CS)) (gT : X.mg "InvalidTimes" = some (.ref CT)) (cW : CaughtC X.K CW) (cJ : CaughtC X.K CJ) (cS : CaughtC X.K CS) (cT : CaughtC X.K CT)
    (xWW : PySem.W.exmOne X.K (.ref CW) (.ref CW) = some true) (xJW : PySem.W.exmOne X.K (.ref CJ) (.ref CW) = some false) (xJJ : PySem.W.exmOne X.K (.ref CJ) (.ref CJ) = some true) (xSW : PySem.W.exmOne X.K (.ref CS) (.ref CW) = some false) (xSJ : PySem.W.exmOne X.K (.ref CS) (.ref CJ) = some false) (xSS : PySem.W.exmOne X.K (.ref CS) (.ref CS) = some true) (xTW : PySem.W.exmOne X.K (.ref CT) (.ref CW) = some false) (xTJ : PySem.W.exmOne X.K (.ref CT) (.ref CJ) = some false) (xTS : PySem.W.exmOne X.K (.ref CT) (.ref CS) = some false) (xTT : PySem.W.exmOne X.K (.ref CT) (.ref CT) = some true) :
    LamX.GivesTo X ["_law_call", "e"] "_law_told" (defScope sTold) g cdg (defBody sTold) "_law_call" q (TTold X.K [(CW, "word"), (CJ, "subject"), (CS, "stretch"), (CT, "times")]) := by
  intro f c' s H Q tl act hc h
  have nd : ([Str.ofString "_law_call", Str.ofString "e"] : List Str).Nodup := by decide +kernel
  let Y : Cx := (cxOf C8.CX0 X.prog X.w X.K X.mg X.base ["_law_call", "e"] "_law_told" (defScope sTold) g cdg X.A X.stack s H C8.E0).nox
  have uY : ∀ (a : Addr) (pn : List (Addr × Obj)), (Y.suite a pn).A.units + 64 < cLine := fun a pn => by
    show X.A.units + 3 + 64 < cLine
    omega
  have gY : ∀ (a : Addr) (pn : List (Addr × Obj)), (Y.suite a pn).A.guards = some [] := fun a pn => gu
  refine ⟨_, pss_one (ps_clauses (X := Y) (Wo := fun _ _ _ _ => False)
      (tb := fun W D σ H => ∃ Ech : XK, (∀ cls d σ' H', Ech cls d H' → W cls d σ' H') ∧ σ[0]? = some (some (.ref f)) ∧ H c' = some (LamX.CodeO c' q) ∧ tl Ech H D.rt)
      rfl rfl nd LamX.takes0 (fun W pn xe tk _ => ?_)
      (.next (c := .ref CW) (i := 1) (ts := tsTold X.K "word") ⟨rfl, by decide +kernel, .inl gW⟩ rfl rfl (fun a oe k d pn hz hf => suite_told (Y := Y) (gY _ _) (uY _ _) re is ve rfl rfl rfl rfl rfl (.inl rfl) hz hf)
      (.next (c := .ref CJ) (i := 1) (ts := tsTold X.K "subject") ⟨rfl, by decide +kernel, .inl gJ⟩ rfl rfl (fun a oe k d pn hz hf => suite_told (Y := Y) (gY _ _) (uY _ _) re is ve rfl rfl rfl rfl rfl (.inl rfl) hz hf)
      (.next (c := .ref CS) (i := 1) (ts := tsTold X.K "stretch") ⟨rfl, by decide +kernel, .inl gS⟩ rfl rfl (fun a oe k d pn hz hf => suite_told (Y := Y) (gY _ _) (uY _ _) re is ve rfl rfl rfl rfl rfl (.inl rfl) hz hf)
      (.next (c := .ref CT) (i := 1) (ts := tsTold X.K "times") ⟨rfl, by decide +kernel, .inl gT⟩ rfl rfl (fun a oe k d pn hz hf => suite_told (Y := Y) (gY _ _) (uY _ _) re is ve rfl rfl rfl rfl rfl (.inl rfl) hz hf) .done))))), ?_⟩
  · refine ⟨fun pins s2 σ2 H2 D I h2 => ?_⟩
    obtain ⟨Ech, hW, a1, a2, a3⟩ := h2
    exact (pss_one (ps_ret (act W pn xe Ech _ _ tk hW))).run pins s2 σ2 H2 D I ⟨a1, a2, a3⟩
  · refine ⟨_, fun cls d σ2 H2 z => ?_, rfl, hc, h⟩
    obtain ⟨C, kd, dd, v, dat, m, rfl, rfl, hdd, hd, hfit, k⟩ := z
    simp only [List.mem_cons, Prod.mk.injEq, List.not_mem_nil, or_false] at m
    rcases m with ⟨rfl, rfl⟩ | ⟨rfl, rfl⟩ | ⟨rfl, rfl⟩ | ⟨rfl, rfl⟩
    · refine ⟨true, xWW, fun _ a na => ⟨C, dd, v, dat, rfl, rfl, ⟨σ2, rfl⟩, hdd, hd, hfit, cW, k⟩, fun z => by cases z⟩
    · refine ⟨false, xJW, (fun z => by cases z), fun _ => ⟨true, xJJ, fun _ a na => ⟨C, dd, v, dat, rfl, rfl, ⟨σ2, rfl⟩, hdd, hd, hfit, cJ, k⟩, fun z => by cases z⟩⟩
    · refine ⟨false, xSW, (fun z => by cases z), fun _ => ⟨false, xSJ, (fun z => by cases z), fun _ => ⟨true, xSS, fun _ a na => ⟨C, dd, v, dat, rfl, rfl, ⟨σ2, rfl⟩, hdd, hd, hfit, cS, k⟩, fun z => by cases z⟩⟩⟩
    · refine ⟨false, xTW, (fun z => by cases z), fun _ => ⟨false, xTJ, (fun z => by cases z), fun _ => ⟨false, xTS, (fun z => by cases z), fun _ => ⟨true, xTT, fun _ a na => ⟨C, dd, v, dat, rfl, rfl, ⟨σ2, rfl⟩, hdd, hd, hfit, cT, k⟩, fun z => by cases z⟩⟩⟩⟩
end
end LW

namespace LW
open PySem L2 G
def spWords : Sp := fun vs H Q _ => ∃ (p c : Addr) (cells : List Int) (t l many : Int), vs = [.ref p, .int many] ∧ PenAt H p c cells t l ∧ t ≤ 800000 ∧ 0 ≤ many ∧ many ≤ 26 ∧
  ∀ (q : Addr) (ws : List Str) (t' l' : Int) (H' : Hp), (ws.length : Int) = many → (∀ y ∈ ws, WordQ y) → ws.Nodup → H' q = some (.lst (ws.map V.str)) → H q = none → t' ≤ t + 9 → PenAt H' p c cells t' l' → Old p H H' → Q (.ref q) H'
section
variable {P : Program} {w : World} {K : PySem.W.Frag} {mg : Str → Option Value} {base : Heap}
variable {fD fK : Addr} {fdD fdK : FuncData}
abbrev nmW : List Str := ["_law_pen_here", "_law_many", "_law_letters", "_law_stem", "_law_at", "_law_first", "_law_step", "_law_k"]
theorem scWords : FnScope ["_law_pen_here", "_law_many", "_law_letters", "_law_stem", "_law_at", "_law_first", "_law_step", "_law_k"] ["_law_pen_here", "_law_many"] (defScope sWords) := ⟨rfl, rfl, rfl, by decide +kernel, rfl, by decide +kernel, by decide +kernel⟩
theorem PenAt.put {H : Hp} {p c D : Addr} {cells : List Int} {t l : Int} {o : HO} (N : PenAt H p c cells t l) (n1 : D ≠ p) (n2 : D ≠ c) : PenAt (upd H D o) p c cells t l :=
  ⟨by rw [upd_ne n1.symm]; exact N.pen, by rw [upd_ne n2.symm]; exact N.lst, N.few, N.t0⟩
theorem flat_q {sts : List Str} (h : ∀ y ∈ sts, ∃ x, y = ⟨#[x]⟩ ∧ LetterQ x) : (∀ c ∈ (sts.map (·.cps.toList)).flatten, LetterQ c) ∧ ((sts.map (·.cps.toList)).flatten).length = sts.length ∧ (sts.map (·.length)).sum = sts.length := by
  induction sts with
  | nil => exact ⟨by simp, rfl, rfl⟩
  | cons a r ih =>
    obtain ⟨i1, i2, i3⟩ := ih fun y hy => h y (List.mem_cons_of_mem _ hy)
    obtain ⟨x, rfl, hx⟩ := h a List.mem_cons_self
    refine ⟨fun c hc => ?_, ?_, ?_⟩
    · simp only [List.map_cons, List.flatten_cons, List.mem_append, List.mem_singleton] at hc
      rcases hc with rfl | hc
      · exact hx
      · exact i1 c hc
    · simp only [List.map_cons, List.flatten_cons, List.length_append, i2, List.length_cons, List.length_nil]
      omega
    · simp only [List.map_cons, List.sum_cons, i3, List.length_cons]
      show 1 + r.length = _
      omega
theorem ok_words {f : Addr} {fd : FuncData} (F : Fun K "_law_words" "_law_words" sWords f fd) (T : Bt mg) (R : mg "range" = none)
    (GD : FnOk P w K mg base CX0 1 fD fdD ["_law_pen_here", "_law_many"] spDraw) (mD : mg "_law_draw" = some (.ref fD)) (kD : PySem.W.keepIn K (.ref fD) = true) (bD : Binds K fdD ["_law_pen_here", "_law_many"] [])
    (GK : FnOk P w K mg base CX0 2 fK fdK ["_law_pen_here", "_law_options"] (spPick K)) (GP : FnOk P w K mg base CX0 2 fK fdK ["_law_pen_here", "_law_options"] spPickS) (mK : mg "_law_pick" = some (.ref fK)) (kK : PySem.W.keepIn K (.ref fK) = true) (bK : Binds K fdK ["_law_pen_here", "_law_options"] []) :
    FnOk P w K mg base CX0 3 f fd ["_law_pen_here", "_law_many"] spWords := by
  refine F.ok scWords (fun vs H Q E h => ?_) (fun cdv A outer s H vs Q E hr h => ?_)
  · obtain ⟨p, c, cells, t, l, many, rfl, _⟩ := h
    rfl
  · obtain ⟨p, c, cells, t, l, many, rfl, N, ht, m0, m1, k⟩ := h
    refine ⟨_, pss_cons (ps_set (i := 2) scWords.nd rfl (Or.inr rfl) pe_str)
      (pss_cons (ps_set (i := 3) scWords.nd rfl (Or.inr rfl) (pe_join pe_str (pe_lc (own := [("_law_k", 7)]) (g := gName 7) (tt := tYes) rfl scWords.nd (pi_range1 rfl R (pa_cons (pe_call GD (hr.mono (by decide)) (by rfl) mD kD bD .nil pass0 (pa_cons (pv 0) (pa_cons pe_int pa_nil))) pa_nil))
          (blkOk_by (own := [("_law_k", 7)]) (N := nmW) (sc := defScope sWords) (by decide +kernel))
          (fun _ _ _ _ _ => pg_name (i := 7) scWords.nd rfl (Or.inl rfl)) (fun _ _ _ _ _ => pts_nil) (fun _ _ _ _ _ => pe_call GP hr (by rfl) mK kK bK .nil pass0 (pa_cons (pv 0) (pa_cons (pv 2) pa_nil))))))
      (pss_cons (ps_asg (pe_tup
          (pa_cons (pe_call GD (hr.mono (by decide)) (by rfl) mD kD bD .nil pass0 (pa_cons (pv 0) (pa_cons (pe_op op_add (pe_callB call_len (by rfl) T.len PySem.boot_len (pa_cons (pv 3) pa_nil)) pe_int) pa_nil)))
          (pa_cons (pe_call GD (hr.mono (by decide)) (by rfl) mD kD bD .nil pass0 (pa_cons (pv 0) (pa_cons pe_int pa_nil)))
          (pa_cons (pe_call GK hr (by rfl) mK kK bK .nil pass0 (pa_cons (pv 0) (pa_cons (pe_lst (pa_cons pe_int (pa_cons pe_int (pa_cons pe_int (pa_cons pe_int (pa_cons pe_int (pa_cons pe_int pa_nil))))))) pa_nil))) pa_nil)))) (pg_tup (n := 3) rfl (pgs_cons (pg_name (i := 4) scWords.nd rfl (Or.inr rfl)) (pgs_cons (pg_name (i := 5) scWords.nd rfl (Or.inr rfl)) (pgs_cons (pg_name (i := 6) scWords.nd rfl (Or.inr rfl)) pgs_nil)))))
      (pss_one (ps_ret (pe_slice sl_list (pe_lc (own := [("_law_k", 7)]) (g := gName 7) (tt := tYes) rfl scWords.nd (pi_range1 rfl R (pa_cons pe_int pa_nil))
          (blkOk_by (own := [("_law_k", 7)]) (N := nmW) (sc := defScope sWords) (by decide +kernel))
          (fun _ _ _ _ _ => pg_name (i := 7) scWords.nd rfl (Or.inl rfl)) (fun _ _ _ _ _ => pts_nil)
          (fun _ _ _ _ _ => pe_op op_add_str (pe_op op_add_str (pe_slice sl_str (pv 3) po_none (po_some (pv 4))) (pe_ix ix_str (pv 2) (pe_op op_modN (pe_callTy call_int1 (by rfl) T.int (by decide +kernel) (pa_cons (pe_op op_add (pv 5) (pe_op op_mul (pv 6) (pv 7))) pa_nil)) pe_int) (fun _ _ => rfl)))
            (pe_slice sl_str (pv 3) (po_some (pv 4)) po_none))) po_none (po_some (pv 1))))))), ?_⟩
    have t0 := N.t0
    refine ⟨⟨_, rfl⟩, _, rfl, p, c, cells, t, l, 6, rfl, N, by omega, by omega, by omega, fun n t1 l1 H1 n0 n1 ht1 N1 old1 => ?_⟩
    refine ⟨n, rfl, by omega, by omega, fun D hD => ?_⟩
    have npD := N1.ne hD
    have ncD : D ≠ c := fun z => by rw [z, N1.lst] at hD; cases hD
    refine lc_range (n := n.toNat) (fun i G => ∃ sts : List Str, sts.length = i ∧ (∀ y ∈ sts, ∃ x, y = ⟨#[x]⟩ ∧ LetterQ x) ∧ G D = some (.lst (sts.map V.str)) ∧ ∃ t5 l5 : Int, PenAt G p c cells t5 l5 ∧ t5 ≤ t1 + i ∧ Old p H1 G)
      ⟨[], rfl, by simp, upd_same, t1, l1, N1.put npD ncD, by omega, Same.old (same_new hD)⟩ (fun i G hi h => ?_) (fun G h => ?_)
    · obtain ⟨sts, sl, sm, gD, t5, l5, N5, ht5, O5⟩ := h
      refine ⟨rfl, _, rfl, _, rfl, p, c, cells, t5, l5, letters, rfl, N5, by omega, by rw [letters_len]; omega, by rw [letters_len]; omega, fun x t6 l6 G6 hx ht6 N6 old6 => ?_⟩
      refine ⟨_, old6 _ _ gD npD, by rw [List.length_map, sizeLine_eq]; omega, ?_⟩
      refine ⟨sts ++ [⟨#[x]⟩], by simp [sl], fun z hz => ?_, by rw [upd_same, List.map_append]; rfl, t6, l6, N6.put npD ncD, by omega, fun b o e nb => by rw [upd_ne (ne_of_none e hD)]; exact old6 _ _ (O5 _ _ e nb) nb⟩
      rcases List.mem_append.mp hz with hz | hz
      · exact sm z hz
      · exact ⟨x, List.mem_singleton.mp hz, letter_mem hx⟩
    · obtain ⟨sts, sl, sm, gD, t5, l5, N5, ht5, O5⟩ := h
      obtain ⟨q1, q2, q3⟩ := flat_q sm
      have e0 : (Str.ofString "").length = 0 := by decide +kernel
      refine ⟨_, D, sts, rfl, rfl, .inl (SqL.of gD), by rw [q3, e0]; omega, ?_⟩
      have je : Txt.join (Str.ofString "") sts = Str.join (Str.ofString "") sts := StrLaws.glued_eq_join _ _
      have jl := join_list sts
      rw [← jl, len_list] at q2
      rw [← jl] at q1
      rw [je]
      revert q1 q2
      generalize Str.join (Str.ofString "") sts = z
      intro q1 q2
      have z5 : z.length ≤ 5 := by omega
      have zs : z.length ≤ sizeLine := by rw [sizeLine_eq]; omega
      have old5 : Old p H G := Old.trans old1 O5
      clear q3 sm gD jl je O5
      refine ⟨_, rfl, _, rfl, _, _, rfl, ⟨zs, rfl⟩, _, _, rfl, rfl, ?_⟩
      refine ⟨p, c, cells, t5, l5, _, rfl, N5, by omega, by omega, by omega, fun a t6 l6 H6 a0 a1 ht6 N6 old6 => ?_⟩
      refine ⟨_, rfl, p, c, cells, t6, l6, 26, rfl, N6, by omega, by omega, by omega, fun f t7 l7 H7 f0 f1 ht7 N7 old7 => ?_⟩
      refine ⟨_, rfl, (by show 6 ≤ sizeLine; decide), fun q hq => ?_⟩
      have s8 := same_new (o := .lst [V.int 1, .int 3, .int 5, .int 7, .int 9, .int 11]) hq
      refine ⟨p, c, q, cells, t7, l7, _, rfl, N7.same s8, by omega, upd_same, by simp, by simp, fun x t9 l9 H9 hx ht9 N9 old9 => ?_⟩
      have hst : ∃ st : Int, x = .int st ∧ (st = 1 ∨ st = 3 ∨ st = 5 ∨ st = 7 ∨ st = 9 ∨ st = 11) := by
        simp only [List.mem_cons, List.not_mem_nil, or_false] at hx
        rcases hx with rfl | rfl | rfl | rfl | rfl | rfl <;> exact ⟨_, rfl, by decide⟩
      obtain ⟨st, rfl, hst⟩ := hst
      have O9 : Old p H H9 := Old.trans old5 (Old.trans old6 (Old.trans old7 (Old.trans (Same.old s8) old9)))
      refine ⟨(by show 3 ≤ sizeLine; decide), fun q2' hq2 => ?_⟩
      have s10 := same_new (o := .tup [V.int a, .int f, .int st]) hq2
      have N10 := N9.same s10
      have O10 : Old p H _ := Old.trans O9 (Same.old s10)
      have g10 : (upd H9 q2' (.tup [V.int a, .int f, .int st])) q2' = some (.tup [V.int a, .int f, .int st]) := upd_same
      revert N10 O10 g10
      generalize upd H9 q2' (.tup [V.int a, .int f, .int st]) = H10
      intro N10 O10 g10
      refine ⟨q2', _, rfl, SqT.of g10, rfl, ?_⟩
      refine ⟨_, _, rfl, _, _, rfl, _, _, rfl, rfl, ?_⟩
      refine ⟨26, rfl, by decide, by decide, fun D2 hD2 => ?_⟩
      have npD2 := N10.ne hD2
      have ncD2 : D2 ≠ c := fun z => by rw [z, N10.lst] at hD2; cases hD2
      have a5 : a ≤ (z.length : Int) := by omega
      refine lc_range (n := 26) (fun i G2 => G2 D2 = some (.lst (((List.range i).map (wordAt z a f st)).map V.str)) ∧ PenAt G2 p c cells t9 l9 ∧ Old p H10 G2)
        ⟨upd_same, N10.put npD2 ncD2, Same.old (same_new hD2)⟩ (fun i G2 hi h => ?_) (fun G2 h => ?_)
      · obtain ⟨gD2, N11, O11⟩ := h
        have e0 : (0 : Int) + (i : Int) = i := Int.zero_add _
        have bd : -(2 ^ 64) < st ∧ st < 2 ^ 64 := by rcases hst with rfl | rfl | rfl | rfl | rfl | rfl <;> exact ⟨by decide, by decide⟩
        have ls : letters.length ≤ sizeLine := by rw [letters_len, sizeLine_eq]; decide
        have b := fm (i := f + st * (0 + (i : Int))) (j := 26) (by decide)
        have wl := wordAt_len (z := z) (f := f) (st := st) (k := i) a0 a5
        have w1 : (cutS z none (some a) ++ (⟨#[97 + ((f + st * (0 + (i : Int))).fmod 26).toNat]⟩ : Str)).length ≤ 7 := by
          have c1 := cutS_length z none (some a)
          rw [strLen_append]
          show _ + 1 ≤ 7
          omega
        have we : cutS z none (some a) ++ (⟨#[97 + ((f + st * (0 + (i : Int))).fmod 26).toNat]⟩ : Str) ++ cutS z (some a) none = wordAt z a f st i := by
          unfold wordAt
          rw [e0]
        have c1 := cutS_length z none (some a)
        have c2 := cutS_length z (some a) none
        refine ⟨rfl, _, rfl, _, rfl, _, rfl, z, rfl, zs, ?_⟩
        refine ⟨_, rfl, _, rfl, _, rfl, _, rfl, _, _, rfl, rfl, .inl bd, _, _, rfl, rfl, .inl ⟨_, rfl, _, _, rfl, rfl, (show (26 : Int) ≠ 0 by decide), ?_⟩⟩
        refine ⟨letters, _, _, rfl, rfl, ls, letter_at b.1 b.2, _, _, rfl, rfl, by rw [sizeLine_eq]; show _ + 1 ≤ _; omega, ?_⟩
        refine ⟨_, rfl, _, rfl, _, rfl, z, rfl, zs, _, _, rfl, rfl, by rw [sizeLine_eq]; omega, ?_⟩
        refine ⟨_, gD2, by rw [List.length_map, List.length_map, List.length_range, sizeLine_eq]; omega, ?_, N11.put npD2 ncD2, fun b o e nb => by rw [upd_ne (ne_of_none e hD2)]; exact O11 _ _ e nb⟩
        rw [upd_same, List.range_succ, List.map_append, List.map_append, we]
        rfl
      · obtain ⟨gD2, N11, O11⟩ := h
        refine ⟨_, rfl, _, rfl, D2, _, rfl, SqL.of gD2, fun q hq => ?_⟩
        have ct : cutV (((List.range 26).map (wordAt z a f st)).map V.str) none (some many) = ((List.range many.toNat).map (wordAt z a f st)).map V.str := by
          have e1 : HT.sIx (((List.range 26).map (wordAt z a f st)).map V.str).length 0 none = 0 := rfl
          have e2 := sIx_at (n := (((List.range 26).map (wordAt z a f st)).map V.str).length) (i := many) m0 (by rw [List.length_map, List.length_map, List.length_range]; omega) (((List.range 26).map (wordAt z a f st)).map V.str).length
          unfold cutV
          rw [e1, e2, List.drop_zero, Nat.sub_zero, ← List.map_take, ← List.map_take, List.take_range]
          rw [show min many.toNat 26 = many.toNat by omega]
        rw [ct] at *
        refine k q ((List.range many.toNat).map (wordAt z a f st)) t9 l9 _ (by rw [List.length_map, List.length_range]; omega) (fun y hy => ?_) (words_nodup a0 a5 hst _ (by omega)) upd_same ?_ (by omega) ?_ ?_
        · obtain ⟨j, hj, rfl⟩ := List.mem_map.mp hy
          exact wordAt_q a0 a5 z5 q1
        · exact Old.free (Old.trans O10 O11) N11.some hq
        · exact N11.same (same_new hq)
        · exact Old.trans O10 (Old.trans O11 (Same.old (same_new hq)))
end
end LW

/-! Any value: one of thirty-four data. -/
namespace LW
open PySem L2 G
abbrev sAny : Stmt := top 51
def opt1 : List PyData := [.none, .bool true, .bool false, .int 0, .int 1, .int (-1), .int (10 ^ 30 + 1), .str "", .str "a", .str "A", .str "abcdefghi", .tuple [], .tuple [.int 1], .list [.int 1], .dict [], .dict [(.str "a", .int 1)], .tuple [.none]]
def opt2 : List PyData := [.str "a b", .tuple [.str "a"], .tuple [.str "a", .str "b"], .list [.str "a", .str "b"], .tuple [.str "a", .int 1], .tuple [.int 1, .int 0], .tuple [.int 0, .int 1], .list [.int 0, .int 1], .tuple [.bool true, .int 2], .tuple [.str "a", .str ""], .str "="]
def opt3 : List PyData := [.tuple [.int 2, .tuple [.tuple [.str "a"], .tuple [.str "b"]]], .tuple [.int 0, .int (10 ^ 30 + 1)], .tuple [.str "a", .tuple [.str "b"]], .tuple [.str "", .str "a"], .int (10 ^ 59), .str "ann"]
def opts : List PyData := opt1 ++ opt2 ++ opt3
/-- such a datum is shown, alone and in a list of two, by a short text -/
def fits (d : PyData) : Bool := d.showable && decide (d.depth ≤ 20) && decide (d.shown.length ≤ 1000) && decide ((PyData.list [d, d]).shown.length ≤ 3000) && nd3 d
theorem opts_fit : opts.all fits = true := by decide +kernel
def spAny (K : PySem.W.Frag) : Sp := fun vs H Q _ => ∃ (p c : Addr) (cells : List Int) (t l : Int), vs = [.ref p] ∧ PenAt H p c cells t l ∧ t ≤ 1000000 ∧
  ∀ (v : V) (d : PyData) (t' l' : Int) (H' : Hp), d ∈ opts → Da K H' v d → t' ≤ t + 1 → PenAt H' p c cells t' l' → (∀ b o, H b = some o → b ≠ p → H' b = some o) → Q v H'
section
variable {P : Program} {w : World} {K : PySem.W.Frag} {mg : Str → Option Value} {base : Heap}
theorem scAny : FnScope ["_law_pen_here", "_law_some"] ["_law_pen_here"] (defScope sAny) := ⟨rfl, rfl, rfl, by decide +kernel, rfl, by decide +kernel, by decide +kernel⟩
theorem dt_great {n k : Int} (h : 0 ≤ k ∧ k ≤ 1000000 ∧ (10 : Int).natAbs < 2 ^ 64) (e : (10 : Int) ^ k.toNat + 1 = n) : Dt K (tOp (rI0 fun i j => V.int (i + j)) (tOp (rI CPow fun i j => V.int (i ^ j.toNat)) (tC (.int 10)) (tC (.int k))) (tC (.int 1))) (.int n) := fun σ H Q q =>
  ⟨_, _, rfl, rfl, h, _, _, rfl, rfl, by show Q (.int ((10 : Int) ^ k.toNat + 1)) H; rw [e]; exact q _ H (Same.refl H) (.int n)⟩
theorem dt_pow {n k : Int} (h : 0 ≤ k ∧ k ≤ 1000000 ∧ (10 : Int).natAbs < 2 ^ 64) (e : (10 : Int) ^ k.toNat = n) : Dt K (tOp (rI CPow fun i j => V.int (i ^ j.toNat)) (tC (.int 10)) (tC (.int k))) (.int n) := fun σ H Q q =>
  ⟨_, _, rfl, rfl, h, by show Q (.int ((10 : Int) ^ k.toNat)) H; rw [e]; exact q _ H (Same.refl H) (.int n)⟩
theorem dt_neg1 : Dt K (tUn (rU fun i => V.int (-i)) (tC (.int 1))) (.int (-1)) := fun σ H Q q => ⟨_, rfl, q _ H (Same.refl H) (.int (-1))⟩
theorem dt_emp : Dt K tDNewK (.dict []) := fun σ H Q q p hp => q _ _ (same_new hp) (.dct upd_same .nil .nil)
theorem dt_a1 : Dt K (tDisp [(tC (.str "a"), tC (.int 1))]) (.dict [(.str "a", .int 1)]) := fun σ H Q q p hp => by
  refine ⟨upd_same, [(Sum.inr (Str.ofString "a"), .int 1)], rfl, (show 1 ≤ 15 by decide), ?_⟩
  rw [upd_upd]
  exact q _ _ (same_new hp) (.dct upd_same (.cons (.str _) .nil) (.cons (.int 1) .nil))
end
end LW

namespace LW
open PySem L2 G
section
variable {P : Program} {w : World} {K : PySem.W.Frag} {mg : Str → Option Value} {base : Heap}
theorem lst_run {ta : TA} {ds : List PyData} (R : DtAll K ta ds) {σ : L2.St} {H : Hp} {Q : VK} (few : ds.length ≤ 1000) (h : ∀ xs H1 q, Same H H1 → DaAll K H1 xs ds → H1 q = none → Q (.ref q) (upd H1 q (.lst xs))) : tLstS ta σ H Q :=
  R σ H _ fun xs H1 s1 d1 => ⟨by rw [d1.length, sizeLine_eq]; omega, fun q hq _ => h xs H1 q s1 d1 hq⟩
theorem seq_lst {ta : TA} {ds : List PyData} {i : Nat} {u : TS} {D : Ends} (R : DtAll K ta ds) {σ : L2.St} {H : Hp} (few : ds.length ≤ 1000) (h : ∀ xs H1 q, Same H H1 → DaAll K H1 xs ds → H1 q = none → u D (σ.set i (some (.ref q))) (upd H1 q (.lst xs))) :
    tSeq (tAsg (tLstS ta) (gName i)) u D σ H := by
  unfold tSeq tAsg
  exact lst_run (Q := fun x H1 => gName i x σ H1 (u D)) R few h
theorem seq_cat {ta : TA} {ds : List PyData} {i j : Nat} {u : TS} {D : Ends} (R : DtAll K ta ds) {σ : L2.St} {H : Hp} {q1 : Addr} {xs1 : List V} (few : ds.length ≤ 1000) (f1 : xs1.length ≤ 1000) (hσ : σ[j]? = some (some (.ref q1))) (h1 : H q1 = some (.lst xs1))
    (h : ∀ xs H1 q, Same H H1 → DaAll K H1 xs ds → H1 q = none → u D (σ.set i (some (.ref q))) (upd H1 q (.lst (xs1 ++ xs)))) : tSeq (tAsg (tOp rCat (tVar j) (tLstS ta)) (gName i)) u D σ H := by
  refine ⟨_, hσ, lst_run R few fun xs H1 q s1 d1 hq => ?_⟩
  have t1 := same_new (o := .lst xs) hq
  refine ⟨q1, q, xs1, xs, rfl, rfl, t1 _ _ (s1 _ _ h1), upd_same, ?_, fun q3 hq3 => ?_⟩
  · rw [d1.length, sizeLine_eq]
    omega
  · exact h xs _ q3 (s1.trans t1) (d1.same t1) hq3
theorem ret_pick {ta : TA} {ds : List PyData} {sp : Sp} {D : Ends} (R : DtAll K ta ds) {σ : L2.St} {H : Hp} {q1 : Addr} {xs1 : List V} {v : V} (few : ds.length ≤ 1000) (f1 : xs1.length ≤ 1000) (h0 : σ[0]? = some (some v)) (hσ : σ[1]? = some (some (.ref q1))) (h1 : H q1 = some (.lst xs1))
    (h : ∀ xs H1 q, Same H H1 → DaAll K H1 xs ds → H1 q = none → sp [v, .ref q] (upd H1 q (.lst (xs1 ++ xs))) D.rt (fun _ _ _ => False)) :
    tRet (tCall sp [] (fun _ _ _ => False) (tCons (tVar 0) (tCons (tOp rCat (tVar 1) (tLstS ta)) tNil))) D σ H := by
  refine ⟨_, h0, _, hσ, lst_run R few fun xs H1 q s1 d1 hq => ?_⟩
  have t1 := same_new (o := .lst xs) hq
  refine ⟨q1, q, xs1, xs, rfl, rfl, t1 _ _ (s1 _ _ h1), upd_same, ?_, fun q3 hq3 => ?_⟩
  · rw [d1.length, sizeLine_eq]
    omega
  · exact h xs _ q3 (s1.trans t1) (d1.same t1) hq3
theorem ok_any {f fP : Addr} {fd fdP : FuncData} (F : Fun K "_law_any_value" "_law_any_value" sAny f fd) (GP : FnOk P w K mg base CX0 2 fP fdP ["_law_pen_here", "_law_options"] (spPick K)) (mP : mg "_law_pick" = some (.ref fP)) (kP : PySem.W.keepIn K (.ref fP) = true) (bP : Binds K fdP ["_law_pen_here", "_law_options"] []) :
    FnOk P w K mg base CX0 3 f fd ["_law_pen_here"] (spAny K) := by
  refine F.ok scAny (fun vs H Q E h => ?_) (fun cdv A outer s H vs Q E hr h => ?_)
  · obtain ⟨p, c, cells, t, l, rfl, _⟩ := h
    rfl
  · obtain ⟨p, c, cells, t, l, rfl, N, ht, k⟩ := h
    refine ⟨_, pss_cons (ps_set (i := 1) scAny.nd rfl (Or.inl rfl) (pe_lstS
        (pa_cons pe_non (pa_cons pe_bl (pa_cons pe_bl (pa_cons pe_int (pa_cons pe_int (pa_cons (pe_un un_neg pe_int) (pa_cons (pe_op op_add (pe_op op_pow pe_int pe_int) pe_int)
        (pa_cons pe_str (pa_cons pe_str (pa_cons pe_str (pa_cons pe_str (pa_cons (pe_tup pa_nil) (pa_cons (pe_tup (pa_cons pe_int pa_nil)) (pa_cons (pe_lstS (pa_cons pe_int pa_nil))
        (pa_cons pe_dnewK (pa_cons (pe_disp (pps_cons pe_str pe_int pps_nil) (by rfl) (by rfl) (fun z => by cases z) (by decide)) (pa_cons (pe_tup (pa_cons pe_non pa_nil)) pa_nil)))))))))))))))))))
      (pss_cons (ps_set (i := 1) scAny.nd rfl (Or.inl rfl) (pe_op op_cat (pv 1) (pe_lstS
        (pa_cons pe_str (pa_cons (pe_tup (pa_cons pe_str pa_nil)) (pa_cons (pe_tup (pa_cons pe_str (pa_cons pe_str pa_nil))) (pa_cons (pe_lstS (pa_cons pe_str (pa_cons pe_str pa_nil)))
        (pa_cons (pe_tup (pa_cons pe_str (pa_cons pe_int pa_nil))) (pa_cons (pe_tup (pa_cons pe_int (pa_cons pe_int pa_nil))) (pa_cons (pe_tup (pa_cons pe_int (pa_cons pe_int pa_nil)))
        (pa_cons (pe_lstS (pa_cons pe_int (pa_cons pe_int pa_nil))) (pa_cons (pe_tup (pa_cons pe_bl (pa_cons pe_int pa_nil))) (pa_cons (pe_tup (pa_cons pe_str (pa_cons pe_str pa_nil))) (pa_cons pe_str pa_nil))))))))))))))
      (pss_one (ps_ret (pe_call GP hr (by rfl) mP kP bP .nil pass0 (pa_cons (pv 0) (pa_cons (pe_op op_cat (pv 1) (pe_lstS
        (pa_cons (pe_tup (pa_cons pe_int (pa_cons (pe_tup (pa_cons (pe_tup (pa_cons pe_str pa_nil)) (pa_cons (pe_tup (pa_cons pe_str pa_nil)) pa_nil))) pa_nil)))
        (pa_cons (pe_tup (pa_cons pe_int (pa_cons (pe_op op_add (pe_op op_pow pe_int pe_int) pe_int) pa_nil))) (pa_cons (pe_tup (pa_cons pe_str (pa_cons (pe_tup (pa_cons pe_str pa_nil)) pa_nil)))
        (pa_cons (pe_tup (pa_cons pe_str (pa_cons pe_str pa_nil))) (pa_cons (pe_op op_pow pe_int pe_int) (pa_cons pe_str pa_nil)))))))) pa_nil)))))), ?_⟩
    have w30 : (0 : Int) ≤ 30 ∧ (30 : Int) ≤ 1000000 ∧ (10 : Int).natAbs < 2 ^ 64 := ⟨by decide, by decide, by decide⟩
    have w59 : (0 : Int) ≤ 59 ∧ (59 : Int) ≤ 1000000 ∧ (10 : Int).natAbs < 2 ^ 64 := ⟨by decide, by decide, by decide⟩
    have R1 : DtAll K _ opt1 := dta_cons dt_non (dta_cons dt_bl (dta_cons dt_bl (dta_cons dt_int (dta_cons dt_int (dta_cons dt_neg1 (dta_cons (dt_great w30 (by decide +kernel)) (dta_cons dt_str (dta_cons dt_str (dta_cons dt_str (dta_cons dt_str (dta_cons (dt_tup dta_nil)
      (dta_cons (dt_tup (dta_cons dt_int dta_nil)) (dta_cons (dt_lst (dta_cons dt_int dta_nil)) (dta_cons dt_emp (dta_cons dt_a1 (dta_cons (dt_tup (dta_cons dt_non dta_nil)) dta_nil))))))))))))))))
    have R2 : DtAll K _ opt2 := dta_cons dt_str (dta_cons (dt_tup (dta_cons dt_str dta_nil)) (dta_cons (dt_tup (dta_cons dt_str (dta_cons dt_str dta_nil))) (dta_cons (dt_lst (dta_cons dt_str (dta_cons dt_str dta_nil)))
      (dta_cons (dt_tup (dta_cons dt_str (dta_cons dt_int dta_nil))) (dta_cons (dt_tup (dta_cons dt_int (dta_cons dt_int dta_nil))) (dta_cons (dt_tup (dta_cons dt_int (dta_cons dt_int dta_nil)))
      (dta_cons (dt_lst (dta_cons dt_int (dta_cons dt_int dta_nil))) (dta_cons (dt_tup (dta_cons dt_bl (dta_cons dt_int dta_nil))) (dta_cons (dt_tup (dta_cons dt_str (dta_cons dt_str dta_nil))) (dta_cons dt_str dta_nil))))))))))
    have R3 : DtAll K _ opt3 := dta_cons (dt_tup (dta_cons dt_int (dta_cons (dt_tup (dta_cons (dt_tup (dta_cons dt_str dta_nil)) (dta_cons (dt_tup (dta_cons dt_str dta_nil)) dta_nil))) dta_nil)))
      (dta_cons (dt_tup (dta_cons dt_int (dta_cons (dt_great w30 (by decide +kernel)) dta_nil))) (dta_cons (dt_tup (dta_cons dt_str (dta_cons (dt_tup (dta_cons dt_str dta_nil)) dta_nil)))
      (dta_cons (dt_tup (dta_cons dt_str (dta_cons dt_str dta_nil))) (dta_cons (dt_pow w59 (by decide +kernel)) (dta_cons dt_str dta_nil)))))
    refine seq_lst R1 (by decide) fun xs1 H1 q1 s1 d1 hq1 => ?_
    have t1 := same_new (o := .lst xs1) hq1
    have l1 : xs1.length ≤ 1000 := by rw [d1.length]; decide
    refine seq_cat R2 (by decide) l1 rfl upd_same fun xs2 H2 q3 s2 d2 hq3 => ?_
    have t3 := same_new (o := .lst (xs1 ++ xs2)) hq3
    have l2 : (xs1 ++ xs2).length ≤ 1000 := by rw [List.length_append, d1.length, d2.length]; decide
    refine ret_pick R3 (by decide) l2 rfl rfl upd_same fun xs3 H3 q5 s3 d3 hq5 => ?_
    have t5 := same_new (o := .lst (xs1 ++ xs2 ++ xs3)) hq5
    have S2 := (t3.trans s3).trans t5
    have S1 := (t1.trans s2).trans S2
    have S0 := s1.trans S1
    have D : DaAll K _ (xs1 ++ xs2 ++ xs3) opts := ((d1.same S1).append (d2.same S2)).append (d3.same t5)
    have L := D.length
    refine ⟨p, c, q5, cells, t, l, xs1 ++ xs2 ++ xs3, rfl, N.same S0, ht, upd_same, by rw [L]; decide, by rw [L]; decide, fun x t' l' H' hx ht' N' old => ?_⟩
    obtain ⟨d, hd, da⟩ := D.mem hx
    have fit := List.all_eq_true.mp opts_fit d hd
    have n3 : nd3 d = true := by
      simp only [fits, Bool.and_eq_true] at fit
      exact fit.2
    refine k x d t' l' H' hd (da.but (N.same S0).pen rfl old n3) ht' N' fun b o e hb => old b o (S0 _ _ e) hb
end
end LW

/-! A value of any kind, now and then one near a right one. -/
namespace LW
open PySem L2 G
abbrev sOdd : Stmt := top 57
def near : List PyData := [.str "abcdefgh", .str "a\n", .tuple [.int 0, .bool true], .tuple [.str "a", .str "b\n"], .tuple [.str "abcdefgh"]]
def OddQ (d : PyData) : Prop := d ∈ opts ∨ d ∈ near ∨ ∃ i j : Int, d = .tuple [.int i, .int j] ∧ -3 ≤ i ∧ i ≤ -1 ∧ 0 ≤ j ∧ j ≤ 4
theorem opts_nd {d : PyData} (h : d ∈ opts) : nd3 d = true := by
  have fit := List.all_eq_true.mp opts_fit d h
  simp only [fits, Bool.and_eq_true] at fit
  exact fit.2
theorem near_nd : near.all nd3 = true := by decide +kernel
theorem odd_nd {d : PyData} (h : OddQ d) : nd3 d = true := by
  rcases h with h | h | ⟨i, j, rfl, _⟩
  · exact opts_nd h
  · exact List.all_eq_true.mp near_nd d h
  · rfl
def spOdd (K : PySem.W.Frag) : Sp := fun vs H Q _ => ∃ (p c : Addr) (cells : List Int) (t l : Int), vs = [.ref p] ∧ PenAt H p c cells t l ∧ t ≤ 900000 ∧
  ∀ (v : V) (d : PyData) (t' l' : Int) (H' : Hp), OddQ d → Da K H' v d → t' ≤ t + 6 → PenAt H' p c cells t' l' → Old p H H' → Q v H'
theorem nd_all : ∀ {ds : List PyData}, (∀ d ∈ ds, nd3 d = true) → nd3All ds = true
  | [], _ => rfl
  | d :: ds, h => by simp only [nd3All, h d List.mem_cons_self, nd_all fun e he => h e (List.mem_cons_of_mem _ he), Bool.and_self]
section
variable {P : Program} {w : World} {K : PySem.W.Frag} {mg : Str → Option Value} {base : Heap}
variable {fD fK fA : Addr} {fdD fdK fdA : FuncData}
theorem scOdd : FnScope ["_law_pen_here", "_law_some"] ["_law_pen_here"] (defScope sOdd) := ⟨rfl, rfl, rfl, by decide +kernel, rfl, by decide +kernel, by decide +kernel⟩
theorem ok_odd {f : Addr} {fd : FuncData} (F : Fun K "_law_odd" "_law_odd" sOdd f fd)
    (GD : FnOk P w K mg base CX0 1 fD fdD ["_law_pen_here", "_law_many"] spDraw) (mD : mg "_law_draw" = some (.ref fD)) (kD : PySem.W.keepIn K (.ref fD) = true) (bD : Binds K fdD ["_law_pen_here", "_law_many"] [])
    (GK : FnOk P w K mg base CX0 2 fK fdK ["_law_pen_here", "_law_options"] (spPick K)) (mK : mg "_law_pick" = some (.ref fK)) (kK : PySem.W.keepIn K (.ref fK) = true) (bK : Binds K fdK ["_law_pen_here", "_law_options"] [])
    (GA : FnOk P w K mg base CX0 3 fA fdA ["_law_pen_here"] (spAny K)) (mA : mg "_law_any_value" = some (.ref fA)) (kA : PySem.W.keepIn K (.ref fA) = true) (bA : Binds K fdA ["_law_pen_here"] []) :
    FnOk P w K mg base CX0 4 f fd ["_law_pen_here"] (spOdd K) := by
  refine F.ok scOdd (fun vs H Q E h => ?_) (fun cdv A outer s H vs Q E hr h => ?_)
  · obtain ⟨p, c, cells, t, l, rfl, _⟩ := h
    rfl
  · obtain ⟨p, c, cells, t, l, rfl, N, ht, k⟩ := h
    refine ⟨_, pss_cons (ps_set (i := 1) scOdd.nd rfl (Or.inl rfl) (pe_lst (pa_cons (pe_call GA hr (by rfl) mA kA bA .nil pass0 (pa_cons (pv 0) pa_nil)) (pa_cons (pe_call GA hr (by rfl) mA kA bA .nil pass0 (pa_cons (pv 0) pa_nil))
        (pa_cons (pe_call GA hr (by rfl) mA kA bA .nil pass0 (pa_cons (pv 0) pa_nil)) (pa_cons pe_str (pa_cons pe_str (pa_cons (pe_tup (pa_cons pe_int (pa_cons pe_bl pa_nil))) pa_nil))))))))
      (pss_cons (ps_expr (pe_bm PySem.F.plainAttrs_list PySem.F.slot_list_append PySem.F.type_list_append mt_append (pv 1) (pa_cons (pe_tup (pa_cons (pe_op op_sub (pe_un un_neg pe_int) (pe_call GD (hr.mono (by decide)) (by rfl) mD kD bD .nil pass0 (pa_cons (pv 0) (pa_cons pe_int pa_nil))))
        (pa_cons (pe_call GD (hr.mono (by decide)) (by rfl) mD kD bD .nil pass0 (pa_cons (pv 0) (pa_cons pe_int pa_nil))) pa_nil))) pa_nil)))
      (pss_one (ps_ret (pe_call GK (hr.mono (by decide)) (by rfl) mK kK bK .nil pass0 (pa_cons (pv 0) (pa_cons (pe_op op_cat (pv 1) (pe_lst (pa_cons (pe_tup (pa_cons pe_str (pa_cons pe_str pa_nil))) (pa_cons (pe_tup (pa_cons pe_str pa_nil)) pa_nil)))) pa_nil)))))), ?_⟩
    have t0 := N.t0
    refine ⟨_, rfl, p, c, cells, t, l, rfl, N, by omega, fun v1 d1 t1 l1 H1 o1 a1 ht1 N1 old1 => ?_⟩
    refine ⟨_, rfl, p, c, cells, t1, l1, rfl, N1, by omega, fun v2 d2 t2 l2 H2 o2 a2 ht2 N2 old2 => ?_⟩
    refine ⟨_, rfl, p, c, cells, t2, l2, rfl, N2, by omega, fun v3 d3 t3 l3 H3 o3 a3 ht3 N3 old3 => ?_⟩
    refine ⟨(by show 2 ≤ sizeLine; decide), fun q0 hq0 => ?_⟩
    have D1 : Da K H3 v1 d1 := ((a1.but N1.pen rfl old2 (opts_nd o1)).but N2.pen rfl old3 (opts_nd o1))
    have D2 : Da K H3 v2 d2 := a2.but N2.pen rfl old3 (opts_nd o2)
    have s4 := same_new (o := .tup [V.int 0, .bl true]) hq0
    have D4 : DaAll K _ [v1, v2, v3, .str "abcdefgh", .str "a\n", .ref q0] [d1, d2, d3, .str "abcdefgh", .str "a\n", .tuple [.int 0, .bool true]] :=
      .cons (D1.same s4) (.cons (D2.same s4) (.cons (a3.same s4) (.cons (.str _) (.cons (.str _) (.cons (.tup (SqT.of upd_same) (.cons (.int 0) (.cons (.bl true) .nil))) .nil)))))
    have N4 := N3.same s4
    have O4 : Old p H _ := Old.trans old1 (Old.trans old2 (Old.trans old3 (Same.old s4)))
    revert D4 N4 O4
    generalize upd H3 q0 (.tup [V.int 0, .bl true]) = H4
    intro D4 N4 O4
    refine ⟨(by show 6 ≤ sizeLine; decide), fun L hL => ?_⟩
    have npL := N4.ne hL
    have ncL : L ≠ c := fun z => by rw [z, N4.lst] at hL; cases hL
    have s5 := same_new (o := .lst [v1, v2, v3, .str "abcdefgh", .str "a\n", .ref q0]) hL
    have N5 := N4.same s5
    have O45 : Old p H4 _ := Same.old s5
    have g5 : (upd H4 L (.lst [v1, v2, v3, .str "abcdefgh", .str "a\n", .ref q0])) L = some (.lst [v1, v2, v3, .str "abcdefgh", .str "a\n", .ref q0]) := upd_same
    revert N5 O45 g5
    generalize upd H4 L (.lst [v1, v2, v3, .str "abcdefgh", .str "a\n", .ref q0]) = H5
    intro N5 O45 g5
    refine ⟨_, rfl, .inl ⟨rfl, _, SqL.of g5⟩, ?_⟩
    refine ⟨_, rfl, _, rfl, p, c, cells, t3, l3, 3, rfl, N5, by omega, by omega, by omega, fun i t6 l6 H6 i0 i1 ht6 N6 old6 => ?_⟩
    refine ⟨_, _, rfl, rfl, _, rfl, p, c, cells, t6, l6, 5, rfl, N6, by omega, by omega, by omega, fun j t7 l7 H7 j0 j1 ht7 N7 old7 => ?_⟩
    refine ⟨(by show 2 ≤ sizeLine; decide), fun q1 hq1 => ?_⟩
    have g7 := old7 _ _ (old6 _ _ g5 npL) npL
    have s8 := same_new (o := .tup [V.int (-1 - i), .int j]) hq1
    have N8 := N7.same s8
    have O48 : Old p H4 _ := Old.trans O45 (Old.trans old6 (Old.trans old7 (Same.old s8)))
    have g8 := s8 _ _ g7
    have u8 : (upd H7 q1 (.tup [V.int (-1 - i), .int j])) q1 = some (.tup [V.int (-1 - i), .int j]) := upd_same
    have nqL : q1 ≠ L := fun z => by rw [z, g7] at hq1; cases hq1
    revert N8 O48 g8 u8
    generalize upd H7 q1 (.tup [V.int (-1 - i), .int j]) = H8
    intro N8 O48 g8 u8
    refine ⟨L, _, _, rfl, rfl, g8, (by show 6 < sizeLine; decide), ?_⟩
    have N9 := N8.put (o := .lst ([v1, v2, v3, .str "abcdefgh", .str "a\n", .ref q0] ++ [.ref q1])) npL ncL
    have O49 : Old p H4 (upd H8 L (.lst ([v1, v2, v3, .str "abcdefgh", .str "a\n", .ref q0] ++ [.ref q1]))) := fun b o e nb => by rw [upd_ne (ne_of_none e hL)]; exact O48 b o e nb
    have u9 : (upd H8 L (.lst ([v1, v2, v3, .str "abcdefgh", .str "a\n", .ref q0] ++ [.ref q1]))) q1 = some (.tup [V.int (-1 - i), .int j]) := by rw [upd_ne nqL]; exact u8
    have g9 : (upd H8 L (.lst ([v1, v2, v3, .str "abcdefgh", .str "a\n", .ref q0] ++ [.ref q1]))) L = some (.lst ([v1, v2, v3, .str "abcdefgh", .str "a\n", .ref q0] ++ [.ref q1])) := upd_same
    revert N9 O49 u9 g9
    generalize upd H8 L (.lst ([v1, v2, v3, .str "abcdefgh", .str "a\n", .ref q0] ++ [.ref q1])) = H9
    intro N9 O49 u9 g9
    refine ⟨_, rfl, _, rfl, (by show 2 ≤ sizeLine; decide), fun q2 hq2 => ⟨(by show 1 ≤ sizeLine; decide), fun q3 hq3 => ⟨(by show 2 ≤ sizeLine; decide), fun L2 hL2 => ?_⟩⟩⟩
    have s10 := same_new (o := .tup [V.str "a", .str "b\n"]) hq2
    have s11 := same_new (o := .tup [V.str "abcdefgh"]) hq3
    have s12 := same_new (o := .lst [V.ref q2, .ref q3]) hL2
    have u10 : (upd H9 q2 (.tup [V.str "a", .str "b\n"])) q2 = some (.tup [V.str "a", .str "b\n"]) := upd_same
    have u11 : (upd (upd H9 q2 (.tup [V.str "a", .str "b\n"])) q3 (.tup [V.str "abcdefgh"])) q3 = some (.tup [V.str "abcdefgh"]) := upd_same
    have v10 := s12 _ _ (s11 _ _ u10)
    have v11 := s12 _ _ u11
    have v9 := s12 _ _ (s11 _ _ (s10 _ _ u9))
    have w9 := s12 _ _ (s11 _ _ (s10 _ _ g9))
    have S := (s10.trans s11).trans s12
    have N12 := N9.same S
    have O12 := Old.trans O49 (Same.old S)
    have w12 : (upd (upd (upd H9 q2 (.tup [V.str "a", .str "b\n"])) q3 (.tup [V.str "abcdefgh"])) L2 (.lst [V.ref q2, .ref q3])) L2 = some (.lst [V.ref q2, .ref q3]) := upd_same
    revert v10 v11 v9 w9 N12 O12 w12
    generalize (upd (upd (upd H9 q2 (.tup [V.str "a", .str "b\n"])) q3 (.tup [V.str "abcdefgh"])) L2 (.lst [V.ref q2, .ref q3])) = H12
    intro v10 v11 v9 w9 N12 O12 w12
    refine ⟨L, L2, _, _, rfl, rfl, w9, w12, (by show 9 ≤ sizeLine; decide), fun L3 hL3 => ?_⟩
    have s13 := same_new (o := .lst (([v1, v2, v3, .str "abcdefgh", .str "a\n", .ref q0] ++ [.ref q1]) ++ [V.ref q2, .ref q3])) hL3
    have nd4 : nd3All [d1, d2, d3, .str "abcdefgh", .str "a\n", .tuple [.int 0, .bool true]] = true := by
      simp only [nd3All, nd3, opts_nd o1, opts_nd o2, opts_nd o3, Bool.and_self]
    have DF : DaAll K H12 (([v1, v2, v3, .str "abcdefgh", .str "a\n", .ref q0] ++ [.ref q1]) ++ [V.ref q2, .ref q3]) (([d1, d2, d3, .str "abcdefgh", .str "a\n", .tuple [.int 0, .bool true]] ++ [.tuple [.int (-1 - i), .int j]]) ++ [.tuple [.str "a", .str "b\n"], .tuple [.str "abcdefgh"]]) :=
      ((D4.but N4.pen rfl O12 nd4).append (.cons (.tup (SqT.of v9) (.cons (.int _) (.cons (.int _) .nil))) .nil)).append (.cons (.tup (SqT.of v10) (.cons (.str _) (.cons (.str _) .nil))) (.cons (.tup (SqT.of v11) (.cons (.str _) .nil)) .nil))
    refine ⟨p, c, L3, cells, t7, l7, _, rfl, N12.same s13, by omega, upd_same, (by show 1 ≤ 9; decide), (by show 9 ≤ 1000000; decide), fun x t' l' H' hx ht' N' old' => ?_⟩
    obtain ⟨d, hd, da⟩ := (DF.same s13).mem hx
    have oq : OddQ d := by
      simp only [List.mem_append, List.mem_cons, List.not_mem_nil, or_false] at hd
      rcases hd with ((rfl | rfl | rfl | rfl | rfl | rfl) | rfl) | rfl | rfl
      · exact .inl o1
      · exact .inl o2
      · exact .inl o3
      · exact .inr (.inl (by simp [near]))
      · exact .inr (.inl (by simp [near]))
      · exact .inr (.inl (by simp [near]))
      · exact .inr (.inr ⟨_, _, rfl, by omega, by omega, by omega, by omega⟩)
      · exact .inr (.inl (by simp [near]))
      · exact .inr (.inl (by simp [near]))
    exact k x d t' l' H' oq (da.but (N12.same s13).pen rfl old' (odd_nd oq)) (by omega) N' (Old.trans O4 (Old.trans O12 (Old.trans (Same.old s13) old')))
end
end LW

/-! Shown texts are of known signs. -/
namespace G
open PySem PySem.Builtin.Str PySem.Builtin
def OkT (x : Str) : Prop := ∀ c ∈ x.cps.toList, c < 0x110000
theorem okT_iff {x : Str} : PyData.strOk x = true ↔ OkT x := by
  show x.cps.all (fun c => decide (c < 0x110000)) = true ↔ _
  rw [← Array.all_toList, List.all_eq_true]
  exact ⟨fun h c hc => of_decide_eq_true (h c hc), fun h c hc => decide_eq_true (h c hc)⟩
theorem okT_append {a b : Str} (h : OkT a) (g : OkT b) : OkT (a ++ b) := fun c hc => by
  rw [PySem.Str.cps_append, Array.toList_append, List.mem_append] at hc
  exact hc.elim (h c) (g c)
theorem char_lt (c : Char) : c.toNat < 0x110000 := by
  have h := c.valid
  show c.val.toNat < 0x110000
  rcases h with h | ⟨_, h⟩
  · have h2 : c.val.toNat < 0xd800 := h
    omega
  · exact h
theorem okT_of (s : String) : OkT (Str.ofString s) := fun c hc => by
  rw [Str.ofString_eq_toList] at hc
  obtain ⟨x, _, rfl⟩ := List.mem_map.mp (by simpa using hc)
  exact char_lt x
theorem quote_lt (x : Str) : reprQuote x < 0x110000 := by
  unfold reprQuote
  split <;> decide
theorem char_ok {q c : Nat} (hq : q < 0x110000) (hc : c < 0x110000) : ∀ y ∈ reprChar q c, y < 0x110000 := by
  have hx : ∀ (n : Nat), ∀ y ∈ List.replicate (n - ((Nat.toDigits 16 c).map Char.toNat).length) 48 ++ (Nat.toDigits 16 c).map Char.toNat, y < 0x110000 := fun n y hy => by
    rcases List.mem_append.mp hy with hy | hy
    · rw [(List.mem_replicate.mp hy).2]
      decide
    · obtain ⟨z, _, rfl⟩ := List.mem_map.mp hy
      exact char_lt z
  intro y hy
  unfold reprChar at hy
  simp only at hy
  split at hy
  · simp at hy
    omega
  split at hy
  · simp at hy
    omega
  split at hy
  · simp at hy
    omega
  split at hy
  · simp at hy
    omega
  split at hy
  · simp at hy
    omega
  split at hy
  · rcases List.mem_append.mp hy with hy | hy
    · simp at hy
      omega
    · exact hx 2 y hy
  split at hy
  · rcases List.mem_append.mp hy with hy | hy
    · simp at hy
      omega
    · exact hx 4 y hy
  · rcases List.mem_append.mp hy with hy | hy
    · simp at hy
      omega
    · exact hx 8 y hy
theorem fold_ok {q : Nat} (hq : q < 0x110000) : ∀ (l : List Nat) (acc : Array Nat), (∀ c ∈ l, c < 0x110000) → (∀ c ∈ acc.toList, c < 0x110000) → ∀ c ∈ (l.foldl (fun out c => out ++ (reprChar q c).toArray) acc).toList, c < 0x110000
  | [], acc, _, h => h
  | x :: l, acc, hl, h => by
    refine fold_ok hq l _ (fun c hc => hl c (List.mem_cons_of_mem _ hc)) fun c hc => ?_
    rw [Array.toList_append, List.mem_append] at hc
    rcases hc with hc | hc
    · exact h c hc
    · exact char_ok hq (hl x List.mem_cons_self) c (by simpa using hc)
theorem okT_repr {x : Str} (h : OkT x) : OkT (reprText x) := fun c hc => by
  have hq := quote_lt x
  unfold reprText at hc
  rw [Array.toList_push, List.mem_append, ← Array.foldl_toList] at hc
  rcases hc with hc | hc
  · exact fold_ok hq _ _ h (fun c hc => by
      have : c = reprQuote x := by simpa using hc
      rw [this]
      exact hq) c hc
  · rw [List.mem_singleton.mp hc]
    exact hq
theorem okT_from : ∀ (ts : List Str) (k : Nat) (acc : Str), OkT acc → (∀ t ∈ ts, OkT t) → OkT (textFrom k acc ts)
  | [], _, _, h, _ => h
  | t :: ts, k, acc, h, g => okT_from ts (k + 1) _ (okT_append (okT_append h (okT_of _)) (g t List.mem_cons_self)) fun y hy => g y (List.mem_cons_of_mem _ hy)
theorem okT_list {ts : List Str} (h : ∀ t ∈ ts, OkT t) : OkT (listText ts) := okT_append (okT_from ts 0 _ (okT_of "[") h) (okT_of "]")
theorem okT_join {sep : Str} (hs : OkT sep) : ∀ ts : List Str, (∀ t ∈ ts, OkT t) → OkT (Str.join sep ts)
  | [], _ => by
    intro c hc
    have e : (Str.join sep []).cps.toList = [] := rfl
    rw [e] at hc
    cases hc
  | [x], h => h x List.mem_cons_self
  | x :: y :: r, h => okT_append (okT_append (h x List.mem_cons_self) hs) (okT_join hs (y :: r) fun z hz => h z (List.mem_cons_of_mem _ hz))
theorem okT_tuple {ts : List Str} (h : ∀ t ∈ ts, OkT t) : OkT (tupleText ts) := okT_append (okT_append (okT_of "(") (okT_join (okT_of ", ") ts h)) (okT_of _)
theorem okS_all : ∀ {ds : List PyData}, (∀ d ∈ ds, OkT d.shown) → ∀ t ∈ PyData.shownAll ds, OkT t
  | [], _, t, ht => by cases ht
  | d :: ds, h, t, ht => by
    have ht : t ∈ d.shown :: PyData.shownAll ds := ht
    rcases List.mem_cons.mp ht with rfl | ht
    · exact h d List.mem_cons_self
    · exact okS_all (fun e he => h e (List.mem_cons_of_mem _ he)) t ht
theorem okS_str {x : Str} (h : PyData.strOk x = true) : OkT (PyData.str x).shown := okT_repr (okT_iff.mp h)
theorem okS_int (i : Int) : OkT (PyData.int i).shown := okT_of _
theorem okS_tup {ds : List PyData} (h : ∀ d ∈ ds, OkT d.shown) : OkT (PyData.tuple ds).shown := okT_tuple (okS_all h)
theorem okS_lst {ds : List PyData} (h : ∀ d ∈ ds, OkT d.shown) : OkT (PyData.list ds).shown := okT_list (okS_all h)
end G

/-! What the law hands in: shown by a text of bounded length, of known signs, its texts and tuples short, no dict of three. -/
namespace LW
open PySem L2 G
mutual
/-- the texts are short and of known signs, the tuples short -/
def okAll : PyData → Bool
  | .str z => decide (z.length ≤ 100) && PyData.strOk z
  | .tuple ds => decide (ds.length ≤ 100) && okAllA ds
  | _ => true
def okAllA : List PyData → Bool
  | [] => true
  | d :: ds => okAll d && okAllA ds
end
theorem okAllA_mem : ∀ {ds : List PyData}, okAllA ds = true → ∀ d ∈ ds, okAll d = true
  | d :: ds, h, e, he => by
    simp only [okAllA, Bool.and_eq_true] at h
    rcases List.mem_cons.mp he with rfl | he
    · exact h.1
    · exact okAllA_mem h.2 e he
theorem okAllA_of : ∀ {ds : List PyData}, (∀ d ∈ ds, okAll d = true) → okAllA ds = true
  | [], _ => by simp only [okAllA]
  | d :: ds, h => by simp only [okAllA, h d List.mem_cons_self, okAllA_of fun e he => h e (List.mem_cons_of_mem _ he), Bool.and_self]
theorem okAll_str {d : PyData} (h : okAll d = true) : okStr d := fun z e => by
  subst e
  simp only [okAll, Bool.and_eq_true, decide_eq_true_eq] at h
  exact ⟨by have := h.1; rw [sizeLine_eq]; omega, h.2⟩
theorem okAll_in {ds : List PyData} (h : okAll (.tuple ds) = true) : ∀ d ∈ ds, okAll d = true := by
  simp only [okAll, Bool.and_eq_true] at h
  exact okAllA_mem h.2
theorem okAll_tup {d : PyData} (h : okAll d = true) : okTup d := fun ds e => by
  subst e
  refine ⟨fun x hx => okAll_str (okAll_in h x hx), ?_⟩
  simp only [okAll, Bool.and_eq_true, decide_eq_true_eq] at h
  omega
theorem okAll_tups {d : PyData} (h : okAll d = true) : okTups d := fun ds e x hx => by
  subst e
  exact okAll_tup (okAll_in h x hx)
theorem okAll_sub {d : PyData} (h : okAll d = true) : okSub d := ⟨okAll_tup h, fun ds e x hx => by
  subst e
  exact okAll_tups (okAll_in h x hx)⟩
theorem text_len : ∀ (ts : List Str) (k : Nat) (acc : Str), (PySem.textFrom k acc ts).length ≤ acc.length + (ts.map (·.length)).sum + 2 * ts.length
  | [], k, acc => by
    show acc.length ≤ _
    omega
  | t :: ts, k, acc => by
    have h := text_len ts (k + 1) (acc ++ (if k > 0 then ", " else "" : String) ++ t)
    have e : (Str.ofString (if k > 0 then ", " else "" : String)).length ≤ 2 := by
      split
      · decide +kernel
      · decide +kernel
    show (PySem.textFrom (k + 1) (acc ++ (if k > 0 then ", " else "" : String) ++ t) ts).length ≤ _
    rw [sl, sl] at h
    simp only [List.map_cons, List.sum_cons, List.length_cons]
    omega
theorem list_len (ts : List Str) : (listText ts).length ≤ (ts.map (·.length)).sum + 2 * ts.length + 2 := by
  have h := text_len ts 0 "["
  have a : (Str.ofString "[").length = 1 := by decide +kernel
  have b : (Str.ofString "]").length = 1 := by decide +kernel
  show (PySem.textFrom 0 "[" ts ++ Str.ofString "]").length ≤ _
  rw [sl, b]
  omega
theorem tuple_len (ts : List Str) : (tupleText ts).length ≤ (ts.map (·.length)).sum + 2 * ts.length + 3 := by
  have h := join_len (Str.ofString ", ") ts
  have a : (Str.ofString "(").length = 1 := by decide +kernel
  have b : (Str.ofString ", ").length = 2 := by decide +kernel
  have c : (Str.ofString (if ts.length == 1 then ",)" else ")" : String)).length ≤ 2 := by
    split
    · decide +kernel
    · decide +kernel
  show (Str.ofString "(" ++ Str.join ", " ts ++ Str.ofString (if ts.length == 1 then ",)" else ")" : String)).length ≤ _
  rw [b] at h
  rw [sl, sl, a]
  omega
theorem shown_all : ∀ {ds : List PyData}, PyData.shownAll ds = ds.map PyData.shown
  | [] => by simp only [PyData.shownAll, List.map_nil]
  | d :: ds => by simp only [PyData.shownAll, List.map_cons, shown_all (ds := ds)]
theorem show_all : ∀ {ds : List PyData}, (∀ d ∈ ds, d.showable = true) → PyData.showableAll ds = true
  | [], _ => by simp only [PyData.showableAll]
  | d :: ds, h => by simp only [PyData.showableAll, h d List.mem_cons_self, show_all fun e he => h e (List.mem_cons_of_mem _ he), Bool.and_self]
theorem depth_all : ∀ {ds : List PyData} {n : Nat}, (∀ d ∈ ds, d.depth ≤ n) → PyData.depthAll ds ≤ n
  | [], n, _ => by simp only [PyData.depthAll]; omega
  | d :: ds, n, h => by
    have a := h d List.mem_cons_self
    have b := depth_all fun e he => h e (List.mem_cons_of_mem _ he)
    simp only [PyData.depthAll]
    omega
theorem sum_all {ds : List PyData} {n : Nat} (h : ∀ d ∈ ds, d.shown.length ≤ n) : ((PyData.shownAll ds).map (·.length)).sum ≤ n * ds.length := by
  rw [shown_all]
  induction ds with
  | nil => simp
  | cons d ds ih =>
    have a := h d List.mem_cons_self
    have b := ih fun e he => h e (List.mem_cons_of_mem _ he)
    simp only [List.map_cons, List.sum_cons, List.length_cons]
    rw [Nat.mul_succ]
    omega
theorem shown_len (ds : List PyData) : (PyData.shownAll ds).length = ds.length := by rw [shown_all, List.length_map]
/-- a datum of depth k at most, shown by a text of n signs at most -/
structure Pc (k n : Nat) (d : PyData) : Prop where
  show_ : d.showable = true
  dep : d.depth ≤ k
  len : d.shown.length ≤ n
  nd : nd3 d = true
  ok : okAll d = true
  so : OkT d.shown
theorem Pc.up {k n k2 n2 : Nat} {d : PyData} (h : Pc k n d) (a : k ≤ k2) (b : n ≤ n2) : Pc k2 n2 d := ⟨h.show_, Nat.le_trans h.dep a, Nat.le_trans h.len b, h.nd, h.ok, h.so⟩
theorem Pc.tup {k n m : Nat} {ds : List PyData} (h : ∀ d ∈ ds, Pc k n d) (few : ds.length ≤ m) (m100 : m ≤ 100) : Pc (k + 1) ((n + 2) * m + 3) (.tuple ds) := by
  refine ⟨?_, ?_, ?_, ?_, ?_, okS_tup fun d hd => (h d hd).so⟩
  · simp only [PyData.showable]
    exact show_all fun d hd => (h d hd).show_
  · have := depth_all fun d hd => (h d hd).dep
    simp only [PyData.depth]
    omega
  · have a := tuple_len (PyData.shownAll ds)
    have b := sum_all (n := n) fun d hd => (h d hd).len
    rw [shown_len] at a
    have c : n * ds.length ≤ n * m := Nat.mul_le_mul_left n few
    show (tupleText (PyData.shownAll ds)).length ≤ _
    rw [Nat.add_mul]
    omega
  · simp only [nd3]
    exact nd_all fun d hd => (h d hd).nd
  · simp only [okAll, okAllA_of fun d hd => (h d hd).ok, Bool.and_true]
    exact decide_eq_true (by omega)
theorem Pc.lst {k n m : Nat} {ds : List PyData} (h : ∀ d ∈ ds, Pc k n d) (few : ds.length ≤ m) : Pc (k + 1) ((n + 2) * m + 3) (.list ds) := by
  refine ⟨?_, ?_, ?_, ?_, rfl, okS_lst fun d hd => (h d hd).so⟩
  · simp only [PyData.showable]
    exact show_all fun d hd => (h d hd).show_
  · have := depth_all fun d hd => (h d hd).dep
    simp only [PyData.depth]
    omega
  · have a := list_len (PyData.shownAll ds)
    have b := sum_all (n := n) fun d hd => (h d hd).len
    rw [shown_len] at a
    have c : n * ds.length ≤ n * m := Nat.mul_le_mul_left n few
    show (listText (PyData.shownAll ds)).length ≤ _
    rw [Nat.add_mul]
    omega
  · simp only [nd3]
    exact nd_all fun d hd => (h d hd).nd
theorem Pc.str {z : Str} {n : Nat} (l : z.length ≤ n) (n100 : n ≤ 100) (o : PyData.strOk z = true) : Pc 0 (10 * n + 2) (.str z) := by
  refine ⟨rfl, Nat.le_refl _, ?_, rfl, ?_, okS_str o⟩
  · have h := PySem.StrLaws.reprText_len z fun c hc => by
      have q : ∀ x ∈ z.cps.toList, decide (x < 0x110000) = true := List.all_eq_true.mp (by rw [Array.all_toList]; exact o)
      have := of_decide_eq_true (q c hc)
      omega
    show (reprText z).length ≤ _
    omega
  · simp only [okAll, o, Bool.and_true]
    exact decide_eq_true (by omega)
theorem int_len {i : Int} {k : Nat} (hk : 0 < k) (h : i.natAbs < 10 ^ k) : (Str.ofString (toString i)).length ≤ k + 1 := by
  have e : ((10 ^ k : Nat) : Int) = (10 : Int) ^ k := by
    rw [Int.natCast_pow]
    rfl
  by_cases n : i < 0
  · rw [PyProof.Rows.len_text_neg n]
    have := PyProof.Rows.toString_length_le (v := 0 - i) (k := k) (by omega) hk (by rw [← e]; omega)
    omega
  · have := PyProof.Rows.toString_length_le (v := i) (k := k) (by omega) hk (by rw [← e]; omega)
    omega
theorem Pc.int {i : Int} (h : i.natAbs < 10 ^ 60) : Pc 0 61 (.int i) := by
  refine ⟨?_, Nat.le_refl _, int_len (by decide) h, rfl, rfl, okS_int _⟩
  simp only [PyData.showable, decide_eq_true_eq]
  by_cases z : i.natAbs = 0
  · rw [z]
    decide +kernel
  · exact (Nat.log2_lt z).mpr (Nat.lt_of_lt_of_le h (by decide +kernel))
def pcB (d : PyData) : Bool := d.showable && decide (d.depth ≤ 4) && decide (d.shown.length ≤ 250) && nd3 d && okAll d && PyData.strOk d.shown
theorem pcB_ok {d : PyData} (h : pcB d = true) : Pc 4 250 d := by
  simp only [pcB, Bool.and_eq_true, decide_eq_true_eq] at h
  exact ⟨h.1.1.1.1.1, h.1.1.1.1.2, h.1.1.1.2, h.1.1.2, h.1.2, okT_iff.mp h.2⟩
theorem opts_pc : opts.all pcB = true := by decide +kernel
theorem near_pc : near.all pcB = true := by decide +kernel
/-- what the law hands in -/
abbrev Good (d : PyData) : Prop := Pc 20 300000 d
theorem Pc.fit {k n : Nat} {d : PyData} (h : Pc k n d) (a : k ≤ 20 := by omega) (b : n ≤ 300000 := by omega) : Fit d := ⟨h.show_, by have := h.dep; omega, by have := h.len; omega⟩
theorem odd_pc {d : PyData} (h : OddQ d) : Pc 4 250 d := by
  rcases h with h | h | ⟨i, j, rfl, i0, i1, j0, j1⟩
  · exact pcB_ok (List.all_eq_true.mp opts_pc d h)
  · exact pcB_ok (List.all_eq_true.mp near_pc d h)
  · have p : (10 : Nat) ≤ 10 ^ 60 := by decide +kernel
    refine (Pc.tup (k := 0) (n := 61) (m := 2) (ds := [.int i, .int j]) (fun d hd => ?_) (by show 2 ≤ 2; decide) (by decide)).up (by decide) (by decide)
    simp only [List.mem_cons, List.not_mem_nil, or_false] at hd
    rcases hd with rfl | rfl
    · exact Pc.int (Nat.lt_of_lt_of_le (show i.natAbs < 10 by omega) p)
    · exact Pc.int (Nat.lt_of_lt_of_le (show j.natAbs < 10 by omega) p)
end LW

/-! A subject's text. -/
namespace LW
open PySem L2 G
abbrev pSText : Stmt := top 27
abbrev pShare : Stmt := top 22
/-- whether the tuple at a is no chain, by its first item -/
def spShareQ (K : PySem.W.Frag) : Sp := fun vs H Q _ => ∃ (a : Addr) (xs : List V), vs = [.ref a] ∧ ((∃ z, SqT K H a (.str z :: xs) ∧ Q (.bl false) H) ∨ (∃ n, SqT K H a (.int n :: xs) ∧ Q (.bl true) H))
/-- the chains wss stand at the addresses as -/
def ChainsAt (K : PySem.W.Frag) (H : Hp) (as : List Addr) (wss : List (List Str)) : Prop := as.length = wss.length ∧ ∀ (i : Nat) (a : Addr) (ws : List Str), as[i]? = some a → wss[i]? = some ws → SqT K H a (ws.map V.str)
def shareT (n : Int) (wss : List (List Str)) : Str := Str.empty ++ Str.ofString (toString n) ++ " / " ++ Txt.join " / " (wss.map chainT)
def spSText (K : PySem.W.Frag) : Sp := fun vs H Q _ => ∃ a : Addr, vs = [.ref a] ∧
  ((∃ ws : List Str, SqT K H a (ws.map V.str) ∧ 1 ≤ ws.length ∧ (ws.map (·.length)).sum + ws.length ≤ 100000 ∧ Q (.str (chainT ws)) H) ∨
   (∃ (n : Int) (c : Addr) (as : List Addr) (wss : List (List Str)), SqT K H a [.int n, .ref c] ∧ SqT K H c (as.map V.ref) ∧ ChainsAt K H as wss ∧ wss.length ≤ 8 ∧ (∀ ws ∈ wss, (ws.map (·.length)).sum + ws.length ≤ 1000) ∧ 0 ≤ n ∧ n ≤ 9 ∧ ∀ H', Same H H' → Q (.str (shareT n wss)) H'))
theorem join_le {wss : List (List Str)} (h : ∀ ws ∈ wss, (ws.map (·.length)).sum + ws.length ≤ 1000) : ((wss.map chainT).map (·.length)).sum ≤ 1000 * wss.length := by
  induction wss with
  | nil => simp
  | cons w ws ih =>
    have a := chainT_len (ws := w)
    have b := h w List.mem_cons_self
    have c := ih fun x hx => h x (List.mem_cons_of_mem _ hx)
    simp only [List.map_cons, List.sum_cons, List.length_cons]
    omega
section
variable {P : Program} {w : World} {K : PySem.W.Frag} {mg : Str → Option Value} {base : Heap}
variable {fC fH : Addr} {fdC fdH : FuncData}
theorem scShare : FnScope ["subject"] ["subject"] (defScope pShare) := ⟨rfl, rfl, rfl, by decide +kernel, rfl, by decide +kernel, by decide +kernel⟩
theorem ok_share {f : Addr} {fd : FuncData} (F : Fun K "is_share" "is_share" pShare f fd) (B : Pb mg) : FnOk P w K mg base CX0 1 f fd ["subject"] (spShareQ K) := by
  refine F.ok scShare (fun vs H Q E h => ?_) (fun cdv A outer s H vs Q E hr h => ?_)
  · obtain ⟨a, xs, rfl, _⟩ := h
    rfl
  · obtain ⟨a, xs, rfl, h⟩ := h
    refine ⟨_, pss_one (ps_ret (pe_not (pe_callB (call_isD kit_str) (by rfl) B.isin (by decide +kernel) (pa_cons (pe_ix ix_tup (pv 0) pe_int (fun _ _ => rfl)) (pa_cons (pe_bltn (v := .ty "str") (by rfl) B.str (by decide +kernel) rfl) pa_nil))))), ?_⟩
    rcases h with ⟨z, hS, k⟩ | ⟨n, hS, k⟩
    · exact ⟨_, rfl, a, _, 0, .str z, rfl, rfl, hS, by unfold atI ixN; rw [if_pos (by decide), if_pos (by rw [List.length_cons]; omega)]; rfl, .str z, .str z, rfl, .str z, _, rfl, k⟩
    · exact ⟨_, rfl, a, _, 0, .int n, rfl, rfl, hS, by unfold atI ixN; rw [if_pos (by decide), if_pos (by rw [List.length_cons]; omega)]; rfl, .int n, .int n, rfl, .int n, _, rfl, k⟩
theorem scSText : FnScope ["subject", "number", "chains", "listed", "chain"] ["subject"] (defScope pSText) := ⟨rfl, rfl, rfl, by decide +kernel, rfl, by decide +kernel, by decide +kernel⟩
theorem ok_stext {f : Addr} {fd : FuncData} (F : Fun K "_subject_text" "_subject_text" pSText f fd) (GH : FnOk P w K mg base CX0 1 fH fdH ["subject"] (spShareQ K)) (mH : mg "is_share" = some (.ref fH)) (kH : PySem.W.keepIn K (.ref fH) = true) (bH : Binds K fdH ["subject"] []) (GC : FnOk P w K mg base CX0 1 fC fdC ["chain"] (spCText K)) (mC : mg "_chain_text" = some (.ref fC)) (kC : PySem.W.keepIn K (.ref fC) = true) (bC : Binds K fdC ["chain"] []) :
    FnOk P w K mg base CX0 2 f fd ["subject"] (spSText K) := by
  refine F.ok scSText (fun vs H Q E h => ?_) (fun cdv A outer s H vs Q E hr h => ?_)
  · obtain ⟨a, rfl, _⟩ := h
    rfl
  · obtain ⟨a, rfl, h⟩ := h
    refine ⟨_, pss_cons (ps_if (pt_not (pt_val (pe_call GH hr (by rfl) mH kH bH .nil pass0 (pa_cons (pv 0) pa_nil)))) (pss_one (ps_ret (pe_call GC hr (by rfl) mC kC bC .nil pass0 (pa_cons (pv 0) pa_nil)))) pss_nil)
      (pss_cons (ps_asg (pv 0) (pg_tup (n := 2) rfl (pgs_cons (pg_name (i := 1) scSText.nd rfl (Or.inl rfl)) (pgs_cons (pg_name (i := 2) scSText.nd rfl (Or.inl rfl)) pgs_nil))))
      (pss_cons (ps_set (i := 3) scSText.nd rfl (Or.inl rfl) (pe_join pe_str (pe_lc (own := [("chain", 4)]) (g := gName 4) (tt := tYes) rfl scSText.nd (pi_tup (pv 2))
        (blkOk_by (own := [("chain", 4)]) (N := ["subject", "number", "chains", "listed", "chain"]) (sc := defScope pSText) (by decide +kernel))
        (fun _ _ _ _ _ => pg_name (i := 4) scSText.nd rfl (Or.inl rfl)) (fun _ _ _ _ _ => pts_nil) (fun _ _ _ _ _ => pe_call GC hr (by rfl) mC kC bC .nil pass0 (pa_cons (pv 4) pa_nil)))))
      (pss_one (ps_ret (pe_joined (.cons (pe_fmt (pv 1)) (.cons pe_str (.cons (pe_fmt (pv 3)) .nil)))))))), ?_⟩
    rcases h with ⟨ws, hS, l1, few, k⟩ | ⟨n, c, as, wss, hS, hc, hA, l8, few, n0, n9, k⟩
    · obtain ⟨x, xs, rfl⟩ : ∃ x xs, ws = x :: xs := by
        cases ws with
        | nil => simp at l1
        | cons x xs => exact ⟨x, xs, rfl⟩
      refine ⟨_, rfl, a, xs.map V.str, rfl, .inl ⟨x, hS, ?_⟩⟩
      refine ⟨_, rfl, iteT ?_⟩
      exact ⟨_, rfl, a, x :: xs, rfl, hS, few, k⟩
    · refine ⟨_, rfl, a, _, rfl, .inr ⟨n, hS, ?_⟩⟩
      refine ⟨_, rfl, iteF ?_⟩
      refine ⟨_, rfl, a, _, rfl, hS, rfl, _, _, rfl, _, _, rfl, rfl, ?_⟩
      refine ⟨⟨_, rfl⟩, _, rfl, c, rfl, ⟨_, hc⟩, fun D hD => ?_⟩
      refine lc_it (walk_tup (xs := as.map V.ref)) (fun i G => G D = some (.lst ((wss.take i).map fun ws => V.str (chainT ws))) ∧ Same H G) ⟨by rw [upd_same]; rfl, same_new hD⟩ (fun i G _ pv => ?_) (fun i x G G' hi pv y => ?_) (fun G pv => ?_)
      · obtain ⟨gD, S⟩ := pv
        rcases hc with (q | ⟨o, q⟩) | q
        · exact .inl (.inl (S _ _ q))
        · exact .inl (.inr ⟨o, S _ _ q⟩)
        · exact .inr q
      · obtain ⟨rfl, hx⟩ := y
        obtain ⟨gD, S⟩ := pv
        obtain ⟨b, hb, rfl⟩ : ∃ b, as[i]? = some b ∧ V.ref b = x := by
          rw [List.getElem?_map] at hx
          exact Option.map_eq_some_iff.mp hx
        have hi2 : i < as.length := by
          have := List.getElem?_eq_some_iff.mp hb
          exact this.1
        obtain ⟨ws, hw⟩ : ∃ ws, wss[i]? = some ws := ⟨wss[i]'(by rw [← hA.1]; exact hi2), List.getElem?_eq_getElem _⟩
        have hs := hA.2 i b ws hb hw
        have hs2 : SqT K G' b (ws.map V.str) := by
          rcases hs with (q | ⟨o, q⟩) | q
          · exact .inl (.inl (S _ _ q))
          · exact .inl (.inr ⟨o, S _ _ q⟩)
          · exact .inr q
        have fw := few ws (List.mem_of_getElem? hw)
        have tk : wss.take (i + 1) = wss.take i ++ [ws] := by rw [List.take_add_one, hw]; rfl
        refine ⟨rfl, _, rfl, b, ws, rfl, hs2, by omega, ?_⟩
        refine ⟨_, gD, by rw [List.length_map, List.length_take, sizeLine_eq]; omega, by rw [upd_same, tk, List.map_append]; rfl, fun b o e' => by rw [upd_ne (ne_of_none e' hD)]; exact S _ _ e'⟩
      · obtain ⟨gD, S⟩ := pv
        have ft : wss.take (as.map V.ref).length = wss := List.take_of_length_le (by rw [List.length_map, hA.1]; omega)
        rw [ft] at gD
        have jl := join_le few
        have a3 : (Str.ofString " / ").length = 3 := by decide +kernel
        have a4 : (Str.empty).length = 0 := rfl
        have a1 := num_len n0 (by omega)
        have jn : (Txt.join (Str.ofString " / ") (wss.map chainT)).length ≤ 9000 := by
          rw [show Txt.join (Str.ofString " / ") (wss.map chainT) = Str.join (Str.ofString " / ") (wss.map chainT) from StrLaws.glued_eq_join _ _]
          have h := join_len (Str.ofString " / ") (wss.map chainT)
          rw [a3, List.length_map] at h
          omega
        refine ⟨_, D, wss.map chainT, rfl, rfl, .inl (SqL.of (by rw [gD, List.map_map]; rfl)), by rw [List.length_map, a3]; omega, ?_⟩
        refine ⟨_, rfl, .inr ⟨n, rfl, num_log n0 (by omega), _, rfl, ?_, _, rfl, ?_, _, rfl, .inl ⟨_, rfl, by rw [sizeLine_eq]; omega, _, rfl, ?_, k G S⟩⟩⟩
        · rw [sl, a4, sizeLine_eq]; omega
        · rw [sl, sl, a3, a4, sizeLine_eq]; omega
        · rw [sl, sl, sl, a3, a4, sizeLine_eq]; omega
end
end LW

/-! A leave's text. -/
namespace LW
open PySem L2 G
abbrev pLText : Stmt := top 25
/-- the text of the subject at a -/
def SubjT (K : PySem.W.Frag) (H : Hp) (a : Addr) (t : Str) : Prop := t.length ≤ 100000 ∧ ∀ Q : VK, (∀ H', Same H H' → Q (.str t) H') → spSText K [.ref a] H Q E0
def leaveT (p t : Str) (g h i j : Int) (n : Option Int) : Str := Str.empty ++ p ++ " > " ++ t ++ " : " ++ Str.ofString (toString g) ++ " " ++ Str.ofString (toString h) ++ daysT i j ++ timesT n
def spLText (K : PySem.W.Frag) : Sp := fun vs H Q _ => ∃ (p t : Str) (a b d : Addr) (g h i j : Int) (n : Option Int), vs = [.str p, .ref a, .ref b, .ref d, timesV n] ∧ p.length ≤ 1000 ∧ SubjT K H a t ∧ SqT K H b [.int g, .int h] ∧ 0 ≤ g ∧ g ≤ 10 ^ 30 ∧ 0 ≤ h ∧ h ≤ 10 ^ 30 ∧
  SqT K H d [.int i, .int j] ∧ 0 ≤ i ∧ i ≤ 10 ^ 30 ∧ 0 ≤ j ∧ j ≤ 10 ^ 30 ∧ (∀ x, n = some x → 0 ≤ x ∧ x ≤ 9) ∧ ∀ H', Same H H' → Q (.str (leaveT p t g h i j n)) H'
theorem timesT_len {n : Option Int} (h : ∀ x, n = some x → 0 ≤ x ∧ x ≤ 9) : (timesT n).length ≤ 40 := by
  cases n with
  | none => decide +kernel
  | some i =>
    obtain ⟨i0, i1⟩ := h i rfl
    have a1 := num_len i0 (by omega)
    have a3 : (Str.ofString " + ").length = 3 := by decide +kernel
    have a4 : (Str.empty).length = 0 := rfl
    show (Str.empty ++ Str.ofString " + " ++ Str.ofString (toString i)).length ≤ 40
    rw [sl, sl, a3, a4]
    omega
theorem seqT_same {K : PySem.W.Frag} {H H' : Hp} (S : Same H H') {a : Addr} {xs : List V} (s : SqT K H a xs) : SqT K H' a xs := by
  rcases s with (s | ⟨o, s⟩) | s
  · exact .inl (.inl (S _ _ s))
  · exact .inl (.inr ⟨o, S _ _ s⟩)
  · exact .inr s
section
variable {P : Program} {w : World} {K : PySem.W.Frag} {mg : Str → Option Value} {base : Heap}
variable {fS fD fT : Addr} {fdS fdD fdT : FuncData}
theorem scLText : FnScope ["person", "subject", "tags", "days", "times", "first", "last"] ["person", "subject", "tags", "days", "times"] (defScope pLText) := ⟨rfl, rfl, rfl, by decide +kernel, rfl, by decide +kernel, by decide +kernel⟩
theorem ok_ltext {f : Addr} {fd : FuncData} (F : Fun K "leave_text" "leave_text" pLText f fd) (GS : FnOk P w K mg base CX0 2 fS fdS ["subject"] (spSText K)) (mS : mg "_subject_text" = some (.ref fS)) (kS : PySem.W.keepIn K (.ref fS) = true) (bS : Binds K fdS ["subject"] [])
    (GD : FnOk P w K mg base CX0 1 fD fdD ["days"] (spDText K)) (mD : mg "_days_text" = some (.ref fD)) (kD : PySem.W.keepIn K (.ref fD) = true) (bD : Binds K fdD ["days"] [])
    (GT : FnOk P w K mg base CX0 1 fT fdT ["times"] spTText) (mT : mg "_times_text" = some (.ref fT)) (kT : PySem.W.keepIn K (.ref fT) = true) (bT : Binds K fdT ["times"] []) : FnOk P w K mg base CX0 3 f fd ["person", "subject", "tags", "days", "times"] (spLText K) := by
  refine F.ok scLText (fun vs H Q E h => ?_) (fun cdv A outer s H vs Q E hr h => ?_)
  · obtain ⟨p, t, a, b, d, g, hh, i, j, n, rfl, _⟩ := h
    rfl
  · obtain ⟨p, t, a, b, d, g, hh, i, j, n, rfl, lp, hs, hb, g0, g1, h0, h1, hd, i0, i1, j0, j1, hn, k⟩ := h
    refine ⟨_, pss_cons (ps_asg (pv 2) (pg_tup (n := 2) rfl (pgs_cons (pg_name (i := 5) scLText.nd rfl (Or.inl rfl)) (pgs_cons (pg_name (i := 6) scLText.nd rfl (Or.inl rfl)) pgs_nil))))
      (pss_one (ps_ret (pe_joined (.cons (pe_fmt (pv 0)) (.cons pe_str (.cons (pe_fmt (pe_call GS hr (by rfl) mS kS bS .nil pass0 (pa_cons (pv 1) pa_nil))) (.cons pe_str (.cons (pe_fmt (pv 5)) (.cons pe_str (.cons (pe_fmt (pv 6))
        (.cons (pe_fmt (pe_call GD (hr.mono (by decide)) (by rfl) mD kD bD .nil pass0 (pa_cons (pv 3) pa_nil))) (.cons (pe_fmt (pe_call GT (hr.mono (by decide)) (by rfl) mT kT bT .nil pass0 (pa_cons (pv 4) pa_nil))) .nil)))))))))))), ?_⟩
    obtain ⟨lt, hs⟩ := hs
    have b1 := daysT_len i0 i1 j0 j1
    have b2 := timesT_len hn
    have b3 := num_len g0 g1
    have b4 := num_len h0 h1
    have c1 : (Str.ofString " > ").length = 3 := by decide +kernel
    have c2 : (Str.ofString " : ").length = 3 := by decide +kernel
    have c4 : (Str.empty).length = 0 := rfl
    refine ⟨_, rfl, b, _, rfl, hb, rfl, _, _, rfl, _, _, rfl, rfl, ?_⟩
    refine ⟨_, rfl, .inl ⟨p, rfl, by rw [sizeLine_eq]; omega, _, rfl, ?_, _, rfl, ?_, _, rfl, ?_⟩⟩
    · simp only [sl, c1, c2, c4, blank]; rw [sizeLine_eq]; omega
    · simp only [sl, c1, c2, c4, blank]; rw [sizeLine_eq]; omega
    dsimp only
    unfold tNil
    dsimp only
    refine hs _ fun H1 S1 => ?_
    refine .inl ⟨t, rfl, by rw [sizeLine_eq]; omega, _, rfl, ?_, _, rfl, ?_, _, rfl, .inr ⟨g, rfl, num_log g0 g1, _, rfl, ?_, _, rfl, ?_, _, rfl, .inr ⟨hh, rfl, num_log h0 h1, _, rfl, ?_,
      _, rfl, d, i, j, rfl, seqT_same S1 hd, i0, i1, j0, j1, .inl ⟨_, rfl, by rw [sizeLine_eq]; omega, _, rfl, ?_, _, rfl, n, rfl, hn, .inl ⟨_, rfl, by rw [sizeLine_eq]; omega, _, rfl, ?_, k H1 S1⟩⟩⟩⟩⟩
    all_goals (simp only [sl, c1, c2, c4, blank]; rw [sizeLine_eq]; omega)
end
end LW

/-! The errors of leaves. -/
namespace LW
open PySem L2 G
abbrev eSubject : Stmt := inClass (top 19) 0
abbrev eTimes : Stmt := inClass (top 20) 0
section
variable {P : Program} {w : World} {K : PySem.W.Frag} {mg : Str → Option Value} {base : Heap} {C fI : Addr} {fd : FuncData}
theorem scE4 : FnScope ["self", "value"] ["self", "value"] (defScope eSubject) := ⟨rfl, rfl, rfl, by decide +kernel, rfl, by decide +kernel, by decide +kernel⟩
theorem er_subject (g : mg "InvalidSubject" = some (.ref C)) (T : OexC K C) (nf : PySem.W.findIn K (.ref C) "value" = some none) (iC : PySem.W.findIn K (.ref C) "__init__" = some (some (.ref fI))) (tI : PySem.W.typeIn K (.ref fI) = some (.type "function"))
    (F : Fun K "__init__" "InvalidSubject.__init__" eSubject fI fd) : Er P w K mg base "InvalidSubject" C fI fd := by
  refine ⟨g, T, iC, tI, F.ok scE4 (fun vs H Q E h => ?_) (fun cdv A outer s H vs Q E hr h => ?_), F.binds fun _ _ _ _ _ _ us hl => match us, hl with | [_, _], _ => rfl⟩
  · obtain ⟨a, v, rfl, _⟩ := h
    rfl
  · obtain ⟨a, v, rfl, ea, q⟩ := h
    exact ⟨_, pss_one (ps_ost (pv 0) (pv 1)), ⟨_, rfl, _, rfl, a, C, rfl, T, nf, .inl ⟨ea, fun d n ne => q d n ne⟩⟩⟩
theorem scE5 : FnScope ["self", "value"] ["self", "value"] (defScope eTimes) := ⟨rfl, rfl, rfl, by decide +kernel, rfl, by decide +kernel, by decide +kernel⟩
theorem er_times (g : mg "InvalidTimes" = some (.ref C)) (T : OexC K C) (nf : PySem.W.findIn K (.ref C) "value" = some none) (iC : PySem.W.findIn K (.ref C) "__init__" = some (some (.ref fI))) (tI : PySem.W.typeIn K (.ref fI) = some (.type "function"))
    (F : Fun K "__init__" "InvalidTimes.__init__" eTimes fI fd) : Er P w K mg base "InvalidTimes" C fI fd := by
  refine ⟨g, T, iC, tI, F.ok scE5 (fun vs H Q E h => ?_) (fun cdv A outer s H vs Q E hr h => ?_), F.binds fun _ _ _ _ _ _ us hl => match us, hl with | [_, _], _ => rfl⟩
  · obtain ⟨a, v, rfl, _⟩ := h
    rfl
  · obtain ⟨a, v, rfl, ea, q⟩ := h
    exact ⟨_, pss_one (ps_ost (pv 0) (pv 1)), ⟨_, rfl, _, rfl, a, C, rfl, T, nf, .inl ⟨ea, fun d n ne => q d n ne⟩⟩⟩
end
end LW

/-! Leave: its __init__. -/
namespace LW
open PySem L2 G
abbrev sLvI : Stmt := inClass (top 33) 0
/-- what the class of Leaves says -/
structure LeaC (K : PySem.W.Frag) (C : Addr) : Prop where
  cl : Cls K C
  n1 : NoAttr K C "_person"
  n2 : NoAttr K C "_days"
  n3 : NoAttr K C "_text"
  n4 : NoAttr K C "_subject"
  n5 : NoAttr K C "_tags"
  n6 : NoAttr K C "_times"
abbrev g4 (p d t j : V) : List (Str × V) := [("_person", p), ("_days", d), ("_text", t), ("_subject", j)]
abbrev g5 (p d t j g : V) : List (Str × V) := [("_person", p), ("_days", d), ("_text", t), ("_subject", j), ("_tags", g)]
abbrev g6 (p d t j g n : V) : List (Str × V) := [("_person", p), ("_days", d), ("_text", t), ("_subject", j), ("_tags", g), ("_times", n)]
theorem qut4 {p d t j : V} : putF "_subject" j (f3 p d t) = g4 p d t j := by
  have h1 : ¬ (Str.ofString "_person" = Str.ofString "_subject") := by decide +kernel
  have h2 : ¬ (Str.ofString "_days" = Str.ofString "_subject") := by decide +kernel
  have h3 : ¬ (Str.ofString "_text" = Str.ofString "_subject") := by decide +kernel
  simp [putF, h1, h2, h3]
theorem qut5 {p d t j g : V} : putF "_tags" g (g4 p d t j) = g5 p d t j g := by
  have h1 : ¬ (Str.ofString "_person" = Str.ofString "_tags") := by decide +kernel
  have h2 : ¬ (Str.ofString "_days" = Str.ofString "_tags") := by decide +kernel
  have h3 : ¬ (Str.ofString "_text" = Str.ofString "_tags") := by decide +kernel
  have h4 : ¬ (Str.ofString "_subject" = Str.ofString "_tags") := by decide +kernel
  simp [putF, h1, h2, h3, h4]
theorem qut6 {p d t j g n : V} : putF "_times" n (g5 p d t j g) = g6 p d t j g n := by
  have h1 : ¬ (Str.ofString "_person" = Str.ofString "_times") := by decide +kernel
  have h2 : ¬ (Str.ofString "_days" = Str.ofString "_times") := by decide +kernel
  have h3 : ¬ (Str.ofString "_text" = Str.ofString "_times") := by decide +kernel
  have h4 : ¬ (Str.ofString "_subject" = Str.ofString "_times") := by decide +kernel
  have h5 : ¬ (Str.ofString "_tags" = Str.ofString "_times") := by decide +kernel
  simp [putF, h1, h2, h3, h4, h5]
/-- the text of a subject -/
def subjT (d : PyData) : Str := if isChainD d 4 then chainT (wordsD d) else match d with
  | .tuple [.int n, .tuple cs] => shareT n (cs.map wordsD)
  | _ => Str.empty
def timesO : PyData → Option Int
  | .int i => some i
  | _ => none
def leaTD (dp dj dg dd dn : PyData) : Str := leaveT (strD dp) (subjT dj) (intsD dg).1 (intsD dg).2 (intsD dd).1 (intsD dd).2 (timesO dn)
/-- Leave's __init__: C the class, the others the errors' classes -/
def spLea (K : PySem.W.Frag) (C CW CJ CS CT : Addr) : Sp := fun vs H Q E => ∃ (a dx : Addr) (vp vj vg vd vn : V) (dp dj dg dd dn : PyData), vs = [.ref a, vp, vj, vg, vd, vn] ∧ H a = some (.ins C dx []) ∧ Da K H vp dp ∧ Da K H vj dj ∧ Da K H vg dg ∧ Da K H vd dd ∧ Da K H vn dn ∧
  okStr dp ∧ okSub dj ∧
  (isWordD dp = false → Wants E CW vp H) ∧ (isWordD dp = true → subjD dj = false → Wants E CJ vj H) ∧ (isWordD dp = true → subjD dj = true → isStretchD dg = false → Wants E CS vg H) ∧
  (isWordD dp = true → subjD dj = true → isStretchD dg = true → dd ≠ .none → isStretchD dd = false → Wants E CS vd H) ∧
  (isWordD dp = true → subjD dj = true → isStretchD dg = true → dd = .none ∨ isStretchD dd = true → isTimesD dn = false → Wants E CT vn H) ∧
  (isWordD dp = true → subjD dj = true → isStretchD dg = true → dd = .none ∨ isStretchD dd = true → isTimesD dn = true → ∀ (st : V) (H' : Hp), (∀ b o, H b = some o → b ≠ a → H' b = some o) → H' a = some (.ins C dx (g6 vp st (.str (leaTD dp dj dg dd dn)) vj vg vn)) → StAt K H' vd st dd → Q .non H')
theorem sumW {ws : List Str} (h : ∀ z ∈ ws, z.length ≤ 8) (n : ws.length ≤ 5) : (ws.map (·.length)).sum + ws.length ≤ 45 := by
  have := sum_le8 h
  omega
theorem times_inv {K : PySem.W.Frag} {H : Hp} {v : V} {d : PyData} (h : isTimesD d = true) (x : Da K H v d) : v = timesV (timesO d) ∧ ∀ i, timesO d = some i → 0 ≤ i ∧ i ≤ 9 := by
  cases x with
  | non => exact ⟨rfl, fun i e => by cases e⟩
  | int i =>
    have h2 : (decide (0 ≤ i) && decide (i ≤ 9)) = true := h
    simp only [Bool.and_eq_true, decide_eq_true_eq] at h2
    exact ⟨rfl, fun j e => by cases e; exact h2⟩
  | _ => cases h
theorem subj_at {K : PySem.W.Frag} {H : Hp} {v : V} {d : PyData} (h : subjD d = true) (x : Da K H v d) : ∃ a, v = .ref a ∧ SubjT K H a (subjT d) := by
  unfold subjD at h
  by_cases cn : isChainD d 4 = true
  · obtain ⟨ws, rfl, w1, w5, w8⟩ := chain_inv cn
    obtain ⟨a, rfl, hS⟩ := da_chain x
    have few := sumW w8 (by omega)
    have e : subjT (.tuple (ws.map PyData.str)) = chainT ws := by
      unfold subjT
      rw [if_pos cn, wordsD_chain]
    have l := chainT_len (ws := ws)
    rw [e]
    exact ⟨a, rfl, by omega, fun Q k => ⟨a, rfl, .inl ⟨ws, hS, w1, by omega, k H (Same.refl H)⟩⟩⟩
  · have c2 : isChainD d 4 = false := by simpa using cn
    rw [c2, Bool.false_or] at h
    obtain ⟨n, c, rfl⟩ : ∃ n c, d = .tuple [n, c] := by
      unfold shareD at h
      split at h
      · exact ⟨_, _, rfl⟩
      · cases h
    have h2 : (unlikeD c && intInD n 1 (lenD c)) = true := h
    rw [Bool.and_eq_true] at h2
    obtain ⟨u, hn⟩ := h2
    obtain ⟨cs, rfl⟩ : ∃ cs, c = .tuple cs := by cases c <;> first | exact ⟨_, rfl⟩ | cases u
    obtain ⟨m, rfl⟩ : ∃ m, n = .int m := by cases n <;> first | exact ⟨_, rfl⟩ | cases hn
    have u2 : (decide (1 ≤ cs.length) && decide (cs.length ≤ 4) && cs.all (isChainD · 4) && decide (cs.map wordsD).Nodup) = true := u
    simp only [Bool.and_eq_true, decide_eq_true_eq] at u2
    have hn2 : (decide (1 ≤ m) && decide (m ≤ (cs.length : Int))) = true := hn
    simp only [Bool.and_eq_true, decide_eq_true_eq] at hn2
    obtain ⟨a, v1, v2, rfl, hS, hA1, hA2⟩ : ∃ a v1 v2, v = .ref a ∧ SqT K H a [v1, v2] ∧ Da K H v1 (.int m) ∧ Da K H v2 (.tuple cs) := by
      cases x with
      | tup s a =>
        cases a with
        | cons p q =>
          cases q with
          | cons p' q' =>
            cases q'
            exact ⟨_, _, _, rfl, s, p, p'⟩
    cases hA1
    obtain ⟨b, ys, rfl, hB, hY⟩ : ∃ b ys, v2 = .ref b ∧ SqT K H b ys ∧ DaAll K H ys cs := by
      cases hA2 with
      | tup s a => exact ⟨_, _, rfl, s, a⟩
    obtain ⟨ks, rfl, rfl, hk⟩ := da_chains hY u2.1.2
    have ew : (ks.map fun q => PyData.tuple (q.2.map PyData.str)).map wordsD = ks.map Prod.snd := by
      rw [List.map_map]
      exact List.map_congr_left fun q _ => wordsD_chain q.2
    have e : subjT (.tuple [.int m, .tuple (ks.map fun q => PyData.tuple (q.2.map PyData.str))]) = shareT m (ks.map Prod.snd) := by
      unfold subjT
      rw [if_neg (by rw [c2]; exact Bool.false_ne_true)]
      dsimp only
      rw [ew]
    have l4 : ks.length ≤ 4 := by simpa using u2.1.1.2
    have each : ∀ ws ∈ ks.map Prod.snd, (ws.map (·.length)).sum + ws.length ≤ 1000 := fun ws hw => by
      obtain ⟨q, hq, rfl⟩ := List.mem_map.mp hw
      have cq : isChainD (PyData.tuple (q.2.map PyData.str)) 4 = true := List.all_eq_true.mp u2.1.2 _ (List.mem_map.mpr ⟨q, hq, rfl⟩)
      obtain ⟨ws', e', w1, w5, w8⟩ := chain_inv cq
      have e2 : q.2 = ws' := by
        have := congrArg wordsD e'
        rwa [wordsD_chain, wordsD_chain] at this
      rw [← e2] at w5 w8
      have := sumW w8 (by omega)
      omega
    have jl := join_le each
    have a3 : (Str.ofString " / ").length = 3 := by decide +kernel
    have a4 : (Str.empty).length = 0 := rfl
    have a1 := num_len (i := m) (by omega) (by simp at hn2; omega)
    have hm9 : m ≤ 9 := by simp at hn2; omega
    refine ⟨a, rfl, ?_, fun Q k => ⟨a, rfl, .inr ⟨m, b, ks.map Prod.fst, ks.map Prod.snd, hS, ?_, ⟨by simp, fun i c ws hi hw => ?_⟩, by simp; omega, each, by omega, hm9, ?_⟩⟩⟩
    · rw [e]
      unfold shareT
      have jn : (Txt.join (Str.ofString " / ") ((ks.map Prod.snd).map chainT)).length ≤ 9000 := by
        rw [show Txt.join (Str.ofString " / ") ((ks.map Prod.snd).map chainT) = Str.join (Str.ofString " / ") ((ks.map Prod.snd).map chainT) from StrLaws.glued_eq_join _ _]
        have h := join_len (Str.ofString " / ") ((ks.map Prod.snd).map chainT)
        rw [a3, List.length_map, List.length_map] at h
        rw [List.length_map] at jl
        omega
      rw [sl, sl, sl, a3, a4]
      omega
    · rw [List.map_map]
      exact hB
    · rw [List.getElem?_map] at hi hw
      obtain ⟨q, hq, rfl⟩ := Option.map_eq_some_iff.mp hi
      rw [hq] at hw
      cases hw
      exact hk q (List.mem_of_getElem? hq)
    · intro H' S
      rw [← e]
      exact k H' S
theorem SubjT.same {K : PySem.W.Frag} {H H' : Hp} {v : V} {d : PyData} {a : Addr} (h : subjD d = true) (x : Da K H v d) (S : Same H H') (e : v = .ref a) : SubjT K H' a (subjT d) := by
  obtain ⟨b, e2, y⟩ := subj_at h (x.same S)
  rw [e] at e2
  cases e2
  exact y
section
variable {P : Program} {w : World} {K : PySem.W.Frag} {mg : Str → Option Value} {base : Heap}
variable {C CW CJ CS CT fW fJ fD fS fT fG fN fE1 fE2 : Addr} {fdW fdJ fdD fdS fdT fdG fdN fdE1 fdE2 : FuncData}
abbrev nmL : List Str := ["self", "person", "subject", "tags", "days", "times", "stretch"]
abbrev psL : List Str := ["self", "person", "subject", "tags", "days", "times"]
theorem scLvI : ScopeS nmL psL (defScope sLvI) := ⟨rfl, rfl, rfl, by decide +kernel, rfl, by decide +kernel, by decide +kernel, by decide +kernel, by decide +kernel, by decide +kernel, by decide +kernel⟩
theorem ok_leaI {f : Addr} {fd : FuncData} (F : FunS K "__init__" "Leave.__init__" sLvI 2 C f fd) (B : Pb mg) (c : LeaC K C)
    (GW : FnOk PySem.Challenge.pw_namechains_k02_leaves_made_and_refused w K mg base (L2.CX PySem.Challenge.pw_namechains_k02_leaves_made_and_refused w) 3 fW fdW ["value"] (spCheckW K CW)) (mW : mg "_check_word" = some (.ref fW)) (kW : PySem.W.keepIn K (.ref fW) = true) (bW : Binds K fdW ["value"] [])
    (GJ : FnOk PySem.Challenge.pw_namechains_k02_leaves_made_and_refused w K mg base CX0 5 fJ fdJ ["value"] (spSubject K)) (mJ : mg "is_subject" = some (.ref fJ)) (kJ : PySem.W.keepIn K (.ref fJ) = true) (bJ : Binds K fdJ ["value"] [])
    (R1 : Er PySem.Challenge.pw_namechains_k02_leaves_made_and_refused w K mg base "InvalidSubject" CJ fE1 fdE1)
    (GG : FnOk PySem.Challenge.pw_namechains_k02_leaves_made_and_refused w K mg base (L2.CX PySem.Challenge.pw_namechains_k02_leaves_made_and_refused w) 3 fG fdG ["value"] (spCheckS K CS)) (mG : mg "_check_stretch" = some (.ref fG)) (kG : PySem.W.keepIn K (.ref fG) = true) (bG : Binds K fdG ["value"] [])
    (GD : FnOk PySem.Challenge.pw_namechains_k02_leaves_made_and_refused w K mg base (L2.CX PySem.Challenge.pw_namechains_k02_leaves_made_and_refused w) 4 fD fdD ["value"] (spDays K CS)) (mD : mg "_checked_days" = some (.ref fD)) (kD : PySem.W.keepIn K (.ref fD) = true) (bD : Binds K fdD ["value"] [])
    (GN : FnOk PySem.Challenge.pw_namechains_k02_leaves_made_and_refused w K mg base CX0 2 fN fdN ["value"] (spIsTimes K)) (mN : mg "is_times" = some (.ref fN)) (kN : PySem.W.keepIn K (.ref fN) = true) (bN : Binds K fdN ["value"] [])
    (R2 : Er PySem.Challenge.pw_namechains_k02_leaves_made_and_refused w K mg base "InvalidTimes" CT fE2 fdE2)
    (GT : FnOk PySem.Challenge.pw_namechains_k02_leaves_made_and_refused w K mg base CX0 3 fT fdT ["person", "subject", "tags", "days", "times"] (spLText K)) (mT : mg "leave_text" = some (.ref fT)) (kT : PySem.W.keepIn K (.ref fT) = true) (bT : Binds K fdT ["person", "subject", "tags", "days", "times"] [])
    (Y : SupOk K mg C C fS) (GS : FnOk PySem.Challenge.pw_namechains_k02_leaves_made_and_refused w K mg base CX0 1 fS fdS ["self", "person", "days", "text"] (spStatC K C)) (bS : Binds K fdS ["self", "person", "days", "text"] []) :
    FnOk PySem.Challenge.pw_namechains_k02_leaves_made_and_refused w K mg base (L2.CX PySem.Challenge.pw_namechains_k02_leaves_made_and_refused w) 6 f fd psL (spLea K C CW CJ CS CT) := by
  refine fun_okS (pre := (defBody sLvI).take 5) (sup := (defBody sLvI).getD 5 (.Pass ⟨0, 0, 0, 0⟩)) (post := (defBody sLvI).drop 6) F scLvI (fun vs H Q E h => ?_) rfl
    (fun oc od dV kV doc pm an cda cc ct osl cl cld csl ccl cdd vs0 ccs tf lk hcc hcd hv2 A outer s H vs Q E hr h => ?_)
  · obtain ⟨a, dx, vp, vj, vg, vd, vn, dp, dj, dg, dd, dn, rfl, _⟩ := h
    rfl
  · obtain ⟨a, dx, vp, vj, vg, vd, vn, dp, dj, dg, dd, dn, rfl, ea, hp, hj, hg, hd, hn, op, oj, e1, e2, e3, e4, e5, k⟩ := h
    have pass : Passes (L2.CX PySem.Challenge.pw_namechains_k02_leaves_made_and_refused w) (cxS (L2.CX PySem.Challenge.pw_namechains_k02_leaves_made_and_refused w) PySem.Challenge.pw_namechains_k02_leaves_made_and_refused w K mg base nmL "Leave.__init__" (defScope sLvI) f cda cc A outer s H E) E :=
      passes_call (takes_of rfl rfl rfl rfl) fun _ _ _ _ h => h
    refine ⟨_, _, _, pss_cons (ps_expr (pe_call GW (hr.mono (by decide)) (by rfl) mW kW bW .nil pass (pa_cons (pv 1) pa_nil)))
        (pss_cons (ps_if (pt_not (pt_val (pe_call GJ hr (by rfl) mJ kJ bJ .nil pass0 (pa_cons (pv 2) pa_nil))))
          (pss_one (ps_raise rfl (takes_of rfl rfl rfl rfl) (pmk_oex (C := CJ) (fI := fE1) R1.T R1.iC R1.tI R1.I (hr.mono (by decide)) R1.b .nil pass0 (by rfl) R1.g (pa_cons (pv 2) pa_nil)))) pss_nil)
        (pss_cons (ps_expr (pe_call GG (hr.mono (by decide)) (by rfl) mG kG bG .nil pass (pa_cons (pv 3) pa_nil)))
        (pss_cons (ps_set (i := 6) scLvI.nd rfl (Or.inl rfl) (pe_call GD (hr.mono (by decide)) (by rfl) mD kD bD .nil pass (pa_cons (pv 4) pa_nil)))
        (pss_one (ps_if (pt_not (pt_val (pe_call GN (hr.mono (by decide)) (by rfl) mN kN bN .nil pass0 (pa_cons (pv 5) pa_nil))))
          (pss_one (ps_raise rfl (takes_of rfl rfl rfl rfl) (pmk_oex (C := CT) (fI := fE2) R2.T R2.iC R2.tI R2.I (hr.mono (by decide)) R2.b .nil pass0 (by rfl) R2.g (pa_cons (pv 5) pa_nil)))) pss_nil))))),
      fun pins z σ G Dn I ht => at_super (C := C) (pl := (do return (← importBound (.Call (.Name "super" _) [] [] _) _).getD true)) scLvI lk hcc hcd hv2 ⟨_, rfl, rfl, by decide +kernel⟩ rfl (by decide +kernel) Y GS bS (hr.mono (by decide)) pass0
        (pa_cons (pv 1) (pa_cons (pv 6) (pa_cons (pe_call GT (hr.mono (by decide)) (by rfl) mT kT bT .nil pass0 (pa_cons (pv 1) (pa_cons (pv 2) (pa_cons (pv 3) (pa_cons (pv 6) (pa_cons (pv 5) pa_nil)))))) pa_nil))) (by rfl) (by rfl) (by rfl) (by rfl) I ht,
      pss_cons (ps_fld (pv 0) (pv 2) rfl) (pss_cons (ps_fld (pv 0) (pv 3) rfl) (pss_one (ps_fld (pv 0) (pv 5) rfl))), ?_⟩
    refine ⟨_, rfl, vp, dp, rfl, hp, op, fun wp H1 S1 => ?_, fun wp => e1 wp⟩
    refine ⟨_, rfl, vj, dj, rfl, hj.same S1, oj, fun H2 S2 => ?_⟩
    have S02 := S1.trans S2
    refine ⟨_, rfl, ?_⟩
    cases wj : subjD dj with
    | false => exact iteT (mk_er (fun R h => ⟨_, rfl, h⟩) ((e2 wp wj).same S02))
    | true =>
      refine iteF ?_
      refine ⟨_, rfl, vg, dg, rfl, hg.same S02, fun wg => ?_, fun wg => (e3 wp wj wg).same S02⟩
      obtain ⟨zp, rfl, _, lp⟩ := word_inv wp
      cases hp
      obtain ⟨aj, ej, tj⟩ := subj_at wj hj
      obtain ⟨g, h, rfl, g0, gh, h1⟩ := stretch_inv wg
      obtain ⟨ag, rfl, hg0⟩ := da_pair hg
      have go : ∀ (st : V) (q : Addr) (i j : Int) (H4 : Hp), Same H H4 → st = .ref q → SqT K H4 q [.int i, .int j] → 0 ≤ i → i ≤ 10 ^ 30 → 0 ≤ j → j ≤ 10 ^ 30 → StAt K H4 vd st dd → intsD dd = (i, j) → (dd = .none ∨ isStretchD dd = true) → isTimesD dn = true →
          tSup C (spStatC K C) E0 (tCons (tVar 1) (tCons (tVar 6) (tCons (tCall (spLText K) [] E0 (tCons (tVar 1) (tCons (tVar 2) (tCons (tVar 3) (tCons (tVar 6) (tCons (tVar 5) tNil)))))) tNil)))
            { nx := fun σ2 H2 => tSeq (sFld K (tVar 0) (tVar 2) "_subject") (tSeq (sFld K (tVar 0) (tVar 3) "_tags") (sFld K (tVar 0) (tVar 5) "_times")) { nx := fun _ H3 => Q .non H3, rt := Q } σ2 H2, rt := Q } [some (.ref a), some (.str zp), some vj, some (.ref ag), some vd, some vn, some st] H4 := by
        intro st q i j H4 S04 est hst i0 i1 j0 j1 hSt hij hdd wn
        subst est
        subst ej
        have ea4 : H4 a = some (.ins C dx []) := S04 _ _ ea
        obtain ⟨en, n9⟩ := times_inv wn hn
        subst en
        refine ⟨a, dx, [], rfl, ea4, _, rfl, _, rfl, _, rfl, _, rfl, _, rfl, _, rfl, _, rfl, zp, _, aj, ag, q, g, h, i, j, timesO dn, rfl, by omega, SubjT.same wj hj S04 rfl, sqT_same S04 hg0, by omega, by omega, by omega, h1, hst, i0, i1, j0, j1, n9, fun H5 S5 => ?_⟩
        have ea5 : H5 a = some (.ins C dx []) := S5 _ _ ea4
        refine ⟨a, dx, _, _, _, rfl, ea5, ?_⟩
        refine ⟨_, rfl, _, rfl, a, C, dx, _, rfl, upd_same, c.cl, c.n4, by show 3 < 1000; decide, ?_⟩
        refine ⟨_, rfl, _, rfl, a, C, dx, _, rfl, upd_same, c.cl, c.n5, by rw [qut4]; show 4 < 1000; decide, ?_⟩
        refine ⟨_, rfl, _, rfl, a, C, dx, _, rfl, upd_same, c.cl, c.n6, by rw [qut4, qut5]; show 5 < 1000; decide, ?_⟩
        rw [upd_upd, upd_upd, upd_upd, qut4, qut5, qut6]
        have et : leaveT zp (subjT dj) g h i j (timesO dn) = leaTD (.str zp) dj (.tuple [.int g, .int h]) dd dn := by
          unfold leaTD
          rw [hij]
          rfl
        rw [et]
        refine k wp wj wg hdd wn (.ref q) _ (fun b o e nb => by rw [upd_ne nb]; exact S5 _ _ (S04 _ _ e)) upd_same ?_
        rcases hSt with ⟨z1, z2⟩ | ⟨z1, z2⟩
        · exact .inl ⟨z1, z2⟩
        · exact .inr ⟨z1, (z2.same S5).ins ea5 fun b o e nb => by rw [upd_ne nb]; exact e⟩
      have fin : ∀ (st : V) (q : Addr) (i j : Int) (H4 : Hp), Same H H4 → st = .ref q → SqT K H4 q [.int i, .int j] → 0 ≤ i → i ≤ 10 ^ 30 → 0 ≤ j → j ≤ 10 ^ 30 → StAt K H4 vd st dd → intsD dd = (i, j) → (dd = .none ∨ isStretchD dd = true) →
          (isTimesD dn = false → Wants E CT vn H4) ∧ True := fun st q i j H4 S04 _ _ _ _ _ _ _ _ hdd => ⟨fun wn => (e5 wp wj wg hdd wn).same S04, trivial⟩
      refine ⟨_, rfl, vd, dd, rfl, hd.same S02, fun z q hq => ?_, fun z => ?_, fun z1 z2 => (e4 wp wj wg z1 z2).same S02⟩
      · subst z
        have s4 := same_new (o := .tup [V.int 0, .int (10 ^ 30)]) hq
        have S04 := S02.trans s4
        refine ⟨_, rfl, vn, dn, rfl, hn.same S04, _, rfl, ?_⟩
        cases wn : isTimesD dn with
        | false => exact iteT (mk_er (fun R h => ⟨_, rfl, h⟩) ((e5 wp wj wg (.inl rfl) wn).same S04))
        | true => exact iteF (go (.ref q) q 0 (10 ^ 30) _ S04 rfl (SqT.of upd_same) (by decide) (by decide +kernel) (by decide +kernel) (by decide +kernel) (.inr ⟨rfl, .tup (SqT.of upd_same) (.cons (.int _) (.cons (.int _) .nil))⟩) rfl (.inl rfl) wn)
      · obtain ⟨i, j, rfl, i0, ij, j1⟩ := stretch_inv z
        obtain ⟨q, rfl, hq⟩ := da_pair (hd.same S02)
        refine ⟨_, rfl, vn, dn, rfl, hn.same S02, _, rfl, ?_⟩
        cases wn : isTimesD dn with
        | false => exact iteT (mk_er (fun R h => ⟨_, rfl, h⟩) ((e5 wp wj wg (.inr z) wn).same S02))
        | true => exact iteF (go (.ref q) q i j H2 S02 rfl hq i0 (by omega) (by omega) j1 (.inl ⟨(by intro y; cases y), rfl⟩) rfl (.inr z) wn)
end
end LW

/-! What stays while lists and dicts change: tuples, instances, and all data that are made of tuples. -/
namespace G
open PySem PySem.Spec L2
open PySem.W (Frag)
/-- all but lists and dicts stays -/
def Keep (H H' : Hp) : Prop := ∀ b o, H b = some o → (∀ zs, o ≠ .lst zs) → (∀ kv, o ≠ .dK kv) → H' b = some o
theorem Keep.refl (H : Hp) : Keep H H := fun _ _ e _ _ => e
theorem Keep.trans {H H1 H2 : Hp} (a : Keep H H1) (b : Keep H1 H2) : Keep H H2 := fun q o e n m => b q o (a q o e n m) n m
theorem Keep.same {H H' : Hp} (s : Same H H') : Keep H H' := fun q o e _ _ => s q o e
theorem Keep.put {H : Hp} {L : Addr} {zs : List V} {o : HO} (g : H L = some (.lst zs)) : Keep H (upd H L o) := fun b u e n _ => by
  rw [upd_ne fun z => by rw [z, g] at e; cases e; exact n _ rfl]
  exact e
theorem Keep.but {H H' : Hp} {p : Addr} {kv : List (Key × V)} (hp : H p = some (.dK kv)) (e : ∀ b o, H b = some o → b ≠ p → H' b = some o) : Keep H H' := fun b o z _ m => e b o z fun y => by
  rw [y, hp] at z
  cases z
  exact m _ rfl
section
variable {K : Frag} {H H' : Hp}
theorem Keep.sqT (k : Keep H H') {a : Addr} {xs : List V} (s : SqT K H a xs) : SqT K H' a xs := by
  rcases s with (s | ⟨o, s⟩) | s
  · exact .inl (.inl (k _ _ s (fun _ z => by cases z) (fun _ z => by cases z)))
  · exact .inl (.inr ⟨o, k _ _ s (fun _ z => by cases z) (fun _ z => by cases z)⟩)
  · exact .inr s
theorem Keep.ins (k : Keep H H') {a C dx : Addr} {fs : List (Str × V)} (s : H a = some (.ins C dx fs)) : H' a = some (.ins C dx fs) := k _ _ s (fun _ z => by cases z) (fun _ z => by cases z)
mutual
/-- a datum without lists and dicts -/
def tupD : PyData → Bool
  | .none | .bool _ | .int _ | .str _ => true
  | .tuple xs => tupAll xs
  | _ => false
def tupAll : List PyData → Bool
  | [] => true
  | x :: xs => tupD x && tupAll xs
end
mutual
theorem Da.keep (k : Keep H H') : ∀ {v : V} {d : PyData}, Da K H v d → tupD d = true → Da K H' v d
  | _, _, .non, _ => .non
  | _, _, .bl b, _ => .bl b
  | _, _, .int i, _ => .int i
  | _, _, .str x, _ => .str x
  | _, _, .tup s a, h => .tup (k.sqT s) (DaAll.keep k a (by simpa [tupD] using h))
  | _, _, .lst _ _ _, h => by simp [tupD] at h
  | _, _, .dct _ _ _, h => by simp [tupD] at h
theorem DaAll.keep (k : Keep H H') : ∀ {vs : List V} {ds : List PyData}, DaAll K H vs ds → tupAll ds = true → DaAll K H' vs ds
  | _, _, .nil, _ => .nil
  | _, _, .cons (d := d) (ds := ds) h t, z => by
    have z2 : tupD d = true ∧ tupAll ds = true := by simpa [tupAll] using z
    exact .cons (Da.keep k h z2.1) (DaAll.keep k t z2.2)
end
mutual
theorem Da.dp : ∀ {v : V} {d : PyData}, Da K H v d → tupD d = true → Dp K H v d
  | _, _, .non, _ => .non
  | _, _, .bl b, _ => .bl b
  | _, _, .int i, _ => .int i
  | _, _, .str x, _ => .str x
  | _, _, .tup s a, h => .tup s (DaAll.dp a (by simpa [tupD] using h))
  | _, _, .lst _ _ _, h => by simp [tupD] at h
  | _, _, .dct _ _ _, h => by simp [tupD] at h
theorem DaAll.dp : ∀ {vs : List V} {ds : List PyData}, DaAll K H vs ds → tupAll ds = true → DpAll K H vs ds
  | _, _, .nil, _ => .nil
  | _, _, .cons (d := d) (ds := ds) h t, z => by
    have z2 : tupD d = true ∧ tupAll ds = true := by simpa [tupAll] using z
    exact .cons (Da.dp h z2.1) (DaAll.dp t z2.2)
end
theorem tupAll_of : ∀ {ds : List PyData}, (∀ d ∈ ds, tupD d = true) → tupAll ds = true
  | [], _ => by simp [tupAll]
  | d :: ds, h => by
    simp [tupAll, h d List.mem_cons_self, tupAll_of fun e he => h e (List.mem_cons_of_mem _ he)]
end
end G

/-! Plain statements: what is drawn, and when it is right. -/
namespace LW
open PySem L2 G
inductive Plain
  | nam (p n : Str) (ws : List Str) (i j : Int)
  | lea (p : Str) (dj : PyData) (g h i j : Int) (t : Option Int)
def timesP : Option Int → PyData
  | none => .none
  | some i => .int i
abbrev chD (ws : List Str) : PyData := .tuple (ws.map PyData.str)
abbrev stD (i j : Int) : PyData := .tuple [.int i, .int j]
def Plain.d : Plain → PyData
  | .nam p n ws i j => .tuple [.str "n", .str p, .str n, chD ws, stD i j]
  | .lea p dj g h i j t => .tuple [.str "l", .str p, dj, stD g h, stD i j, timesP t]
structure Span (i j : Int) : Prop where
  lo : 0 ≤ i
  le : i ≤ j
  hi : j ≤ 10 ^ 30
def Plain.Ok : Plain → Prop
  | .nam p n ws i j => isWordD (.str p) = true ∧ isWordD (.str n) = true ∧ isChainD (chD ws) 4 = true ∧ Span i j
  | .lea p dj g h i j t => isWordD (.str p) = true ∧ subjD dj = true ∧ Span g h ∧ Span i j ∧ ∀ x, t = some x → 0 ≤ x ∧ x ≤ 9
theorem span_ok {i j : Int} (s : Span i j) : isStretchD (stD i j) = true := by
  have := s.lo
  have := s.le
  have := s.hi
  show (decide (0 ≤ i) && decide (i ≤ 10 ^ 30) && (decide (0 ≤ j) && decide (j ≤ 10 ^ 30)) && decide (i ≤ j)) = true
  simp only [Bool.and_eq_true, decide_eq_true_eq]
  omega
theorem times_ok {t : Option Int} (h : ∀ x, t = some x → 0 ≤ x ∧ x ≤ 9) : isTimesD (timesP t) = true := by
  cases t with
  | none => rfl
  | some i =>
    obtain ⟨h0, h9⟩ := h i rfl
    show (decide (0 ≤ i) && decide (i ≤ 9)) = true
    simp only [Bool.and_eq_true, decide_eq_true_eq]
    exact ⟨h0, h9⟩
theorem letters_strOk {z : Str} (h : isWordD (.str z) = true) : PyData.strOk z = true := by
  have h2 : (decide (1 ≤ z.length) && decide (z.length ≤ 8) && lettersB z.cps.toList) = true := h
  simp only [Bool.and_eq_true] at h2
  have q : z.cps.toList.all (fun c => decide (c < 0x110000)) = true := List.all_eq_true.mpr fun c hc => by
    have m := of_decide_eq_true (List.all_eq_true.mp h2.2 c hc)
    have := (letter_mem m).2
    exact decide_eq_true (by omega)
  rw [Array.all_toList] at q
  exact q
theorem word_okStr {d : PyData} (h : isWordD d = true) : okStr d := fun z e => by
  subst e
  obtain ⟨y, e, _, l⟩ := word_inv h
  cases e
  exact ⟨by rw [sizeLine_eq]; omega, letters_strOk h⟩
theorem words_strOk {ws : List Str} {tp : Int} (h : isChainD (chD ws) tp = true) : ∀ z ∈ ws, PyData.strOk z = true := fun z hz => by
  have h2 : (decide (1 ≤ (ws.map PyData.str).length) && decide (((ws.map PyData.str).length : Int) ≤ tp + 1) && (ws.map PyData.str).all isWordD) = true := h
  simp only [Bool.and_eq_true] at h2
  exact letters_strOk (List.all_eq_true.mp h2.2 _ (List.mem_map.mpr ⟨z, hz, rfl⟩))
theorem chain_okTup {d : PyData} {tp : Int} (ht : tp ≤ 1000) (h : isChainD d tp = true) : okTup d := fun ds e => by
  subst e
  obtain ⟨ws, e, _, l, _⟩ := chain_inv h
  cases e
  refine ⟨fun x hx z ez => ?_, by rw [List.length_map]; omega⟩
  subst ez
  obtain ⟨y, hy, e⟩ := List.mem_map.mp hx
  cases e
  obtain ⟨ws2, e2, _, _, w8⟩ := chain_inv h
  have e3 : ws = ws2 := by
    have := congrArg wordsD e2
    rwa [wordsD_chain, wordsD_chain] at this
  subst e3
  exact ⟨by have := w8 z hy; rw [sizeLine_eq]; omega, words_strOk h z hy⟩
theorem chain_flat {ws : List Str} : tupD (chD ws) = true := by
  simp only [tupD]
  exact tupAll_of fun d hd => by
    obtain ⟨z, _, rfl⟩ := List.mem_map.mp hd
    rfl
theorem chain_tupD {d : PyData} {tp : Int} (h : isChainD d tp = true) : tupD d = true := by
  obtain ⟨ws, rfl, _⟩ := chain_inv h
  exact chain_flat
/-- a subject's two forms -/
theorem subj_cases {d : PyData} (h : subjD d = true) : (∃ ws, d = chD ws ∧ isChainD (chD ws) 4 = true) ∨ ∃ (m : Int) (wss : List (List Str)), d = .tuple [.int m, .tuple (wss.map chD)] ∧ isChainD d 4 = false ∧ 1 ≤ wss.length ∧ wss.length ≤ 4 ∧ (∀ ws ∈ wss, isChainD (chD ws) 4 = true) ∧ 1 ≤ m ∧ m ≤ (wss.length : Int) ∧ wss.Nodup := by
  unfold subjD at h
  by_cases cn : isChainD d 4 = true
  · obtain ⟨ws, rfl, _⟩ := chain_inv cn
    exact .inl ⟨ws, rfl, cn⟩
  · have c2 : isChainD d 4 = false := by simpa using cn
    rw [c2, Bool.false_or] at h
    obtain ⟨n, c, rfl⟩ : ∃ n c, d = .tuple [n, c] := by
      unfold shareD at h
      split at h
      · exact ⟨_, _, rfl⟩
      · cases h
    have h2 : (unlikeD c && intInD n 1 (lenD c)) = true := h
    rw [Bool.and_eq_true] at h2
    obtain ⟨u, hn⟩ := h2
    obtain ⟨cs, rfl⟩ : ∃ cs, c = .tuple cs := by cases c <;> first | exact ⟨_, rfl⟩ | cases u
    obtain ⟨m, rfl⟩ : ∃ m, n = .int m := by cases n <;> first | exact ⟨_, rfl⟩ | cases hn
    have u2 : (decide (1 ≤ cs.length) && decide (cs.length ≤ 4) && cs.all (isChainD · 4) && decide (cs.map wordsD).Nodup) = true := u
    simp only [Bool.and_eq_true, decide_eq_true_eq] at u2
    have hn2 : (decide (1 ≤ m) && decide (m ≤ (cs.length : Int))) = true := hn
    simp only [Bool.and_eq_true, decide_eq_true_eq] at hn2
    have e : cs = (cs.map wordsD).map chD := by
      rw [List.map_map]
      refine ((List.map_congr_left fun x hx => ?_).trans (List.map_id cs)).symm
      obtain ⟨ws, rfl, _⟩ := chain_inv (List.all_eq_true.mp u2.1.2 x hx)
      show chD (wordsD (.tuple (ws.map PyData.str))) = _
      rw [wordsD_chain]
      rfl
    refine .inr ⟨m, cs.map wordsD, by rw [← e], c2, by simpa using u2.1.1.1, by simpa using u2.1.1.2, fun ws hw => ?_, hn2.1, by simpa using hn2.2, u2.2⟩
    obtain ⟨x, hx, rfl⟩ := List.mem_map.mp hw
    have cx := List.all_eq_true.mp u2.1.2 x hx
    obtain ⟨ws, rfl, _⟩ := chain_inv cx
    rw [wordsD_chain]
    exact cx
theorem share_subj {m : Int} {wss : List (List Str)} (l1 : 1 ≤ wss.length) (l4 : wss.length ≤ 4) (ch : ∀ ws ∈ wss, isChainD (chD ws) 4 = true) (m1 : 1 ≤ m) (m2 : m ≤ (wss.length : Int)) (nd : wss.Nodup) : subjD (.tuple [.int m, .tuple (wss.map chD)]) = true := by
  have ew : (wss.map chD).map wordsD = wss := by
    rw [List.map_map]
    exact (List.map_congr_left fun q _ => wordsD_chain q).trans (List.map_id wss)
  have u : unlikeD (.tuple (wss.map chD)) = true := by
    show (decide (1 ≤ (wss.map chD).length) && decide ((wss.map chD).length ≤ 4) && (wss.map chD).all (isChainD · 4) && decide ((wss.map chD).map wordsD).Nodup) = true
    rw [ew, List.length_map]
    simp only [Bool.and_eq_true, decide_eq_true_eq]
    refine ⟨⟨⟨l1, l4⟩, List.all_eq_true.mpr fun x hx => ?_⟩, nd⟩
    obtain ⟨ws, hw, rfl⟩ := List.mem_map.mp hx
    exact ch ws hw
  unfold subjD
  have s : shareD (.tuple [.int m, .tuple (wss.map chD)]) = true := by
    show (unlikeD (.tuple (wss.map chD)) && (decide (1 ≤ m) && decide (m ≤ ((wss.map chD).length : Int)))) = true
    rw [u, List.length_map]
    simp only [Bool.true_and, Bool.and_eq_true, decide_eq_true_eq]
    exact ⟨m1, m2⟩
  rw [s, Bool.or_true]
theorem subj_tupD {d : PyData} (h : subjD d = true) : tupD d = true := by
  rcases subj_cases h with ⟨ws, rfl, c⟩ | ⟨m, wss, rfl, _, _, _, _, _⟩
  · exact chain_flat
  · simp only [tupD, tupAll, Bool.true_and, Bool.and_true]
    exact tupAll_of fun d hd => by
      obtain ⟨z, _, rfl⟩ := List.mem_map.mp hd
      exact chain_flat
theorem subj_okSub {d : PyData} (h : subjD d = true) : okSub d := by
  rcases subj_cases h with ⟨ws, rfl, c⟩ | ⟨m, wss, rfl, _, l1, l4, ch, _⟩
  · refine ⟨chain_okTup (by decide) c, fun ds e x hx es ee => ?_⟩
    cases e
    obtain ⟨z, _, rfl⟩ := List.mem_map.mp hx
    cases ee
  · refine ⟨fun ds e => ?_, fun ds e x hx es ee y hy => ?_⟩
    · cases e
      refine ⟨fun x hx z ez => ?_, by simp⟩
      subst ez
      simp at hx
    · cases e
      simp only [List.mem_cons, List.not_mem_nil, or_false] at hx
      rcases hx with rfl | rfl
      · cases ee
      · cases ee
        obtain ⟨ws, hw, rfl⟩ := List.mem_map.mp hy
        exact chain_okTup (by decide) (ch ws hw)
theorem Plain.flat {pl : Plain} (ok : pl.Ok) : tupD pl.d = true := by
  cases pl with
  | nam p n ws i j =>
    simp only [Plain.d, tupD, tupAll, Bool.true_and, Bool.and_true]
    exact tupAll_of fun d hd => by
      obtain ⟨z, _, rfl⟩ := List.mem_map.mp hd
      rfl
  | lea p dj g h i j t =>
    have s := subj_tupD ok.2.1
    have e : tupD (timesP t) = true := by cases t <;> rfl
    simp only [Plain.d, tupD, tupAll, Bool.true_and, Bool.and_true, s, e]
theorem word_isWord {y : Str} (h : WordQ y) : isWordD (.str y) = true := by
  obtain ⟨l1, l6, c⟩ := h
  show (decide (1 ≤ y.length) && decide (y.length ≤ 8) && lettersB y.cps.toList) = true
  simp only [Bool.and_eq_true, decide_eq_true_eq]
  refine ⟨⟨l1, by omega⟩, List.all_eq_true.mpr fun x hx => decide_eq_true ?_⟩
  rw [letters_list, List.mem_range'_1]
  have := c x hx
  unfold LetterQ at this
  omega
theorem drawn_chain {x : Str} {ws : List Str} {tp : Int} (hx : WordQ x) (hw : ∀ y ∈ ws, WordQ y) (l : (ws.length : Int) ≤ tp) : isChainD (chD (x :: ws)) tp = true := by
  show (decide (1 ≤ ((x :: ws).map PyData.str).length) && decide ((((x :: ws).map PyData.str).length : Int) ≤ tp + 1) && ((x :: ws).map PyData.str).all isWordD) = true
  simp only [Bool.and_eq_true, decide_eq_true_eq, List.length_map, List.length_cons]
  refine ⟨⟨by omega, by omega⟩, List.all_eq_true.mpr fun d hd => ?_⟩
  obtain ⟨z, hz, rfl⟩ := List.mem_map.mp hd
  rcases List.mem_cons.mp hz with rfl | hz
  · exact word_isWord hx
  · exact word_isWord (hw z hz)
end LW

/-! What the law hands in is good. -/
namespace LW
open PySem L2 G
theorem isWord_pc {d : PyData} (h : isWordD d = true) : Pc 0 82 d := by
  obtain ⟨z, rfl, l1, l8⟩ := word_inv h
  exact Pc.str (n := 8) l8 (by decide) (letters_strOk h)
theorem chain_pc {ws : List Str} {tp : Int} (t6 : tp ≤ 6) (h : isChainD (chD ws) tp = true) : Pc 1 591 (chD ws) := by
  have h2 : (decide (1 ≤ (ws.map PyData.str).length) && decide (((ws.map PyData.str).length : Int) ≤ tp + 1) && (ws.map PyData.str).all isWordD) = true := h
  simp only [Bool.and_eq_true, decide_eq_true_eq] at h2
  exact Pc.tup (k := 0) (n := 82) (m := 7) (fun d hd => isWord_pc (List.all_eq_true.mp h2.2 d hd)) (by have := h2.1.2; omega) (by decide)
theorem rows_pc {wss : List (List Str)} {tp : Int} (t6 : tp ≤ 6) (ch : ∀ ws ∈ wss, isChainD (chD ws) tp = true) : ∀ d ∈ wss.map chD, Pc 1 591 d := fun d hd => by
  obtain ⟨ws, hw, rfl⟩ := List.mem_map.mp hd
  exact chain_pc t6 (ch ws hw)
theorem subj_good {d : PyData} (h : subjD d = true) : Good d := by
  rcases subj_cases h with ⟨ws, rfl, c⟩ | ⟨m, wss, rfl, _, l1, l4, ch, m1, m2, _⟩
  · exact (chain_pc (by decide) c).up (by decide) (by decide)
  · have r := Pc.tup (m := 4) (rows_pc (by decide) ch) (by rw [List.length_map]; exact l4) (by decide)
    have i : Pc 2 2375 (.int m) := (Pc.int (i := m) (Nat.lt_of_le_of_lt (show m.natAbs ≤ 4 by omega) (by decide +kernel))).up (by decide) (by decide)
    refine (Pc.tup (k := 2) (n := 2375) (m := 2) (ds := [.int m, .tuple (wss.map chD)]) (fun d hd => ?_) (by show 2 ≤ 2; decide) (by decide)).up (by decide) (by decide)
    simp only [List.mem_cons, List.not_mem_nil, or_false] at hd
    rcases hd with rfl | rfl
    · exact i
    · exact r
theorem word_good {z : Str} (h : WordQ z) : Good (.str z) := (isWord_pc (word_isWord h)).up (by decide) (by decide)
theorem odd_good {d : PyData} (h : OddQ d) : Good d := (odd_pc h).up (by decide) (by decide)
theorem span_good {i j : Int} (hi : i.natAbs < 10 ^ 60) (hj : j.natAbs < 10 ^ 60) : Good (.tuple [.int i, .int j]) :=
  (Pc.tup (k := 0) (n := 61) (m := 2) (ds := [.int i, .int j]) (fun d hd => by
    simp only [List.mem_cons, List.not_mem_nil, or_false] at hd
    rcases hd with rfl | rfl
    · exact Pc.int hi
    · exact Pc.int hj) (by show 2 ≤ 2; decide) (by decide)).up (by decide) (by decide)
theorem pcB_good {d : PyData} (h : pcB d = true) : Good d := (pcB_ok h).up (by decide) (by decide)
/-- a list, a tuple, of at most five that fit -/
theorem fiveL {K : PySem.W.Frag} {H : Hp} {Q : VK} {p : Addr} {xs : List V} {ds : List PyData} (np : p ≠ sysModules) (hp : H p = some (.lst xs)) (h : DaAll K H xs ds) (few : ds.length ≤ 5) (f : ∀ d ∈ ds, Fit d) (q : Q (.str (PyData.list ds).shown) H) : rRepr K [.ref p] H Q := by
  refine ⟨_, .list ds, rfl, .lst np (SqL.of hp) h, ?_, ?_, ?_, q⟩
  · simp only [PyData.showable]
    exact show_all fun d hd => (f d hd).1
  · have := depth_all fun d hd => (f d hd).2.1
    simp only [PyData.depth]
    omega
  · have a := list_len (PyData.shownAll ds)
    have b := sum_all (n := 300000) fun d hd => (f d hd).2.2
    rw [shown_len] at a
    show (listText (PyData.shownAll ds)).length ≤ sizeLine
    rw [sizeLine_eq]
    omega
theorem fiveT {K : PySem.W.Frag} {H : Hp} {Q : VK} {p : Addr} {xs : List V} {ds : List PyData} (hp : SqT K H p xs) (h : DaAll K H xs ds) (few : ds.length ≤ 5) (f : ∀ d ∈ ds, Fit d) (q : Q (.str (PyData.tuple ds).shown) H) : rRepr K [.ref p] H Q := by
  refine ⟨_, .tuple ds, rfl, .tup hp h, ?_, ?_, ?_, q⟩
  · simp only [PyData.showable]
    exact show_all fun d hd => (f d hd).1
  · have := depth_all fun d hd => (f d hd).2.1
    simp only [PyData.depth]
    omega
  · have a := tuple_len (PyData.shownAll ds)
    have b := sum_all (n := 300000) fun d hd => (f d hd).2.2
    rw [shown_len] at a
    show (tupleText (PyData.shownAll ds)).length ≤ sizeLine
    rw [sizeLine_eq]
    omega
theorem natAbs_big {i : Int} (h0 : 0 ≤ i) (h1 : i ≤ 10 ^ 30) : i.natAbs < 10 ^ 60 := by
  have a : (i.natAbs : Int) ≤ 10 ^ 30 := by omega
  have b : i.natAbs ≤ 10 ^ 30 := by exact_mod_cast a
  exact Nat.lt_of_le_of_lt b (by decide +kernel)
/-! ### tables of code objects stay -/
theorem tabs_old {l : List (Addr × Str)} {H H' : Hp} {p : Addr} {kvs : List (Key × V)} (hp : H p = some (.dK kvs)) (o : Old p H H') (t : LamX.Tabs l H) : LamX.Tabs l H' := fun q hq => by
  obtain ⟨ps, h1, h2, h3⟩ := t q hq
  refine ⟨ps, o _ _ h1 (ne_of h1 hp (by intro z; cases z)), h2, fun pos cv hc => ?_⟩
  obtain ⟨c, e1, e2⟩ := h3 pos cv hc
  exact ⟨c, e1, o _ _ e2 (ne_of e2 hp (by intro z; cases z))⟩
theorem tabs_same {l : List (Addr × Str)} {H H' : Hp} (s : Same H H') (t : LamX.Tabs l H) : LamX.Tabs l H' := t.ext s
/-! ### what is not a table stays where a lambda is made -/
theorem ext_sqT {K : PySem.W.Frag} {H H' : Hp} (e : LamX.ExtN H H') {a : Addr} {xs : List V} (s : SqT K H a xs) : SqT K H' a xs := by
  rcases s with (s | ⟨o, s⟩) | s
  · exact .inl (.inl (e _ _ s (fun _ z => by cases z)))
  · exact .inl (.inr ⟨o, e _ _ s (fun _ z => by cases z)⟩)
  · exact .inr s
theorem ext_sqL {K : PySem.W.Frag} {H H' : Hp} (e : LamX.ExtN H H') {a : Addr} {xs : List V} (s : SqL K H a xs) : SqL K H' a xs := by
  rcases s with (s | ⟨o, s⟩) | s
  · exact .inl (.inl (e _ _ s (fun _ z => by cases z)))
  · exact .inl (.inr ⟨o, e _ _ s (fun _ z => by cases z)⟩)
  · exact .inr s
mutual
theorem ext_da {K : PySem.W.Frag} {H H' : Hp} (e : LamX.ExtN H H') : ∀ {v : V} {d : PyData}, Da K H v d → Da K H' v d
  | _, _, .non => .non
  | _, _, .bl b => .bl b
  | _, _, .int i => .int i
  | _, _, .str x => .str x
  | _, _, .lst n s a => .lst n (ext_sqL e s) (ext_daAll e a)
  | _, _, .tup s a => .tup (ext_sqT e s) (ext_daAll e a)
  | _, _, .dct s a b => .dct (e _ _ s (fun _ z => by cases z)) (ext_daAll e a) (ext_daAll e b)
theorem ext_daAll {K : PySem.W.Frag} {H H' : Hp} (e : LamX.ExtN H H') : ∀ {vs : List V} {ds : List PyData}, DaAll K H vs ds → DaAll K H' vs ds
  | _, _, .nil => .nil
  | _, _, .cons h t => .cons (ext_da e h) (ext_daAll e t)
end
theorem ext_pen {H H' : Hp} (e : LamX.ExtN H H') {p c : Addr} {cells : List Int} {t l : Int} (N : PenAt H p c cells t l) : PenAt H' p c cells t l := ⟨e _ _ N.pen (fun _ z => by cases z), e _ _ N.lst (fun _ z => by cases z), N.few, N.t0⟩
theorem same_ext {H H' : Hp} (s : Same H H') : LamX.ExtN H H' := fun b o h _ => s b o h
end LW

/-! What the law draws: days, namings, subjects, leaves. -/
namespace LW
open PySem L2 G
abbrev sSubL : Stmt := top 50
/-- a def, as the walk needs it -/
structure Fx (P : Program) (w : World) (K : PySem.W.Frag) (mg : Str → Option Value) (base : Heap) (CX : CXT) (k : Nat) (x : Str) (f : Addr) (fd : FuncData) (ps : List Str) (sp : Sp) : Prop where
  ok : FnOk P w K mg base CX k f fd ps sp
  m : mg x = some (.ref f)
  k : PySem.W.keepIn K (.ref f) = true
  b : Binds K fd ps []
theorem PenAt.keep {H H' : Hp} {p c : Addr} {cells : List Int} {t l : Int} (N : PenAt H p c cells t l) (o : Old p H H') : Keep H H' := Keep.but N.pen o
/-- the people and the words -/
structure Words (H : Hp) (o1 o2 : Addr) (people words : List Str) : Prop where
  h1 : H o1 = some (.lst (people.map V.str))
  h2 : H o2 = some (.lst (words.map V.str))
  l1 : 1 ≤ people.length
  l2 : 1 ≤ words.length
  u1 : people.length ≤ 1000
  u2 : words.length ≤ 1000
  q1 : ∀ y ∈ people, WordQ y
  q2 : ∀ y ∈ words, WordQ y
theorem Words.old {H H' : Hp} {p o1 o2 c : Addr} {cells : List Int} {t l : Int} {people words : List Str} (W : Words H o1 o2 people words) (N : PenAt H p c cells t l) (o : Old p H H') : Words H' o1 o2 people words :=
  ⟨o _ _ W.h1 (ne_of W.h1 N.pen (by intro z; cases z)), o _ _ W.h2 (ne_of W.h2 N.pen (by intro z; cases z)), W.l1, W.l2, W.u1, W.u2, W.q1, W.q2⟩
theorem Words.same {H H' : Hp} {o1 o2 : Addr} {people words : List Str} (W : Words H o1 o2 people words) (s : Same H H') : Words H' o1 o2 people words := ⟨s _ _ W.h1, s _ _ W.h2, W.l1, W.l2, W.u1, W.u2, W.q1, W.q2⟩
def spSubL (K : PySem.W.Frag) : Sp := fun vs H Q _ => ∃ (p c o1 o2 : Addr) (cells : List Int) (t l : Int) (people words : List Str), vs = [.ref p, .ref o1, .ref o2, .int 4] ∧ PenAt H p c cells t l ∧ t ≤ 600000 ∧ Words H o1 o2 people words ∧
  ∀ (v : V) (d : PyData) (t' l' : Int) (H' : Hp), subjD d = true → Da K H' v d → t' ≤ t + 30 → PenAt H' p c cells t' l' → Old p H H' → Q v H'
theorem daStrs {K : PySem.W.Frag} {H : Hp} : ∀ ws : List Str, DaAll K H (ws.map V.str) (ws.map PyData.str)
  | [] => .nil
  | w :: ws => .cons (.str w) (daStrs ws)
theorem da_stretch {K : PySem.W.Frag} {H : Hp} {q : Addr} {i j : Int} (h : SqT K H q [.int i, .int j]) : Da K H (.ref q) (stD i j) := .tup h (.cons (.int i) (.cons (.int j) .nil))
end LW

/-! A drawn subject, a drawn leave. -/
namespace LW
open PySem L2 G
theorem eqv_chain (l m : List Str) : PyData.eqv (chD l) (chD m) = decide (l = m) := eqvTup l m
theorem shaped_list {wss : List (List Str)} (h : ∀ ws ∈ wss, ∀ y ∈ ws, PyData.strOk y = true) : SeqAt.shaped (.list (wss.map chD)) = true := by
  have a : PyData.canLayAll0 (wss.map chD) = true := by
    induction wss with
    | nil => simp [PyData.canLayAll0]
    | cons w r ih =>
      have h1 : (chD w).canLay0 = true := by simp only [chD, PyData.canLay0, layStrs w (h w List.mem_cons_self)]
      simp [PyData.canLayAll0, h1, ih fun ws hw => h ws (List.mem_cons_of_mem _ hw)]
  have b : PyData.depthAll (wss.map chD) ≤ 1 := by
    clear h a
    induction wss with
    | nil => simp [PyData.depthAll]
    | cons w r ih =>
      have h1 : (chD w).depth ≤ 1 := by simp only [chD, PyData.depth, depStrs]; omega
      simp only [List.map_cons, PyData.depthAll]
      omega
  have h2 : (PyData.list (wss.map chD)).depth ≤ 64 := by simp only [PyData.depth]; omega
  simp only [SeqAt.shaped, PyData.canLay0, a, h2, decide_true, Bool.and_self]
theorem any_chain (wss : List (List Str)) (ws : List Str) : (wss.map chD).any (fun z => PyData.eqv z (chD ws)) = decide (ws ∈ wss) := by
  rw [List.any_map]
  induction wss with
  | nil => simp
  | cons w r ih =>
    rw [List.any_cons, ih]
    show (PyData.eqv (chD w) (chD ws) || _) = _
    rw [eqv_chain]
    by_cases e : w = ws
    · subst e
      simp
    · have e2 : ¬ ws = w := fun z => e z.symm
      simp [e, e2]
theorem dp_chains {K : PySem.W.Frag} {H : Hp} : ∀ {ks : List (Addr × List Str)}, (∀ q ∈ ks, SqT K H q.1 (q.2.map V.str)) → DpAll K H (ks.map fun q => V.ref q.1) ((ks.map Prod.snd).map chD)
  | [], _ => .nil
  | q :: ks, h => .cons (dpTup (h q List.mem_cons_self)) (dp_chains fun y hy => h y (List.mem_cons_of_mem _ hy))
theorem da_all {K : PySem.W.Frag} {H : Hp} : ∀ {ks : List (Addr × List Str)}, (∀ q ∈ ks, SqT K H q.1 (q.2.map V.str)) → DaAll K H (ks.map fun q => V.ref q.1) ((ks.map Prod.snd).map chD)
  | [], _ => .nil
  | q :: ks, h => .cons (.tup (h q List.mem_cons_self) (daStrs q.2)) (da_all fun y hy => h y (List.mem_cons_of_mem _ hy))
section
variable {P : Program} {w : World} {K : PySem.W.Frag} {mg : Str → Option Value} {base : Heap}
variable {fD fK fS fC fY fJ : Addr} {fdD fdK fdS fdC fdY fdJ : FuncData}
abbrev nmJ : List Str := ["_law_pen_here", "_law_people", "_law_words_here", "_law_top", "_law_found", "_law_k", "_law_some"]
theorem scSubL : FnScope nmJ ["_law_pen_here", "_law_people", "_law_words_here", "_law_top"] (defScope sSubL) := ⟨rfl, rfl, rfl, by decide +kernel, rfl, by decide +kernel, by decide +kernel⟩
theorem ok_subL {f : Addr} {fd : FuncData} (F : Fun K "_law_subject" "_law_subject" sSubL f fd) (R : mg "range" = none) (Le : mg "len" = none) (Tu : mg "tuple" = none)
    (GD : Fx P w K mg base CX0 1 "_law_draw" fD fdD ["_law_pen_here", "_law_many"] spDraw) (GC : Fx P w K mg base CX0 3 "_law_chain" fC fdC ["_law_pen_here", "_law_people", "_law_words_here", "_law_top"] spChain) :
    FnOk P w K mg base CX0 4 f fd ["_law_pen_here", "_law_people", "_law_words_here", "_law_top"] (spSubL K) := by
  refine F.ok scSubL (fun vs H Q E h => ?_) (fun cdv A outer s H vs Q E hr h => ?_)
  · obtain ⟨p, c, o1, o2, cells, t, l, people, words, rfl, _⟩ := h
    rfl
  · obtain ⟨p, c, o1, o2, cells, t, l, people, words, rfl, N, ht, W, k⟩ := h
    have hu : (A.deeper (PyProof.Rows.envOfC "_law_subject" (defScope sSubL) s.heap.objs.size f cdv)).units + 65 < cLine := by have := hr.un; omega
    refine ⟨_, pss_cons (ps_if (pt_cmpR op_eq (pe_call GD.ok (hr.mono (by decide)) (by rfl) GD.m GD.k GD.b .nil pass0 (pa_cons (pv 0) (pa_cons pe_int pa_nil))) pe_int (nomark _)) (pss_one (ps_ret (pe_call GC.ok hr (by rfl) GC.m GC.k GC.b .nil pass0 (pa_cons (pv 0) (pa_cons (pv 1) (pa_cons (pv 2) (pa_cons (pv 3) pa_nil))))))) pss_nil)
      (pss_cons (ps_set (i := 4) scSubL.nd rfl (Or.inl rfl) (pe_lst pa_nil))
      (pss_cons (ps_for PassesOwn.never rfl (pi_range1 rfl R (pa_cons (pe_op op_add pe_int (pe_call GD.ok (hr.mono (by decide)) (by rfl) GD.m GD.k GD.b .nil pass0 (pa_cons (pv 0) (pa_cons pe_int pa_nil)))) pa_nil)) (pg_name (i := 5) scSubL.nd rfl (Or.inl rfl))
        (pss_cons (ps_set (i := 6) scSubL.nd rfl (Or.inl rfl) (pe_call GC.ok hr (by rfl) GC.m GC.k GC.b .nil pass0 (pa_cons (pv 0) (pa_cons (pv 1) (pa_cons (pv 2) (pa_cons (pv 3) pa_nil))))))
        (pss_one (ps_if (pt_cmpR (op_notInD hu) (pv 6) (pv 4) rfl) (pss_one (ps_expr (pe_bm PySem.F.plainAttrs_list PySem.F.slot_list_append PySem.F.type_list_append mt_append (pv 4) (pa_cons (pv 6) pa_nil)))) pss_nil))))
      (pss_one (ps_ret (pe_tup (pa_cons (pe_op op_add pe_int (pe_call GD.ok (hr.mono (by decide)) (by rfl) GD.m GD.k GD.b .nil pass0 (pa_cons (pv 0) (pa_cons (pe_callB call_len (by rfl) Le PySem.boot_len (pa_cons (pv 4) pa_nil)) pa_nil)))) (pa_cons (pe_callTy call_tuple_of (by rfl) Tu (by decide +kernel) (pa_cons (pv 4) pa_nil)) pa_nil))))))), ?_⟩
    refine ⟨_, rfl, p, c, cells, t, l, 2, rfl, N, by omega, by decide, by decide, fun r t1 l1 H1 r0 r1 ht1 N1 old1 => ?_⟩
    have W1 := W.old N old1
    refine ⟨rfl, _, rfl, ?_⟩
    refine ite2 (fun _ => ?_) (fun _ => ?_)
    · refine ⟨_, rfl, _, rfl, _, rfl, _, rfl, p, c, o1, o2, cells, t1, l1, 4, people, words, rfl, N1, by omega, by decide, by decide, W1.h1, W1.h2, W1.l1, W1.u1, W1.l2, W1.u2, fun q x ws t2 l2 H2 hx hws lw gq nq ht2 N2 old2 => ?_⟩
      have ch := drawn_chain (W1.q1 _ hx) (fun y hy => W1.q2 _ (hws y hy)) lw
      refine k _ (chD (x :: ws)) t2 l2 H2 ?_ (.tup (SqT.of gq) (daStrs _)) (by omega) N2 (Old.trans old1 old2)
      unfold subjD
      rw [ch, Bool.true_or]
    · refine ⟨(by show 0 ≤ sizeLine; decide), fun D hD => ?_⟩
      have s2 := same_new (o := .lst []) hD
      have npD := N1.ne hD
      refine ⟨_, rfl, p, c, cells, t1, l1, 4, rfl, N1.same s2, by omega, by decide, by decide, fun n t3 l3 H3 n0 n1 ht3 N3 old3 => ?_⟩
      have D3 : H3 D = some (.lst []) := old3 _ _ upd_same npD
      have W3 := (W1.same s2).old (N1.same s2) old3
      have base3 : ∀ b o, H1 b = some o → b ≠ p → H3 b = some o := fun b o e nb => old3 b o (s2 _ _ e) nb
      refine ⟨_, _, rfl, rfl, 1 + n, rfl, by omega, by omega, ?_⟩
      refine for_range (n := (1 + n).toNat) (fun i σ G => ∃ (v5 v6 : Option V) (ks : List (Addr × List Str)), σ = [some (.ref p), some (.ref o1), some (.ref o2), some (.int 4), some (.ref D), v5, v6] ∧ ks.length ≤ i ∧ (1 ≤ i → 1 ≤ ks.length) ∧ (ks.map Prod.snd).Nodup ∧
          (∀ q ∈ ks, SqT K G q.1 (q.2.map V.str) ∧ isChainD (chD q.2) 4 = true) ∧ G D = some (.lst (ks.map fun q => V.ref q.1)) ∧ Words G o1 o2 people words ∧ ∃ t4 l4 : Int, PenAt G p c cells t4 l4 ∧ t4 ≤ t3 + 6 * i ∧ Old p H1 G)
        ⟨_, _, [], rfl, Nat.zero_le _, by omega, List.nodup_nil, by simp, D3, W3, t3, l3, N3, by omega, base3⟩ (fun i σ G hi h => ?_) (fun σ G h => ?_)
      · obtain ⟨v5, v6, ks, rfl, lk, lk1, nd, hk, gD, WG, t4, l4, N4, ht4, O4⟩ := h
        refine ⟨_, rfl, _, rfl, _, rfl, _, rfl, p, c, o1, o2, cells, t4, l4, 4, people, words, rfl, N4, by omega, by decide, by decide, WG.h1, WG.h2, WG.l1, WG.u1, WG.l2, WG.u2, fun q x ws t5 l5 G5 hx hws lw gq nq ht5 N5 old5 => ?_⟩
        have ch := drawn_chain (WG.q1 _ hx) (fun y hy => WG.q2 _ (hws y hy)) lw
        have k5 := N4.keep old5
        have W5 := WG.old N4 old5
        have gD5 : G5 D = some (.lst (ks.map fun q => V.ref q.1)) := old5 _ _ gD npD
        have hk5 : ∀ y ∈ ks, SqT K G5 y.1 (y.2.map V.str) ∧ isChainD (chD y.2) 4 = true := fun y hy => ⟨k5.sqT (hk y hy).1, (hk y hy).2⟩
        have sq : SqT K G5 q ((x :: ws).map V.str) := SqT.of gq
        refine ⟨_, rfl, _, rfl, chD (x :: ws), (ks.map Prod.snd).map chD, dpTup sq, .lst (SqL.of gD5) (dp_chains fun y hy => (hk5 y hy).1), shapedTup _ (words_strOk ch), shaped_list (fun ws hw => ?_), _, rfl, ?_⟩
        · obtain ⟨y, hy, rfl⟩ := List.mem_map.mp hw
          exact words_strOk (hk y hy).2
        rw [any_chain]
        by_cases m : (x :: ws) ∈ ks.map Prod.snd
        · rw [decide_eq_true m]
          refine iteF ⟨_, _, ks, rfl, by omega, fun _ => ?_, nd, hk5, gD5, W5, t5, l5, N5, by omega, Old.trans O4 old5⟩
          obtain ⟨y, hy, _⟩ := List.mem_map.mp m
          exact List.length_pos_of_mem hy
        · rw [decide_eq_false m]
          refine iteT ?_
          have s6 : Keep G5 (upd G5 D (.lst ((ks.map fun q => V.ref q.1) ++ [V.ref q]))) := Keep.put gD5
          have hne : ∀ {b : Addr} {o : HO}, G5 b = some o → H1 b = some o → b ≠ D := fun {b o} _ e z => by
            rw [z, hD] at e
            cases e
          refine ⟨_, rfl, (.inl ⟨rfl, _, SqL.of gD5⟩), _, rfl, D, _, _, rfl, rfl, gD5, by rw [List.length_map, sizeLine_eq]; omega, ?_⟩
          refine ⟨_, _, ks ++ [(q, x :: ws)], rfl, by simp; omega, fun _ => by simp, ?_, fun y hy => ?_, by rw [upd_same, List.map_append]; rfl, ?_, t5, l5, ?_, by omega, fun b o e nb => ?_⟩
          · rw [List.map_append]
            refine List.nodup_append.mpr ⟨nd, by simp, fun a ha b hb e => ?_⟩
            rw [List.map_singleton, List.mem_singleton] at hb
            rw [e, hb] at ha
            exact m ha
          · rcases List.mem_append.mp hy with hy | hy
            · exact ⟨s6.sqT (hk5 y hy).1, (hk5 y hy).2⟩
            · rw [List.mem_singleton.mp hy]
              exact ⟨s6.sqT sq, ch⟩
          · exact ⟨by rw [upd_ne (hne W5.h1 W1.h1)]; exact W5.h1, by rw [upd_ne (hne W5.h2 W1.h2)]; exact W5.h2, W5.l1, W5.l2, W5.u1, W5.u2, W5.q1, W5.q2⟩
          · exact N5.put npD (fun z => by rw [z, N1.lst] at hD; cases hD)
          · rw [upd_ne fun z => by rw [z, hD] at e; cases e]
            exact old5 _ _ (O4 _ _ e nb) nb
      · obtain ⟨v5, v6, ks, rfl, lk, lk1, nd, hk, gD, WG, t4, l4, N4, ht4, O4⟩ := h
        have kl : 1 ≤ ks.length := lk1 (by omega)
        have k4 : ks.length ≤ 4 := by omega
        refine ⟨_, rfl, _, rfl, _, ks.length, rfl, .inl ⟨_, SqL.of gD, by rw [List.length_map]⟩, p, c, cells, t4, l4, _, rfl, N4, by omega, by omega, by omega, fun m t5 l5 H5 m0 m1 ht5 N5 old5 => ?_⟩
        have k5 := N4.keep old5
        have gD5 : H5 D = some (.lst (ks.map fun q => V.ref q.1)) := old5 _ _ gD npD
        refine ⟨_, _, rfl, rfl, _, rfl, D, ks.map (fun q => V.ref q.1), rfl, .inl ⟨SqL.of gD5, fun q hq => ?_⟩⟩
        have s6 := same_new (o := .tup (ks.map fun q => V.ref q.1)) hq
        refine ⟨(by show 2 ≤ sizeLine; decide), fun z hz => ?_⟩
        have s7 := same_new (o := .tup [V.int (1 + m), .ref q]) hz
        refine k _ (.tuple [.int (1 + m), .tuple ((ks.map Prod.snd).map chD)]) t5 l5 _ ?_ ?_ (by omega) ((N5.same s6).same s7) (Old.trans old1 (Old.trans O4 (Old.trans old5 (Old.trans (Same.old s6) (Same.old s7)))))
        · exact share_subj (by simpa using kl) (by simpa using k4) (fun ws hw => by obtain ⟨y, hy, rfl⟩ := List.mem_map.mp hw; exact (hk y hy).2) (by omega) (by rw [List.length_map]; omega) nd
        · refine .tup (SqT.of upd_same) (.cons (.int _) (.cons (.tup (SqT.of (s7 _ _ upd_same)) ?_) .nil))
          exact da_all fun y hy => (k5.trans ((Keep.same s6).trans (Keep.same s7))).sqT (hk y hy).1
end
end LW

/-! t[::-1], t a pair. -/
namespace G
open PySem PySem.Spec PyProof.Rows L2
section
variable {prog : Program} {w : World} {A : Around} {E : Value → Shared → Prop} {s : Shared}
theorem applied_back {sl : Addr} {tk : Tok} {Q : Int × Int × Nat → Shared → Prop} (hs : s.heap.IsSliceOf sl .none .none (.int (-1) tk)) (h : Q (1, -1, 2) s) : wpAny (model prog w) A (Builtin.Slice.sliceApplied (.ref sl) (pure (2 : Int))) Q E s := by
  obtain ⟨os, hos, _, hds⟩ := hs
  unfold Builtin.Slice.sliceApplied Builtin.Slice.sliceFields
  refine wpAny_bind (wpAny_bind (wpAny_field hos hds (x := .none) rfl (wpAny_bind (wpAny_field hos hds (x := .none) rfl (wpAny_bind (wpAny_field hos hds (x := .int (-1) tk) rfl (wpAny_pure ?_)))))))
  refine wpAny_bind (HT.slicePart_ (.int (-1) tk) ?_)
  show wpAny _ _ (if ((-1 : Int) == 0) = true then _ else _) _ _ s
  rw [if_neg (by decide)]
  refine wpAny_bind (HT.slicePart_ .none (wpAny_bind (HT.slicePart_ .none (wpAny_bind (wpAny_pure ?_)))))
  show wpAny _ _ (match Builtin.Slice.sliceAdjust none none (-1) (2 : Int) with | (lo, hi) => pure (lo, (-1 : Int), Builtin.Slice.slicePlaces lo hi (-1))) _ _ s
  have e : Builtin.Slice.sliceAdjust none none (-1) (2 : Int) = (1, -1) := by decide
  rw [e]
  exact wpAny_pure h
theorem pair_back {t sl : Addr} {u v : Value} {tk : Tok} {Q : Value → Shared → Prop} (ht : IsTup s.heap t [u, v].toArray) (hs : s.heap.IsSliceOf sl .none .none (.int (-1) tk))
    (h : Q (.ref s.heap.objs.size) { s with heap := s.heap.push { cls := .type "tuple", data := .seq [v, u].toArray } }) : wpAny (model prog w) A (getItem (.ref t) (.ref sl)) Q E s := by
  have hTs : s.TypeIs (.ref sl) "slice" := by
    obtain ⟨os, hos, hcs, _⟩ := hs
    exact ⟨os, hos, hcs⟩
  have room : sizeOk (.seq [v, u].toArray) := by
    show 2 ≤ sizeLine
    decide
  unfold getItem
  try with_reducible refine wpAny_holding ?_
  first | refine wpAny_bind (wpAny_pure ?_) | skip
  refine wpAny_bind (wpAny_sequenceKey ht.typeIs (by decide) (wpAny_bind (wpAny_callSpecial?_slot (name := Str.ofString "__getitem__") ht.typeIs PyProof.Rows.slot_tuple_getitem (wpAny_call_entry PyProof.Rows.slot_tuple_getitem ht.typeIs entry_tuple_getitem ?_ (args_tuple_getitem _ _)))))
  show wpAny _ _ (Builtin.Tuple.tupleItemsOf (.ref t) >>= _) _ _ s
  refine wpAny_bind (tupleItemsOf_ ht (wpAny_bind (wpAny_typeOf hTs ?_)))
  rw [if_pos (by decide)]
  refine wpAny_bind (applied_back hs ?_)
  show wpAny _ _ (if (((1 : Int) == 0 && (-1 : Int) == 1 && 2 == 2)) = true then _ else _) _ _ s
  rw [if_neg (by decide)]
  have e : ((List.range 2).filterMap fun (k : Nat) => [u, v].toArray[((1 : Int) + (k : Int) * (-1)).toNat]?).toArray = [v, u].toArray := by rfl
  rw [e]
  first
    | exact wpAny_bind (m := Builtin.Tuple.tupleExact _) (wpAny_newObj_type (wpAny_pure ⟨_, rfl, wpAny_pure h⟩) room)
    | exact wpAny_bind (m := Builtin.Tuple.tupleExact _) (wpAny_newObj_type (wpAny_bind (wpAny_pure (wpAny_pure ⟨_, rfl, wpAny_pure h⟩))) room)
    | exact wpAny_bind (wpAny_bind (m := Builtin.Tuple.tupleExact _) (wpAny_newObj_type (wpAny_pure (wpAny_pure ⟨_, rfl, wpAny_pure h⟩)) room))
    | exact wpAny_bind (wpAny_bind (m := Builtin.Tuple.tupleExact _) (wpAny_newObj_type (wpAny_pure ⟨_, rfl, wpAny_pure h⟩) room))
end
def tRevP (K : PySem.W.Frag) (te : TE) : TE := fun σ H Q => te σ H fun x H1 => ∃ a u v, x = .ref a ∧ SqT K H1 a [u, v] ∧ ∀ p, H1 p = none → Q (.ref p) (upd H1 p (.tup [v, u]))
theorem pe_revP {X : Cx} {e : Expr} {te : TE} {k : Nat} {p1 p2 p3 pos : Pos} (he : PE X e te) : PE X (.Subscript e (.Slice none none (some (.UnaryOp .USub (.Constant (.int 1) k p1) p2)) p3) pos) (tRevP X.K te) := by
  constructor
  intro pins s σ H Q I h
  refine Subscript_ (wpAny_mono (he.run pins s σ H _ I h) (fun v s1 hv => ?_) fun _ _ z => z)
  obtain ⟨x, H1, I1, r1, a, u1, u2, rfl, hx, q⟩ := hv
  cases r1
  have back : PO X (some (.UnaryOp .USub (.Constant (.int 1) k p1) p2)) (tPart (tUn (rU fun i => .int (-i)) (tC (.int 1)))) := po_some (pe_un un_neg pe_int)
  refine wpAny_Slice (wpAny_mono (po_none.run pins s1 σ H1 (fun o G => o = none ∧ G = H1) I1 ⟨rfl, rfl⟩) (fun vl s2 z2 => ?_) fun _ _ z => z)
  obtain ⟨l, H2, I2, pl, rfl, rfl⟩ := z2
  refine wpAny_mono (po_none.run pins s2 σ H2 (fun o G => o = none ∧ G = H2) I2 ⟨rfl, rfl⟩) (fun vu s3 z3 => ?_) fun _ _ z => z
  obtain ⟨uu, H3, I3, pu, rfl, rfl⟩ := z3
  refine wpAny_mono (back.run pins s3 σ H3 (fun o G => o = some (-1) ∧ G = H3) I3 ⟨1, rfl, -1, rfl, rfl, rfl⟩) (fun vs s4 z4 => ?_) fun _ _ z => z
  obtain ⟨o, H4, I4, ps, rfl, rfl⟩ := z4
  cases pl
  cases pu
  cases ps with
  | int i tk =>
  have I5 : Inv X pins σ H4 { s4 with heap := s4.heap.push { cls := .type "slice", data := .fields #[.none, .none, .int (-1) tk] } } := I4.kept (t' := s4.toks) fun b ob q => Heap.get?_push_of_some _ q
  obtain ⟨its, r, ht, hz⟩ := I5.tuple hx
  obtain ⟨w1, w2, rfl, r1, r2⟩ : ∃ w1 w2, its = [w1, w2] ∧ RelV u1 w1 ∧ RelV u2 w2 := by
    cases r with
    | cons a b =>
      cases b with
      | cons a' b' =>
        cases b'
        exact ⟨_, _, rfl, a, a'⟩
  refine tail_any (ops := [.ref a, .ref s4.heap.objs.size]) ht.typeIs (PyProof.Rows.slot_tuple_getitem.lookup) ?_ (by with_unfolding_all rfl)
  refine pair_back ht (Heap.IsSliceOf.new _ _ _ _) ?_
  refine ⟨.ref _, _, I5.laid (t' := s4.toks) (o := .tup [u2, u1]) (fun b ob q => Heap.get?_push_of_some _ q) (Nat.le_refl _) ?_, rfl, q _ (I5.hok.fresh (Nat.le_refl _))⟩
  exact ⟨by show 2 ≤ sizeLine; decide, [w2, w1], .cons r2 (.cons r1 .nil), IsTup.new _ _⟩
/-- list(t), t a tuple: the new list, not where sys.modules stands -/
theorem call_listT {X : Cx} : CallR X (.type "list") (fun xs H Q => ∃ p ys, xs = [.ref p] ∧ SqT X.K H p ys ∧ ∀ l, H l = none → l ≠ sysModules → Q (.ref l) (upd H l (.lst ys))) := by
  intro pins s σ H xs us Q I r h
  obtain ⟨p, ys, rfl, hq, q⟩ := h
  cases r with
  | cons rx rr =>
  cases rr
  cases rx
  obtain ⟨its, r2, pl, hz⟩ := I.tuple hq
  have len := r2.length
  obtain ⟨o, ho, hc, n, hd⟩ := pl
  refine call_list_seq p (.inr rfl) ho hc hd (fun h2 c2 kp e => ?_) (by simp only [List.size_toArray]; omega)
  refine ⟨.ref s.heap.objs.size, _, I.laid (t' := s.toks) kp (Nat.le_refl _) (show ObjOk X.prog X.w _ h2 _ (.lst ys) from ⟨hz, its, c2, r2, e⟩), rfl, q _ (I.hok.fresh (Nat.le_refl _)) (Nat.ne_of_gt I.big)⟩
end G

/-! Readings that make data of what stands in the heap and in the names. -/
namespace G
open PySem PySem.Spec L2
open PySem.W (Frag)
def Evd (K : Frag) (H0 : Hp) (σ : L2.St) (te : TE) (d : PyData) : Prop := ∀ (H : Hp) (Q : VK), Same H0 H → (∀ v H', Same H H' → Da K H' v d → Q v H') → te σ H Q
def EvdA (K : Frag) (H0 : Hp) (σ : L2.St) (ta : TA) (ds : List PyData) : Prop := ∀ (H : Hp) (Q : List V → Hp → Prop), Same H0 H → (∀ xs H', Same H H' → DaAll K H' xs ds → Q xs H') → ta σ H Q
theorem sIx_at2 {n : Nat} {i : Int} (h0 : 0 ≤ i) (h1 : i ≤ n) (d : Nat) : HT.sIx n d (some i) = i.toNat := by
  have e := HT.sIx_nat n d i.toNat
  rw [show ((i.toNat : Nat) : Int) = i by omega] at e
  rw [e]
  omega
theorem cutF {xs : List V} {i : Int} (h0 : 0 ≤ i) (h1 : i ≤ xs.length) : cutV xs none (some i) = xs.take i.toNat := by
  have e0 : HT.sIx xs.length 0 none = 0 := rfl
  unfold cutV
  rw [e0, sIx_at2 h0 h1, List.drop_zero, Nat.sub_zero]
theorem cutB {xs : List V} {i : Int} (h0 : 0 ≤ i) (h1 : i ≤ xs.length) : cutV xs (some i) none = xs.drop i.toNat := by
  have e0 : HT.sIx xs.length xs.length none = xs.length := rfl
  unfold cutV
  rw [e0, sIx_at2 h0 h1]
  exact List.take_of_length_le (by rw [List.length_drop]; exact Nat.le_refl _)
theorem DaAll.takeN {K : Frag} {H : Hp} : ∀ {xs : List V} {ds : List PyData} (n : Nat), DaAll K H xs ds → DaAll K H (xs.take n) (ds.take n)
  | _, _, 0, _ => .nil
  | _, _, _ + 1, .nil => .nil
  | _, _, n + 1, .cons a b => .cons a (DaAll.takeN n b)
theorem DaAll.dropN {K : Frag} {H : Hp} : ∀ {xs : List V} {ds : List PyData} (n : Nat), DaAll K H xs ds → DaAll K H (xs.drop n) (ds.drop n)
  | _, _, 0, h => h
  | _, _, _ + 1, .nil => .nil
  | _, _, n + 1, .cons _ b => DaAll.dropN n b
theorem DaAll.rep {K : Frag} {H : Hp} {xs : List V} {ds : List PyData} (h : DaAll K H xs ds) : ∀ n : Nat, DaAll K H (List.replicate n xs).flatten (List.replicate n ds).flatten
  | 0 => .nil
  | n + 1 => by
    rw [List.replicate_succ, List.replicate_succ, List.flatten_cons, List.flatten_cons]
    exact h.append (DaAll.rep h n)
theorem da_tup {K : Frag} {H : Hp} {v : V} {ds : List PyData} (h : Da K H v (.tuple ds)) : ∃ a xs, v = .ref a ∧ SqT K H a xs ∧ DaAll K H xs ds := by
  cases h with
  | tup s a => exact ⟨_, _, rfl, s, a⟩
section
variable {K : Frag} {H0 : Hp} {σ : L2.St} {te tf : TE} {ta : TA} {d : PyData} {ds es : List PyData}
theorem Evd.of (h : Dt K te d) : Evd K H0 σ te d := fun H Q _ k => h σ H Q k
theorem Evd.var {i : Nat} {v : V} (e : σ[i]? = some (some v)) (h : Da K H0 v d) : Evd K H0 σ (tVar i) d := fun H Q S k => ⟨v, e, k v H (Same.refl H) (h.same S)⟩
theorem EvdA.nil : EvdA K H0 σ tNil [] := fun H Q _ k => k [] H (Same.refl H) .nil
theorem EvdA.cons (a : Evd K H0 σ te d) (b : EvdA K H0 σ ta ds) : EvdA K H0 σ (tCons te ta) (d :: ds) := fun H Q S k => by
  refine a H _ S fun v H1 s1 h1 => ?_
  refine b H1 _ (S.trans s1) fun xs H2 s2 h2 => ?_
  exact k _ H2 (s1.trans s2) (.cons (h1.same s2) h2)
theorem Evd.tup (a : EvdA K H0 σ ta ds) (few : ds.length ≤ 1000 := by simp) : Evd K H0 σ (tTup ta) (.tuple ds) := fun H Q S h => by
  refine a H _ S fun xs H1 s1 h1 => ⟨?_, fun p hp => ?_⟩
  · rw [h1.length, sizeLine_eq]
    omega
  · exact h _ _ (s1.trans (same_new hp)) (.tup (Or.inl (Or.inl upd_same)) (h1.same (same_new hp)))
theorem Evd.lst (a : EvdA K H0 σ ta ds) (few : ds.length ≤ 1000 := by simp) : Evd K H0 σ (tLstS ta) (.list ds) := fun H Q S h => by
  refine a H _ S fun xs H1 s1 h1 => ⟨?_, fun p hp np => ?_⟩
  · rw [h1.length, sizeLine_eq]
    omega
  · exact h _ _ (s1.trans (same_new hp)) (.lst np (Or.inl (Or.inl upd_same)) (h1.same (same_new hp)))
theorem Evd.cat (a : Evd K H0 σ te (.tuple ds)) (b : Evd K H0 σ tf (.tuple es)) (few : ds.length + es.length ≤ 1000) : Evd K H0 σ (tOp (rCatA K) te tf) (.tuple (ds ++ es)) := fun H Q S k => by
  refine a H _ S fun v H1 s1 h1 => ?_
  refine b H1 _ (S.trans s1) fun w H2 s2 h2 => ?_
  obtain ⟨a1, xs, rfl, ha, dx⟩ := da_tup (h1.same s2)
  obtain ⟨b1, ys, rfl, hb, dy⟩ := da_tup h2
  have S12 := s1.trans s2
  refine ⟨a1, b1, xs, ys, rfl, rfl, ha, hb, by rw [dx.length, dy.length, sizeLine_eq]; omega, fun e => ?_, fun n e => ?_, fun n m p hp => ?_⟩
  · subst e
    cases dx
    exact k _ H2 S12 (.tup hb dy)
  · subst e
    cases dy
    rw [List.append_nil] at k
    exact k _ H2 S12 (.tup ha dx)
  · exact k _ _ (S12.trans (same_new hp)) (.tup (Or.inl (Or.inl upd_same)) ((dx.same (same_new hp)).append (dy.same (same_new hp))))
theorem Evd.front {i : Int} (a : Evd K H0 σ te (.tuple ds)) (b : Evd K H0 σ tf (.int i)) (h0 : 0 ≤ i) (h1 : i ≤ ds.length) : Evd K H0 σ (L2.tSl (rSlA K) te tNoPart (tPart tf)) (.tuple (ds.take i.toNat)) := fun H Q S k => by
  refine a H _ S fun v H1 s1 d1 => ?_
  unfold tNoPart tPart
  dsimp only
  refine b H1 _ (S.trans s1) fun w H2 s2 d2 => ?_
  cases d2
  obtain ⟨a1, xs, rfl, ha, dx⟩ := da_tup (d1.same s2)
  have S12 := s1.trans s2
  have L := dx.length
  refine ⟨i, rfl, a1, xs, rfl, ha, fun z => ?_, fun _ p hp => ?_⟩
  · have e := sIx_at2 (n := xs.length) h0 (by omega) xs.length
    rw [e] at z
    have e2 : ds.take i.toNat = ds := List.take_of_length_le (by omega)
    rw [e2] at k
    exact k _ H2 S12 (.tup ha dx)
  · rw [cutF h0 (by omega)]
    exact k _ _ (S12.trans (same_new hp)) (.tup (Or.inl (Or.inl upd_same)) ((dx.takeN i.toNat).same (same_new hp)))
theorem Evd.back {i : Int} (a : Evd K H0 σ te (.tuple ds)) (b : Evd K H0 σ tf (.int i)) (h0 : 1 ≤ i) (h1 : i ≤ ds.length) : Evd K H0 σ (L2.tSl (rSlA K) te (tPart tf) tNoPart) (.tuple (ds.drop i.toNat)) := fun H Q S k => by
  refine a H _ S fun v H1 s1 d1 => ?_
  unfold tNoPart tPart
  dsimp only
  refine b H1 _ (S.trans s1) fun w H2 s2 d2 => ?_
  cases d2
  obtain ⟨a1, xs, rfl, ha, dx⟩ := da_tup (d1.same s2)
  have S12 := s1.trans s2
  have L := dx.length
  refine ⟨i, rfl, a1, xs, rfl, ha, fun z => ?_, fun _ p hp => ?_⟩
  · have e := sIx_at2 (n := xs.length) (i := i) (by omega) (by omega) 0
    rw [e] at z
    omega
  · rw [cutB (by omega) (by omega)]
    exact k _ _ (S12.trans (same_new hp)) (.tup (Or.inl (Or.inl upd_same)) ((dx.dropN i.toNat).same (same_new hp)))
theorem Evd.rep {k0 : Int} (a : Evd K H0 σ te (.tuple ds)) (ne : ds ≠ []) (few : ds.length ≤ 1000) (h2 : 2 ≤ k0) (h3 : k0 ≤ 1000) : Evd K H0 σ (tOp (rRepT K) te (tC (.int k0))) (.tuple (List.replicate k0.toNat ds).flatten) := fun H Q S k => by
  refine a H _ S fun v H1 s1 d1 => ?_
  obtain ⟨a1, xs, rfl, ha, dx⟩ := da_tup d1
  have L := dx.length
  refine ⟨a1, k0, xs, rfl, rfl, ha, fun z => ne ?_, h2, h3, by omega, fun p hp => ?_⟩
  · subst z
    cases dx
    rfl
  · exact k _ _ (s1.trans (same_new hp)) (.tup (Or.inl (Or.inl upd_same)) ((dx.rep k0.toNat).same (same_new hp)))
theorem Evd.list (a : Evd K H0 σ te (.tuple ds)) : Evd K H0 σ (tCB (fun xs H Q => ∃ p ys, xs = [.ref p] ∧ SqT K H p ys ∧ ∀ l, H l = none → l ≠ sysModules → Q (.ref l) (upd H l (.lst ys))) (tCons te tNil)) (.list ds) := fun H Q S k => by
  refine a H _ S fun v H1 s1 d1 => ?_
  obtain ⟨a1, xs, rfl, ha, dx⟩ := da_tup d1
  refine ⟨a1, xs, rfl, ha, fun l hl nl => ?_⟩
  exact k _ _ (s1.trans (same_new hl)) (.lst nl (Or.inl (Or.inl upd_same)) (dx.same (same_new hl)))
theorem Evd.ix {i : Int} {n : Nat} (a : Evd K H0 σ te (.tuple ds)) (e : ds[n]? = some d) (hi : i = (n : Int)) : Evd K H0 σ (tOp (rIxT K) te (tC (.int i))) d := fun H Q S k => by
  refine a H _ S fun v H1 s1 d1 => ?_
  obtain ⟨a1, xs, rfl, ha, dx⟩ := da_tup d1
  have L := dx.length
  have ln : n < xs.length := by
    rw [L]
    exact (List.getElem?_eq_some_iff.mp e).1
  have hx : xs[n]? = some xs[n] := List.getElem?_eq_getElem ln
  have at_ : atI xs i = some xs[n] := by
    subst hi
    unfold atI ixN
    rw [if_pos (by omega), if_pos (by omega)]
    simpa using hx
  refine ⟨a1, xs, i, xs[n], rfl, rfl, ha, at_, ?_⟩
  have : ∀ {xs : List V} {ds : List PyData} {m : Nat} {x : V} {y : PyData}, DaAll K H1 xs ds → xs[m]? = some x → ds[m]? = some y → Da K H1 x y := by
    intro xs ds m
    induction m generalizing xs ds with
    | zero =>
      intro x y q e1 e2
      cases q with
      | nil => cases e1
      | cons b c =>
        cases e1
        cases e2
        exact b
    | succ m ih =>
      intro x y q e1 e2
      cases q with
      | nil => cases e1
      | cons b c => exact ih c e1 e2
  exact k _ H1 s1 (this dx hx e)
theorem Evd.len (a : Evd K H0 σ te (.tuple ds)) : Evd K H0 σ (tCB (fun xs H Q => ∃ x n, xs = [x] ∧ LenV K x H n ∧ Q (.int n) H) (tCons te tNil)) (.int ds.length) := fun H Q S k => by
  refine a H _ S fun v H1 s1 d1 => ?_
  obtain ⟨a1, xs, rfl, ha, dx⟩ := da_tup d1
  refine ⟨_, xs.length, rfl, .inr ⟨xs, ha, rfl⟩, ?_⟩
  rw [dx.length]
  exact k _ H1 s1 (.int _)
theorem ev_lst_run (R : EvdA K H0 σ ta ds) {H : Hp} {Q : VK} (S : Same H0 H) (few : ds.length ≤ 1000) (h : ∀ xs H1 q, Same H H1 → DaAll K H1 xs ds → H1 q = none → Q (.ref q) (upd H1 q (.lst xs))) : tLstS ta σ H Q :=
  R H _ S fun xs H1 s1 d1 => ⟨by rw [d1.length, sizeLine_eq]; omega, fun q hq _ => h xs H1 q s1 d1 hq⟩
theorem ev_seq_lst {H : Hp} (R : EvdA K H σ ta ds) {i : Nat} {u : TS} {D : Ends} (few : ds.length ≤ 1000) (h : ∀ xs H1 q, Same H H1 → DaAll K H1 xs ds → H1 q = none → u D (σ.set i (some (.ref q))) (upd H1 q (.lst xs))) :
    tSeq (tAsg (tLstS ta) (gName i)) u D σ H := by
  unfold tSeq tAsg
  exact ev_lst_run (Q := fun x H1 => gName i x σ H1 (u D)) R (Same.refl H) few h
theorem ev_seq_cat {H : Hp} (R : EvdA K H σ ta ds) {i j : Nat} {u : TS} {D : Ends} {q1 : Addr} {xs1 : List V} (few : ds.length ≤ 1000) (f1 : xs1.length ≤ 1000) (hσ : σ[j]? = some (some (.ref q1))) (h1 : H q1 = some (.lst xs1))
    (h : ∀ xs H1 q, Same H H1 → DaAll K H1 xs ds → H1 q = none → u D (σ.set i (some (.ref q))) (upd H1 q (.lst (xs1 ++ xs)))) : tSeq (tAsg (tOp rCat (tVar j) (tLstS ta)) (gName i)) u D σ H := by
  refine ⟨_, hσ, ev_lst_run R (Same.refl H) few fun xs H1 q s1 d1 hq => ?_⟩
  have t1 := same_new (o := .lst xs) hq
  refine ⟨q1, q, xs1, xs, rfl, rfl, t1 _ _ (s1 _ _ h1), upd_same, ?_, fun q3 hq3 => ?_⟩
  · rw [d1.length, sizeLine_eq]
    omega
  · exact h xs _ q3 (s1.trans t1) (d1.same t1) hq3
theorem ev_ret_pick {H : Hp} {sp : Sp} {D : Ends} (R : EvdA K H σ ta ds) {j : Nat} {q1 : Addr} {xs1 : List V} {v : V} (few : ds.length ≤ 1000) (f1 : xs1.length ≤ 1000) (h0 : σ[0]? = some (some v)) (hσ : σ[j]? = some (some (.ref q1))) (h1 : H q1 = some (.lst xs1))
    (h : ∀ xs H1 q, Same H H1 → DaAll K H1 xs ds → H1 q = none → sp [v, .ref q] (upd H1 q (.lst (xs1 ++ xs))) D.rt (fun _ _ _ => False)) :
    tRet (tCall sp [] (fun _ _ _ => False) (tCons (tVar 0) (tCons (tOp rCat (tVar j) (tLstS ta)) tNil))) D σ H := by
  refine ⟨_, h0, _, hσ, ev_lst_run R (Same.refl H) few fun xs H1 q s1 d1 hq => ?_⟩
  have t1 := same_new (o := .lst xs) hq
  refine ⟨q1, q, xs1, xs, rfl, rfl, t1 _ _ (s1 _ _ h1), upd_same, ?_, fun q3 hq3 => ?_⟩
  · rw [d1.length, sizeLine_eq]
    omega
  · exact h xs _ q3 (s1.trans t1) (d1.same t1) hq3
theorem Evd.add {i j : Int} (a : Evd K H0 σ te (.int i)) (b : Evd K H0 σ tf (.int j)) : Evd K H0 σ (tOp (rI0 fun i j => .int (i + j)) te tf) (.int (i + j)) := fun H Q S k => by
  refine a H _ S fun v H1 s1 d1 => ?_
  refine b H1 _ (S.trans s1) fun w H2 s2 d2 => ?_
  cases d1
  cases d2
  exact ⟨_, _, rfl, rfl, k _ H2 (s1.trans s2) (.int _)⟩
theorem ev_seq {H : Hp} (R : Evd K H σ te d) {i : Nat} {u : TS} {D : Ends} (h : ∀ v H1, Same H H1 → Da K H1 v d → u D (σ.set i (some v)) H1) : tSeq (tAsg te (gName i)) u D σ H := R H _ (Same.refl H) h
theorem seq_case {H : Hp} {i : Nat} {u : TS} {D : Ends} (C : V → Hp → Prop) (a : ∀ Q : VK, (∀ x H1, C x H1 → Q x H1) → te σ H Q) (b : ∀ x H1, C x H1 → u D (σ.set i (some x)) H1) : tSeq (tAsg te (gName i)) u D σ H := a _ b
end
end G

/-! A subject with one thing changed. -/
namespace LW
open PySem L2 G
abbrev sBent : Stmt := top 56
theorem PenAt.butD {K : PySem.W.Frag} {H H' : Hp} {p c : Addr} {cells : List Int} {t l : Int} (N : PenAt H p c cells t l) (o : Old p H H') {v : V} {d : PyData} (h : Da K H v d) (n : nd3 d = true) : Da K H' v d := h.but N.pen rfl o n
theorem PenAt.butA {K : PySem.W.Frag} {H H' : Hp} {p c : Addr} {cells : List Int} {t l : Int} (N : PenAt H p c cells t l) (o : Old p H H') {vs : List V} {ds : List PyData} (h : DaAll K H vs ds) (n : nd3All ds = true) : DaAll K H' vs ds := h.but N.pen rfl o n
/-- the values that are put into a chain -/
def odds : List PyData := [.str "A", .str "abcdefghi", .str "a b", .str "", .none, .int 1, .list [.str "a"], .dict [], .str "a1"]
theorem odds_pc : odds.all pcB = true := by decide +kernel
abbrev U (d : PyData) : Prop := Pc 6 1600 d
abbrev W8 (d : PyData) : Prop := Pc 7 12819 d
theorem U.t8 {ds : List PyData} (h : ∀ d ∈ ds, U d) (few : ds.length ≤ 8) : W8 (.tuple ds) := Pc.tup h few (by decide)
theorem U.l8 {ds : List PyData} (h : ∀ d ∈ ds, U d) (few : ds.length ≤ 8) : W8 (.list ds) := Pc.lst h few
theorem U.good {d : PyData} (h : U d) : Good d := h.up (by decide) (by decide)
theorem U.w {d : PyData} (h : U d) : W8 d := h.up (by decide) (by decide)
theorem W8.good {d : PyData} (h : W8 d) : Good d := h.up (by decide) (by decide)
theorem W8.p2 {a b : PyData} (h : W8 a) (g : W8 b) : Good (.tuple [a, b]) := (Pc.tup (m := 2) (ds := [a, b]) (fun d hd => by
  simp only [List.mem_cons, List.not_mem_nil, or_false] at hd
  rcases hd with rfl | rfl
  · exact h
  · exact g) (by show 2 ≤ 2; decide) (by decide)).up (by decide) (by decide)
theorem W8.l2 {a b : PyData} (h : W8 a) (g : W8 b) : Good (.list [a, b]) := (Pc.lst (m := 2) (ds := [a, b]) (fun d hd => by
  simp only [List.mem_cons, List.not_mem_nil, or_false] at hd
  rcases hd with rfl | rfl
  · exact h
  · exact g) (by show 2 ≤ 2; decide)).up (by decide) (by decide)
theorem W8.p3 {a b c : PyData} (h : W8 a) (g : W8 b) (i : W8 c) : Good (.tuple [a, b, c]) := (Pc.tup (m := 3) (ds := [a, b, c]) (fun d hd => by
  simp only [List.mem_cons, List.not_mem_nil, or_false] at hd
  rcases hd with rfl | rfl | rfl
  · exact h
  · exact g
  · exact i) (by show 3 ≤ 3; decide) (by decide)).up (by decide) (by decide)
theorem U.one {a : PyData} (h : U a) : ∀ d ∈ [a], U d := fun d hd => by
  rw [List.mem_singleton.mp hd]
  exact h
theorem U.two {a b : PyData} (h : U a) (g : U b) : ∀ d ∈ [a, b], U d := fun d hd => by
  simp only [List.mem_cons, List.not_mem_nil, or_false] at hd
  rcases hd with rfl | rfl
  · exact h
  · exact g
theorem small_w {i : Int} (h : i.natAbs ≤ 100) : W8 (.int i) := (Pc.int (i := i) (Nat.lt_of_le_of_lt h (by decide +kernel))).up (by decide) (by decide)
def bent (O : List PyData) (a : Int) (e : PyData) : PyData := .tuple ((O.take a.toNat ++ [e]) ++ O.drop (a + 1).toNat)
def optB1 (R : List PyData) : List PyData := [.tuple [.int 0, .tuple R], .tuple [.int (R.length + 1), .tuple R], .tuple [.bool true, .tuple R], .tuple [.int 1, .tuple (R ++ R.take 1)], .tuple [.int 1, .list R], .list [.int 1, .tuple R], .tuple [.int 1, .tuple []]]
def optB2 (R : List PyData) (F : PyData) : List PyData := [.tuple [.int 1, .tuple (R ++ [F])], .tuple [.int 1, .tuple R, .tuple R], .tuple [.int 1, .tuple (List.replicate 5 (R.take 1)).flatten], F, .tuple R, .tuple [.int 1, .tuple [F]], .tuple [.int 5, .tuple (List.replicate 2 R).flatten]]
def optB3 (B : PyData) : List PyData := [.tuple [.int 1, .tuple [B]], .tuple [.int 1, .tuple [.tuple [.str "zoe"], B]], .tuple [.int 2, .tuple [B, .tuple [.str "zoe", .str "x"]]], B]
def optB4 (O : List PyData) (o : PyData) : List PyData := [.tuple [.int 1, .tuple [.list O]], .tuple [.int 1, .tuple [o]], .tuple [.int 2, .tuple [.tuple O, .list [.str "zoe", .str "x"]]]]
def optB5 : List PyData := [.tuple [.int 1, .tuple ((["a", "b", "c", "d", "e"] : List Str).map fun z => PyData.tuple [.str z])]]
theorem goodB1 {R : List PyData} (h : ∀ d ∈ R, U d) (l4 : R.length ≤ 4) : ∀ d ∈ optB1 R, Good d := fun d hd => by
  have r : W8 (.tuple R) := U.t8 h (by omega)
  have tr : W8 (.bool true) := (pcB_ok (d := .bool true) (by decide +kernel)).up (by decide) (by decide)
  simp only [optB1, List.mem_cons, List.not_mem_nil, or_false] at hd
  rcases hd with rfl | rfl | rfl | rfl | rfl | rfl | rfl
  · exact W8.p2 (small_w (by decide)) r
  · exact W8.p2 (small_w (by omega)) r
  · exact W8.p2 tr r
  · refine W8.p2 (small_w (by decide)) (U.t8 (fun d hd => ?_) (by rw [List.length_append, List.length_take]; omega))
    rcases List.mem_append.mp hd with hd | hd
    · exact h d hd
    · exact h d (List.mem_of_mem_take hd)
  · exact W8.p2 (small_w (by decide)) (U.l8 h (by omega))
  · exact W8.l2 (small_w (by decide)) r
  · exact W8.p2 (small_w (by decide)) (U.t8 (fun d hd => by cases hd) (by decide))
theorem goodB2 {R : List PyData} {F : PyData} (h : ∀ d ∈ R, U d) (f : U F) (l4 : R.length ≤ 4) : ∀ d ∈ optB2 R F, Good d := fun d hd => by
  have r : W8 (.tuple R) := U.t8 h (by omega)
  simp only [optB2, List.mem_cons, List.not_mem_nil, or_false] at hd
  rcases hd with rfl | rfl | rfl | rfl | rfl | rfl | rfl
  · refine W8.p2 (small_w (by decide)) (U.t8 (fun d hd => ?_) (by rw [List.length_append, List.length_singleton]; omega))
    rcases List.mem_append.mp hd with hd | hd
    · exact h d hd
    · exact U.one f d hd
  · exact W8.p3 (small_w (by decide)) r r
  · refine W8.p2 (small_w (by decide)) (U.t8 (fun d hd => ?_) ?_)
    · obtain ⟨l, hl, hd⟩ := List.mem_flatten.mp hd
      rw [List.eq_of_mem_replicate hl] at hd
      exact h d (List.mem_of_mem_take hd)
    · rw [List.length_flatten, List.map_replicate, List.sum_replicate_nat, List.length_take]
      omega
  · exact f.good
  · exact r.good
  · exact W8.p2 (small_w (by decide)) (U.t8 (U.one f) (by show 1 ≤ 8; decide))
  · refine W8.p2 (small_w (by decide)) (U.t8 (fun d hd => ?_) ?_)
    · obtain ⟨l, hl, hd⟩ := List.mem_flatten.mp hd
      rw [List.eq_of_mem_replicate hl] at hd
      exact h d hd
    · rw [List.length_flatten, List.map_replicate, List.sum_replicate_nat]
      omega
theorem goodB3 {B : PyData} (b : U B) : ∀ d ∈ optB3 B, Good d := fun d hd => by
  have z1 : U (.tuple [.str "zoe"]) := (pcB_ok (d := .tuple [.str "zoe"]) (by decide +kernel)).up (by decide) (by decide)
  have z2 : U (.tuple [.str "zoe", .str "x"]) := (pcB_ok (d := .tuple [.str "zoe", .str "x"]) (by decide +kernel)).up (by decide) (by decide)
  simp only [optB3, List.mem_cons, List.not_mem_nil, or_false] at hd
  rcases hd with rfl | rfl | rfl | rfl
  · exact W8.p2 (small_w (by decide)) (U.t8 (U.one b) (by show 1 ≤ 8; decide))
  · exact W8.p2 (small_w (by decide)) (U.t8 (U.two z1 b) (by show 2 ≤ 8; decide))
  · exact W8.p2 (small_w (by decide)) (U.t8 (U.two b z2) (by show 2 ≤ 8; decide))
  · exact b.good
theorem goodB4 {O : List PyData} {o : PyData} (h : U (.tuple O)) (hl : U (.list O)) (ho : U o) : ∀ d ∈ optB4 O o, Good d := fun d hd => by
  have z2 : U (.list [.str "zoe", .str "x"]) := (pcB_ok (d := .list [.str "zoe", .str "x"]) (by decide +kernel)).up (by decide) (by decide)
  simp only [optB4, List.mem_cons, List.not_mem_nil, or_false] at hd
  rcases hd with rfl | rfl | rfl
  · exact W8.p2 (small_w (by decide)) (U.t8 (U.one hl) (by show 1 ≤ 8; decide))
  · exact W8.p2 (small_w (by decide)) (U.t8 (U.one ho) (by show 1 ≤ 8; decide))
  · exact W8.p2 (small_w (by decide)) (U.t8 (U.two h z2) (by show 2 ≤ 8; decide))
theorem goodB5 : ∀ d ∈ optB5, Good d := fun d hd => pcB_good (List.all_eq_true.mp (show optB5.all pcB = true by decide +kernel) d hd)
def spBent (K : PySem.W.Frag) : Sp := fun vs H Q _ => ∃ (p c o1 o2 : Addr) (cells : List Int) (t l : Int) (people words : List Str) (v : V) (d : PyData), vs = [.ref p, v, .ref o1, .ref o2] ∧ PenAt H p c cells t l ∧ t ≤ 600000 ∧ Words H o1 o2 people words ∧ subjD d = true ∧ Da K H v d ∧
  ∀ (v' : V) (d' : PyData) (t' l' : Int) (H' : Hp), Good d' → Da K H' v' d' → t' ≤ t + 30 → PenAt H' p c cells t' l' → Old p H H' → Q v' H'
end LW

namespace LW
open PySem L2 G
abbrev nmB : List Str := ["_law_pen_here", "_law_goal", "_law_people", "_law_words_here", "_law_rows", "_law_far", "_law_one", "_law_odd_here", "_law_at", "_law_bent_here", "_law_some", "_law_word"]
theorem scBent : FnScope nmB ["_law_pen_here", "_law_goal", "_law_people", "_law_words_here"] (defScope sBent) := ⟨rfl, rfl, rfl, by decide +kernel, rfl, by decide +kernel, by decide +kernel⟩
theorem atI_0 {x : V} {xs : List V} : atI (x :: xs) 0 = some x := by
  unfold atI ixN
  rw [if_pos (by omega), if_pos (by simp only [List.length_cons]; omega)]
  rfl
/-- a drawn subject, its chains -/
def rowsD (d : PyData) : List (List Str) := if isChainD d 4 = true then [wordsD d] else match d with
  | .tuple [_, .tuple cs] => cs.map wordsD
  | _ => []
theorem tup_tupAll {ds : List PyData} (h : ∀ d ∈ ds, tupD d = true) : tupD (.tuple ds) = true := by
  simp only [tupD]
  exact tupAll_of h
theorem rows_tup {wss : List (List Str)} : tupD (.tuple (wss.map chD)) = true := tup_tupAll fun d hd => by
  obtain ⟨ws, _, rfl⟩ := List.mem_map.mp hd
  exact chain_flat
section
variable {P : Program} {w : World} {K : PySem.W.Frag} {mg : Str → Option Value} {base : Heap}
theorem singles {ta : TA} {H0 : Hp} {a0 a1 a2 a3 a4 a5 a6 a7 a8 a9 a10 a11 : Option V} {ws : List Str} (R : DtAll K ta (ws.map PyData.str)) (few : ws.length ≤ 100) :
    Evd K H0 [a0, a1, a2, a3, a4, a5, a6, a7, a8, a9, a10, a11] (tCB (fun xs H Q => ∃ p ys, xs = [.ref p] ∧ ((SqL K H p ys ∧ ∀ l, H l = none → Q (.ref l) (upd H l (.tup ys))) ∨ (SqT K H p ys ∧ Q (.ref p) H)))
      (tCons (tLc (iList K (tLst ta)) (gName 11) tYes (tTup (tCons (tVar 11) tNil)) [11]) tNil)) (.tuple (ws.map fun z => PyData.tuple [.str z])) := fun H Q S k => by
  refine R _ H _ fun xs H1 s1 d1 => ⟨by rw [d1.length, List.length_map, sizeLine_eq]; omega, fun p hp => ⟨p, rfl, ⟨_, SqL.of upd_same⟩, fun D hD => ?_⟩⟩
  have ex := da_strs d1
  subst ex
  have s2 := same_new (o := .lst (ws.map V.str)) hp
  have nDp : D ≠ p := fun z => by
    rw [z, upd_same] at hD
    cases hD
  refine lc_it (walk_list (xs := ws.map V.str)) (fun i G => ∃ ys, G D = some (.lst ys) ∧ ys.length = i ∧ DaAll K G ys ((ws.take i).map fun z => PyData.tuple [.str z]) ∧ Same (upd H1 p (.lst (ws.map V.str))) G)
    ⟨[], upd_same, rfl, .nil, same_new hD⟩ (fun i G _ pv => ?_) (fun i x G G' hi pv y => ?_) (fun G pv => ?_)
  · obtain ⟨ys, gD, yl, da, S2⟩ := pv
    exact SqL.of (S2 _ _ upd_same)
  · obtain ⟨rfl, hx⟩ := y
    obtain ⟨ys, gD, yl, da, S2⟩ := pv
    rw [List.getElem?_map] at hx
    obtain ⟨z, hz, rfl⟩ : ∃ z, ws[i]? = some z ∧ V.str z = x := by
      cases e : ws[i]? with
      | none => rw [e] at hx; cases hx
      | some z =>
        rw [e] at hx
        exact ⟨z, rfl, by simpa using hx⟩
    have tk : ws.take (i + 1) = ws.take i ++ [z] := by rw [List.take_add_one, hz]; rfl
    rw [List.length_map] at hi
    refine ⟨rfl, _, rfl, (by show 1 ≤ sizeLine; decide), fun q hq => ?_⟩
    have s3 := same_new (o := .tup [V.str z]) hq
    have g3 := s3 _ _ gD
    have k4 := Keep.put (o := .lst (ys ++ [V.ref q])) g3
    refine ⟨_, g3, by rw [yl, sizeLine_eq]; omega, ys ++ [.ref q], upd_same, by rw [List.length_append, yl]; rfl, ?_, fun b o e => ?_⟩
    · rw [tk, List.map_append]
      refine DaAll.append ((da.same s3).keep k4 (tupAll_of fun d hd => ?_)) (.cons (.tup (k4.sqT (SqT.of upd_same)) (.cons (.str z) .nil)) .nil)
      obtain ⟨y, _, rfl⟩ := List.mem_map.mp hd
      rfl
    · rw [upd_ne (ne_of_none e hD)]
      exact s3 _ _ (S2 _ _ e)
  · obtain ⟨ys, gD, yl, da, S2⟩ := pv
    refine ⟨D, ys, rfl, .inl ⟨SqL.of gD, fun q hq => ?_⟩⟩
    rw [List.length_map, List.take_of_length_le (Nat.le_refl _)] at da
    have s5 := same_new (o := .tup ys) hq
    exact k _ _ (s1.trans (s2.trans (S2.trans s5))) (.tup (SqT.of upd_same) (da.same s5))
variable {fD fK fC : Addr} {fdD fdK fdC : FuncData}
theorem ok_bent {f : Addr} {fd : FuncData} (F : Fun K "_law_bent" "_law_bent" sBent f fd) (T : Bt mg) (Is : mg "isinstance" = none) (Tu : mg "tuple" = none)
    (GD : Fx P w K mg base CX0 1 "_law_draw" fD fdD ["_law_pen_here", "_law_many"] spDraw) (GK : Fx P w K mg base CX0 2 "_law_pick" fK fdK ["_law_pen_here", "_law_options"] (spPick K))
    (GC : Fx P w K mg base CX0 3 "_law_chain" fC fdC ["_law_pen_here", "_law_people", "_law_words_here", "_law_top"] spChain) :
    FnOk P w K mg base CX0 4 f fd ["_law_pen_here", "_law_goal", "_law_people", "_law_words_here"] (spBent K) := by
  refine F.ok scBent (fun vs H Q E h => ?_) (fun cdv A outer s H vs Q E hr h => ?_)
  · obtain ⟨p, c, o1, o2, cells, t, l, people, words, v, d, rfl, _⟩ := h
    rfl
  · obtain ⟨p, c, o1, o2, cells, t, l, people, words, v, d, rfl, N, ht, W, sj, hd, k⟩ := h
    have nd := scBent.nd
    refine ⟨_, pss_cons (ps_set (i := 4) nd rfl (Or.inl rfl) (pe_ifExp (pt_val (pe_callB (call_isD kit_int) (by rfl) Is (by decide +kernel) (pa_cons (pe_ix ix_tup (pv 1) pe_int (fun _ _ => rfl)) (pa_cons (pe_bltn (v := .ty "int") (by rfl) T.int (by decide +kernel) rfl) pa_nil))))
          (pe_ix ix_tup (pv 1) pe_int (fun _ _ => rfl)) (pe_tup (pa_cons (pv 1) pa_nil))))
      (pss_cons (ps_set (i := 5) nd rfl (Or.inl rfl) (pe_call GC.ok hr (by rfl) GC.m GC.k GC.b .nil pass0 (pa_cons (pv 0) (pa_cons (pv 2) (pa_cons (pv 3) (pa_cons pe_int pa_nil))))))
      (pss_cons (ps_par (i := 6) (j := 7) (by rfl) nd rfl rfl (by decide) rfl rfl (pa_cons (pe_call GK.ok (hr.mono (by decide)) (by rfl) GK.m GK.k GK.b .nil pass0 (pa_cons (pv 0) (pa_cons (pe_callTy call_listT (by rfl) T.list (by decide +kernel) (pa_cons (pv 4) pa_nil)) pa_nil)))
          (pa_cons (pe_call GK.ok (hr.mono (by decide)) (by rfl) GK.m GK.k GK.b .nil pass0 (pa_cons (pv 0) (pa_cons (pe_lstS (pa_cons pe_str (pa_cons pe_str (pa_cons pe_str (pa_cons pe_str (pa_cons pe_non (pa_cons pe_int (pa_cons (pe_lstS (pa_cons pe_str pa_nil)) (pa_cons pe_dnewK (pa_cons pe_str pa_nil)))))))))) pa_nil))) pa_nil)) (by rfl))
      (pss_cons (ps_set (i := 8) nd rfl (Or.inl rfl) (pe_call GD.ok (hr.mono (by decide)) (by rfl) GD.m GD.k GD.b .nil pass0 (pa_cons (pv 0) (pa_cons (pe_callB call_len (by rfl) T.len PySem.boot_len (pa_cons (pv 6) pa_nil)) pa_nil))))
      (pss_cons (ps_set (i := 9) nd rfl (Or.inl rfl) (pe_op op_catA (pe_op op_catA (pe_slice sl_tupA (pv 6) po_none (po_some (pv 8))) (pe_tup (pa_cons (pv 7) pa_nil))) (pe_slice sl_tupA (pv 6) (po_some (pe_op op_add (pv 8) pe_int)) po_none)))
      (pss_cons (ps_set (i := 10) nd rfl (Or.inl rfl) (pe_lstS (pa_cons (pe_tup (pa_cons pe_int (pa_cons (pv 4) pa_nil))) (pa_cons (pe_tup (pa_cons (pe_op op_add (pe_callB call_len (by rfl) T.len PySem.boot_len (pa_cons (pv 4) pa_nil)) pe_int) (pa_cons (pv 4) pa_nil)))
          (pa_cons (pe_tup (pa_cons pe_bl (pa_cons (pv 4) pa_nil))) (pa_cons (pe_tup (pa_cons pe_int (pa_cons (pe_op op_catA (pv 4) (pe_slice sl_tupA (pv 4) po_none (po_some pe_int))) pa_nil)))
          (pa_cons (pe_tup (pa_cons pe_int (pa_cons (pe_callTy call_listT (by rfl) T.list (by decide +kernel) (pa_cons (pv 4) pa_nil)) pa_nil))) (pa_cons (pe_lstS (pa_cons pe_int (pa_cons (pv 4) pa_nil))) (pa_cons (pe_tup (pa_cons pe_int (pa_cons (pe_tup pa_nil) pa_nil))) pa_nil)))))))))
      (pss_cons (ps_set (i := 10) nd rfl (Or.inl rfl) (pe_op op_cat (pv 10) (pe_lstS (pa_cons (pe_tup (pa_cons pe_int (pa_cons (pe_op op_catA (pv 4) (pe_tup (pa_cons (pv 5) pa_nil))) pa_nil))) (pa_cons (pe_tup (pa_cons pe_int (pa_cons (pv 4) (pa_cons (pv 4) pa_nil))))
          (pa_cons (pe_tup (pa_cons pe_int (pa_cons (pe_op op_repT (pe_slice sl_tupA (pv 4) po_none (po_some pe_int)) pe_int) pa_nil))) (pa_cons (pv 5) (pa_cons (pv 4) (pa_cons (pe_tup (pa_cons pe_int (pa_cons (pe_tup (pa_cons (pv 5) pa_nil)) pa_nil)))
          (pa_cons (pe_tup (pa_cons pe_int (pa_cons (pe_op op_repT (pv 4) pe_int) pa_nil))) pa_nil))))))))))
      (pss_cons (ps_set (i := 10) nd rfl (Or.inl rfl) (pe_op op_cat (pv 10) (pe_lstS (pa_cons (pe_tup (pa_cons pe_int (pa_cons (pe_tup (pa_cons (pv 9) pa_nil)) pa_nil))) (pa_cons (pe_tup (pa_cons pe_int (pa_cons (pe_tup (pa_cons (pe_tup (pa_cons pe_str pa_nil)) (pa_cons (pv 9) pa_nil))) pa_nil)))
          (pa_cons (pe_tup (pa_cons pe_int (pa_cons (pe_tup (pa_cons (pv 9) (pa_cons (pe_tup (pa_cons pe_str (pa_cons pe_str pa_nil))) pa_nil))) pa_nil))) (pa_cons (pv 9) pa_nil)))))))
      (pss_cons (ps_set (i := 10) nd rfl (Or.inl rfl) (pe_op op_cat (pv 10) (pe_lstS (pa_cons (pe_tup (pa_cons pe_int (pa_cons (pe_tup (pa_cons (pe_callTy call_listT (by rfl) T.list (by decide +kernel) (pa_cons (pv 6) pa_nil)) pa_nil)) pa_nil)))
          (pa_cons (pe_tup (pa_cons pe_int (pa_cons (pe_tup (pa_cons (pe_ix ix_tup (pv 6) pe_int (fun _ _ => rfl)) pa_nil)) pa_nil)))
          (pa_cons (pe_tup (pa_cons pe_int (pa_cons (pe_tup (pa_cons (pv 6) (pa_cons (pe_callTy call_listT (by rfl) T.list (by decide +kernel) (pa_cons (pe_tup (pa_cons pe_str (pa_cons pe_str pa_nil))) pa_nil)) pa_nil))) pa_nil))) pa_nil))))))
      (pss_one (ps_ret (pe_call GK.ok (hr.mono (by decide)) (by rfl) GK.m GK.k GK.b .nil pass0 (pa_cons (pv 0) (pa_cons (pe_op op_cat (pv 10) (pe_lstS (pa_cons (pe_tup (pa_cons pe_int (pa_cons (pe_callTy call_tuple_of (by rfl) Tu (by decide +kernel)
          (pa_cons (pe_lc (own := [("_law_word", 11)]) (g := gName 11) (tt := tYes) rfl nd (pi_list (pe_lst (pa_cons pe_str (pa_cons pe_str (pa_cons pe_str (pa_cons pe_str (pa_cons pe_str pa_nil)))))))
            (blkOk_by (own := [("_law_word", 11)]) (N := nmB) (sc := defScope sBent) (by decide +kernel)) (fun _ _ _ _ _ => pg_name (i := 11) nd rfl (Or.inl rfl)) (fun _ _ _ _ _ => pts_nil) (fun _ _ _ _ _ => pe_tup (pa_cons (pv 11) pa_nil))) pa_nil)) pa_nil))) pa_nil))) pa_nil))))))))))))), ?_⟩
    refine seq_case (fun x H1 => ∃ wss : List (List Str), 1 ≤ wss.length ∧ wss.length ≤ 4 ∧ (∀ ws ∈ wss, isChainD (chD ws) 4 = true) ∧ Same H H1 ∧ Da K H1 x (.tuple (wss.map chD))) (fun R hR => ?_) (fun vr H1 hC => ?_)
    · rcases subj_cases sj with ⟨ws, rfl, ch⟩ | ⟨m, wss, rfl, cf, l1, l4, ch, m1, m2, _⟩
      · obtain ⟨a, rfl, hS⟩ := da_chain hd
        obtain ⟨_, _, w1, _, _⟩ := chain_inv ch
        obtain ⟨w0, wr, rfl⟩ : ∃ w0 wr, ws = w0 :: wr := by
          cases ws with
          | nil =>
            exact absurd ch (by decide +kernel)
          | cons w0 wr => exact ⟨w0, wr, rfl⟩
        refine ⟨_, rfl, a, _, _, .str w0, rfl, rfl, hS, atI_0, .str w0, .str w0, rfl, .str w0, _, rfl, ?_⟩
        refine iteF ⟨_, rfl, (by show 1 ≤ sizeLine; decide), fun q hq => hR _ _ ⟨[w0 :: wr], Nat.le_refl 1, by show 1 ≤ 4; decide, fun ws hw => ?_, same_new hq, ?_⟩⟩
        · rw [List.mem_singleton.mp hw]
          exact ch
        · exact .tup (SqT.of upd_same) (.cons (hd.same (same_new hq)) .nil)
      · obtain ⟨a, xs, rfl, hS, hA⟩ := da_tup hd
        obtain ⟨b, rfl, hb⟩ : ∃ y, xs = [.int m, y] ∧ Da K H y (.tuple (wss.map chD)) := by
          cases hA with
          | cons p1 q1 =>
            cases p1
            cases q1 with
            | cons p2 q2 =>
              cases q2
              exact ⟨_, rfl, p2⟩
        refine ⟨_, rfl, a, _, _, .int m, rfl, rfl, hS, rfl, .int m, .int m, rfl, .int m, _, rfl, ?_⟩
        refine iteT ⟨_, rfl, a, _, _, b, rfl, rfl, hS, rfl, hR _ _ ⟨wss, l1, l4, ch, Same.refl H, hb⟩⟩
    obtain ⟨wss, l1, l4, chs, S1, dr⟩ := hC
    have W1 := W.same S1
    have N1 := N.same S1
    refine ⟨_, rfl, _, rfl, _, rfl, p, c, o1, o2, cells, t, l, 6, people, words, rfl, N1, by omega, by decide, by decide, W1.h1, W1.h2, W1.l1, W1.u1, W1.l2, W1.u2, fun qf fx fw t2 l2 H2 hx hws lw gq nq ht2 N2 old2 => ?_⟩
    have chf := drawn_chain (tp := 6) (W1.q1 _ hx) (fun y hy => W1.q2 _ (hws y hy)) lw
    have dr := dr.keep (N1.keep old2) rows_tup
    have df : Da K H2 (.ref qf) (chD (fx :: fw)) := .tup (SqT.of gq) (daStrs _)
    obtain ⟨ar, xr, rfl, hr', hxr⟩ := da_tup dr
    have lr := hxr.length
    rw [List.length_map] at lr
    refine ⟨_, rfl, _, rfl, ar, xr, rfl, hr', fun L1 hL1 nL1 => ?_⟩
    have s3 := same_new (o := .lst xr) hL1
    refine ⟨p, c, L1, cells, t2, l2, xr, rfl, N2.same s3, by omega, upd_same, by omega, by omega, fun v1 t3 l3 H3 m1 ht3 N3 old3 => ?_⟩
    obtain ⟨O, mO, dO⟩ := (hxr.same s3).mem m1
    obtain ⟨ows, hows, rfl⟩ := List.mem_map.mp mO
    have cho := chs ows hows
    have k3 := (Keep.same s3).trans ((N2.same s3).keep old3)
    have dr := dr.keep k3 rows_tup
    have df := df.keep k3 chain_flat
    have dO := dO.keep ((N2.same s3).keep old3) chain_flat
    have RO : DtAll K _ odds := dta_cons dt_str (dta_cons dt_str (dta_cons dt_str (dta_cons dt_str (dta_cons dt_non (dta_cons dt_int (dta_cons (dt_lst (dta_cons dt_str dta_nil)) (dta_cons dt_emp (dta_cons dt_str dta_nil))))))))
    refine ⟨_, rfl, lst_run RO (by decide) fun xs4 H4 L2 s4 d4 hL2 => ?_⟩
    have s5 := same_new (o := .lst xs4) hL2
    have S45 := s4.trans s5
    refine ⟨p, c, L2, cells, t3, l3, xs4, rfl, N3.same S45, by omega, upd_same, by rw [d4.length]; decide, by rw [d4.length]; decide, fun vo t5 l5 H5 mo ht5 N5 old5 => ⟨_, _, rfl, ?_⟩⟩
    obtain ⟨dd, mdd, ddo⟩ := (d4.same s5).mem mo
    have pdd := pcB_ok (List.all_eq_true.mp odds_pc dd mdd)
    have ddo := (N3.same S45).butD old5 ddo pdd.nd
    have k5 := (Keep.same S45).trans ((N3.same S45).keep old5)
    have dr := dr.keep k5 rows_tup
    have df := df.keep k5 chain_flat
    have dO := dO.keep k5 chain_flat
    obtain ⟨ao, rfl, hao⟩ := da_chain dO
    have lo : 1 ≤ ows.length ∧ ows.length ≤ 5 := by
      have h2 : (decide (1 ≤ (ows.map PyData.str).length) && decide (((ows.map PyData.str).length : Int) ≤ 4 + 1) && (ows.map PyData.str).all isWordD) = true := cho
      simp only [Bool.and_eq_true, decide_eq_true_eq, List.length_map] at h2
      omega
    refine ⟨_, rfl, _, rfl, _, ows.length, rfl, .inr ⟨_, hao, by rw [List.length_map]⟩, p, c, cells, t5, l5, _, rfl, N5, by omega, by omega, by omega, fun ai t6 l6 H6 a0 a1 ht6 N6 old6 => ?_⟩
    have k6 := N5.keep old6
    have dr := dr.keep k6 rows_tup
    have df := df.keep k6 chain_flat
    have dO := dO.keep k6 chain_flat
    have ddo := N5.butD old6 ddo pdd.nd
    have O6 : Old p H H6 := Old.trans (Same.old S1) (Old.trans old2 (Old.trans (Same.old s3) (Old.trans old3 (Old.trans (Same.old S45) (Old.trans old5 old6)))))
    have lO : (ows.map PyData.str).length = ows.length := List.length_map ..
    -- the bent one
    refine ev_seq (d := bent (ows.map PyData.str) ai dd) (Evd.cat (Evd.cat (Evd.front (i := ai) (Evd.var rfl dO) (Evd.var rfl (.int ai)) a0 (by rw [lO]; omega)) (Evd.tup (EvdA.cons (Evd.var rfl ddo) EvdA.nil)) (by rw [List.length_take, List.length_singleton, lO]; omega))
      (Evd.back (i := ai + 1) (Evd.var rfl dO) (Evd.add (Evd.var rfl (.int ai)) (Evd.of dt_int)) (by omega) (by rw [lO]; omega)) (by rw [List.length_append, List.length_take, List.length_singleton, List.length_drop, lO]; omega)) fun v9 H7 S7 d9 => ?_
    have dr := dr.same S7
    have df := df.same S7
    have dO := dO.same S7
    have N7 := N6.same S7
    have hR : ∀ d ∈ wss.map chD, U d := fun d hd => (rows_pc (by decide) chs d hd).up (by decide) (by decide)
    have hF : U (chD (fx :: fw)) := (chain_pc (by decide) chf).up (by decide) (by decide)
    have hO : U (chD ows) := (chain_pc (by decide) cho).up (by decide) (by decide)
    have hw : ∀ d ∈ ows.map PyData.str, Pc 0 82 d := fun d hd => by
      have h2 : (decide (1 ≤ (ows.map PyData.str).length) && decide (((ows.map PyData.str).length : Int) ≤ 4 + 1) && (ows.map PyData.str).all isWordD) = true := cho
      simp only [Bool.and_eq_true] at h2
      exact isWord_pc (List.all_eq_true.mp h2.2 d hd)
    have hOl : U (.list (ows.map PyData.str)) := (Pc.lst (m := 5) hw (by rw [lO]; omega)).up (by decide) (by decide)
    have hB : U (bent (ows.map PyData.str) ai dd) := by
      refine (Pc.tup (k := 4) (n := 250) (m := 6) (fun d hd => ?_) ?_ (by decide)).up (by decide) (by decide)
      · rcases List.mem_append.mp hd with hd | hd
        · rcases List.mem_append.mp hd with hd | hd
          · exact (hw d (List.mem_of_mem_take hd)).up (by decide) (by decide)
          · rw [List.mem_singleton.mp hd]
            exact pdd
        · exact (hw d (List.mem_of_mem_drop hd)).up (by decide) (by decide)
      · rw [List.length_append, List.length_append, List.length_take, List.length_singleton, List.length_drop, lO]
        omega
    have l4' : (wss.map chD).length ≤ 4 := by rw [List.length_map]; exact l4
    have l1' : 1 ≤ (wss.map chD).length := by rw [List.length_map]; exact l1
    generalize hRR : wss.map chD = RR at hR l4' l1' dr
    -- the options
    refine ev_seq_lst (ds := optB1 RR) (EvdA.cons (Evd.tup (EvdA.cons (Evd.of dt_int) (EvdA.cons (Evd.var rfl dr) EvdA.nil))) (EvdA.cons (Evd.tup (EvdA.cons (Evd.add (Evd.len (Evd.var rfl dr)) (Evd.of dt_int)) (EvdA.cons (Evd.var rfl dr) EvdA.nil)))
      (EvdA.cons (Evd.tup (EvdA.cons (Evd.of dt_bl) (EvdA.cons (Evd.var rfl dr) EvdA.nil))) (EvdA.cons (Evd.tup (EvdA.cons (Evd.of dt_int) (EvdA.cons (Evd.cat (Evd.var rfl dr) (Evd.front (i := 1) (Evd.var rfl dr) (Evd.of dt_int) (by decide) (by omega)) (by rw [List.length_take]; omega)) EvdA.nil)))
      (EvdA.cons (Evd.tup (EvdA.cons (Evd.of dt_int) (EvdA.cons (Evd.list (Evd.var rfl dr)) EvdA.nil))) (EvdA.cons (Evd.lst (EvdA.cons (Evd.of dt_int) (EvdA.cons (Evd.var rfl dr) EvdA.nil))) (EvdA.cons (Evd.tup (EvdA.cons (Evd.of dt_int) (EvdA.cons (Evd.tup EvdA.nil) EvdA.nil))) EvdA.nil))))))) (by show 7 ≤ 1000; decide) fun xa H8 L8 s8 da hL8 => ?_
    have s9 := same_new (o := .lst xa) hL8
    have S9 := s8.trans s9
    have g8 : (upd H8 L8 (.lst xa)) L8 = some (.lst xa) := upd_same
    have dr := dr.same S9
    have df := df.same S9
    have dO := dO.same S9
    have d9 := d9.same S9
    have da := da.same s9
    have N9 := N7.same S9
    have S69 := S7.trans S9
    have la := da.length
    revert g8 dr df dO d9 da N9 S69
    generalize upd H8 L8 (.lst xa) = HA
    intro g8 dr df dO d9 da N9 S69
    have t1 : (RR.take 1).length = 1 := by rw [List.length_take]; omega
    refine ev_seq_cat (ds := optB2 RR (chD (fx :: fw))) (EvdA.cons (Evd.tup (EvdA.cons (Evd.of dt_int) (EvdA.cons (Evd.cat (Evd.var rfl dr) (Evd.tup (EvdA.cons (Evd.var rfl df) EvdA.nil)) (by rw [List.length_singleton]; omega)) EvdA.nil)))
      (EvdA.cons (Evd.tup (EvdA.cons (Evd.of dt_int) (EvdA.cons (Evd.var rfl dr) (EvdA.cons (Evd.var rfl dr) EvdA.nil))))
      (EvdA.cons (Evd.tup (EvdA.cons (Evd.of dt_int) (EvdA.cons (Evd.rep (k0 := 5) (Evd.front (i := 1) (Evd.var rfl dr) (Evd.of dt_int) (by decide) (by omega)) (fun z => by rw [show RR.take 1 = [] from z] at t1; cases t1) (by rw [List.length_take]; omega) (by decide) (by decide)) EvdA.nil)))
      (EvdA.cons (Evd.var rfl df) (EvdA.cons (Evd.var rfl dr) (EvdA.cons (Evd.tup (EvdA.cons (Evd.of dt_int) (EvdA.cons (Evd.tup (EvdA.cons (Evd.var rfl df) EvdA.nil)) EvdA.nil)))
      (EvdA.cons (Evd.tup (EvdA.cons (Evd.of dt_int) (EvdA.cons (Evd.rep (k0 := 2) (Evd.var rfl dr) (fun z => by rw [z] at l1'; exact absurd l1' (by decide)) (by omega) (by decide) (by decide)) EvdA.nil))) EvdA.nil))))))) (by show 7 ≤ 1000; decide) (by rw [la]; show 7 ≤ 1000; decide) rfl g8 fun xb H9 L9 s10 db hL9 => ?_
    have s11 := same_new (o := .lst (xa ++ xb)) hL9
    have S11 := s10.trans s11
    have g9 : (upd H9 L9 (.lst (xa ++ xb))) L9 = some (.lst (xa ++ xb)) := upd_same
    have dO := dO.same S11
    have d9 := d9.same S11
    have da := (da.same S11).append (db.same s11)
    have N9 := N9.same S11
    have S69 := S69.trans S11
    have la := da.length
    revert g9 dO d9 da N9 S69
    generalize upd H9 L9 (.lst (xa ++ xb)) = HB
    intro g9 dO d9 da N9 S69
    refine ev_seq_cat (ds := optB3 (bent (ows.map PyData.str) ai dd)) (EvdA.cons (Evd.tup (EvdA.cons (Evd.of dt_int) (EvdA.cons (Evd.tup (EvdA.cons (Evd.var rfl d9) EvdA.nil)) EvdA.nil)))
      (EvdA.cons (Evd.tup (EvdA.cons (Evd.of dt_int) (EvdA.cons (Evd.tup (EvdA.cons (Evd.tup (EvdA.cons (Evd.of dt_str) EvdA.nil)) (EvdA.cons (Evd.var rfl d9) EvdA.nil))) EvdA.nil)))
      (EvdA.cons (Evd.tup (EvdA.cons (Evd.of dt_int) (EvdA.cons (Evd.tup (EvdA.cons (Evd.var rfl d9) (EvdA.cons (Evd.tup (EvdA.cons (Evd.of dt_str) (EvdA.cons (Evd.of dt_str) EvdA.nil))) EvdA.nil))) EvdA.nil)))
      (EvdA.cons (Evd.var rfl d9) EvdA.nil)))) (by show 4 ≤ 1000; decide) (by rw [la]; show 14 ≤ 1000; decide) rfl g9 fun xc H10 L10 s12 dc hL10 => ?_
    have s13 := same_new (o := .lst (xa ++ xb ++ xc)) hL10
    have S13 := s12.trans s13
    have g10 : (upd H10 L10 (.lst (xa ++ xb ++ xc))) L10 = some (.lst (xa ++ xb ++ xc)) := upd_same
    have dO := dO.same S13
    have da := (da.same S13).append (dc.same s13)
    have N9 := N9.same S13
    have S69 := S69.trans S13
    have la := da.length
    revert g10 dO da N9 S69
    generalize upd H10 L10 (.lst (xa ++ xb ++ xc)) = HC
    intro g10 dO da N9 S69
    obtain ⟨w0, wr, ewo⟩ : ∃ w0 wr, ows = w0 :: wr := by
      cases ows with
      | nil => exact absurd lo.1 (by decide)
      | cons w0 wr => exact ⟨w0, wr, rfl⟩
    have e0 : (ows.map PyData.str)[0]? = some (.str w0) := by rw [ewo]; rfl
    have hw0 : U (.str w0) := (hw _ (by rw [ewo]; exact List.mem_cons_self)).up (by decide) (by decide)
    refine ev_seq_cat (ds := optB4 (ows.map PyData.str) (.str w0)) (EvdA.cons (Evd.tup (EvdA.cons (Evd.of dt_int) (EvdA.cons (Evd.tup (EvdA.cons (Evd.list (Evd.var rfl dO)) EvdA.nil)) EvdA.nil)))
      (EvdA.cons (Evd.tup (EvdA.cons (Evd.of dt_int) (EvdA.cons (Evd.tup (EvdA.cons (Evd.ix (Evd.var rfl dO) e0 rfl) EvdA.nil)) EvdA.nil)))
      (EvdA.cons (Evd.tup (EvdA.cons (Evd.of dt_int) (EvdA.cons (Evd.tup (EvdA.cons (Evd.var rfl dO) (EvdA.cons (Evd.list (Evd.tup (EvdA.cons (Evd.of dt_str) (EvdA.cons (Evd.of dt_str) EvdA.nil)))) EvdA.nil))) EvdA.nil))) EvdA.nil))) (by show 3 ≤ 1000; decide) (by rw [la]; show 18 ≤ 1000; decide) rfl g10 fun xd H11 L11 s14 dd4 hL11 => ?_
    have s15 := same_new (o := .lst (xa ++ xb ++ xc ++ xd)) hL11
    have S15 := s14.trans s15
    have g11 : (upd H11 L11 (.lst (xa ++ xb ++ xc ++ xd))) L11 = some (.lst (xa ++ xb ++ xc ++ xd)) := upd_same
    have da := (da.same S15).append (dd4.same s15)
    have N9 := N9.same S15
    have S69 := S69.trans S15
    have la := da.length
    revert g11 da N9 S69
    generalize upd H11 L11 (.lst (xa ++ xb ++ xc ++ xd)) = HD
    intro g11 da N9 S69
    refine ev_ret_pick (ds := optB5) (EvdA.cons (Evd.tup (EvdA.cons (Evd.of dt_int) (EvdA.cons (singles (ws := ["a", "b", "c", "d", "e"]) (dta_cons dt_str (dta_cons dt_str (dta_cons dt_str (dta_cons dt_str (dta_cons dt_str dta_nil))))) (by decide)) EvdA.nil))) EvdA.nil) (by show 1 ≤ 1000; decide) (by rw [la]; show 21 ≤ 1000; decide) rfl rfl g11 fun xe H12 L12 s16 de hL12 => ?_
    have s17 := same_new (o := .lst (xa ++ xb ++ xc ++ xd ++ xe)) hL12
    have S17 := s16.trans s17
    have da := (da.same S17).append (de.same s17)
    have N9 := N9.same S17
    have S69 := S69.trans S17
    have la := da.length
    refine ⟨p, c, L12, cells, t6, l6, _, rfl, N9, by omega, upd_same, by rw [la]; show 1 ≤ 22; decide, by rw [la]; show 22 ≤ 1000000; decide, fun v' t7 l7 H13 mv ht7 N13 old13 => ?_⟩
    obtain ⟨d', md, ad⟩ := da.mem mv
    have gd : Good d' := by
      simp only [List.mem_append] at md
      rcases md with (((md | md) | md) | md) | md
      · exact goodB1 hR l4' d' md
      · exact goodB2 hR hF l4' d' md
      · exact goodB3 hB d' md
      · exact goodB4 hO hOl hw0 d' md
      · exact goodB5 d' md
    exact k v' d' t7 l7 H13 gd (N9.butD old13 ad gd.nd) (by omega) N13 (Old.trans O6 (Old.trans (Same.old S69) old13))
end
end LW

/-! A Leave's properties and its ==. -/
namespace LW
open PySem L2 G
abbrev sSubject : Stmt := inClass (top 33) 1
abbrev sTags : Stmt := inClass (top 33) 2
abbrev sTimes : Stmt := inClass (top 33) 3
abbrev sEqL : Stmt := inClass (top 33) 4
theorem ll1 {p d t j g n : V} : List.lookup (Str.ofString "_person") (g6 p d t j g n) = some p := by simp [List.lookup]
theorem ll2 {p d t j g n : V} : List.lookup (Str.ofString "_days") (g6 p d t j g n) = some d := by
  have h1 : (Str.ofString "_days" == Str.ofString "_person") = false := by decide +kernel
  simp [List.lookup, h1]
theorem ll3 {p d t j g n : V} : List.lookup (Str.ofString "_text") (g6 p d t j g n) = some t := by
  have h1 : (Str.ofString "_text" == Str.ofString "_person") = false := by decide +kernel
  have h2 : (Str.ofString "_text" == Str.ofString "_days") = false := by decide +kernel
  simp [List.lookup, h1, h2]
theorem ll4 {p d t j g n : V} : List.lookup (Str.ofString "_subject") (g6 p d t j g n) = some j := by
  have h1 : (Str.ofString "_subject" == Str.ofString "_person") = false := by decide +kernel
  have h2 : (Str.ofString "_subject" == Str.ofString "_days") = false := by decide +kernel
  have h3 : (Str.ofString "_subject" == Str.ofString "_text") = false := by decide +kernel
  simp [List.lookup, h1, h2, h3]
theorem ll5 {p d t j g n : V} : List.lookup (Str.ofString "_tags") (g6 p d t j g n) = some g := by
  have h1 : (Str.ofString "_tags" == Str.ofString "_person") = false := by decide +kernel
  have h2 : (Str.ofString "_tags" == Str.ofString "_days") = false := by decide +kernel
  have h3 : (Str.ofString "_tags" == Str.ofString "_text") = false := by decide +kernel
  have h4 : (Str.ofString "_tags" == Str.ofString "_subject") = false := by decide +kernel
  simp [List.lookup, h1, h2, h3, h4]
theorem ll6 {p d t j g n : V} : List.lookup (Str.ofString "_times") (g6 p d t j g n) = some n := by
  have h1 : (Str.ofString "_times" == Str.ofString "_person") = false := by decide +kernel
  have h2 : (Str.ofString "_times" == Str.ofString "_days") = false := by decide +kernel
  have h3 : (Str.ofString "_times" == Str.ofString "_text") = false := by decide +kernel
  have h4 : (Str.ofString "_times" == Str.ofString "_subject") = false := by decide +kernel
  have h5 : (Str.ofString "_times" == Str.ofString "_tags") = false := by decide +kernel
  simp [List.lookup, h1, h2, h3, h4, h5]
theorem lk3 {p d t n c : V} : List.lookup (Str.ofString "_text") (f5 p d t n c) = some t := by
  have h1 : (Str.ofString "_text" == Str.ofString "_person") = false := by decide +kernel
  have h2 : (Str.ofString "_text" == Str.ofString "_days") = false := by decide +kernel
  simp [List.lookup, h1, h2]
theorem chain_lay {ws : List Str} (h : isChainD (chD ws) 4 = true) : (chD ws).canLay0 = true ∧ (chD ws).depth ≤ 1 := by
  refine ⟨by simp only [chD, PyData.canLay0, layStrs ws (words_strOk h)], ?_⟩
  simp only [chD, PyData.depth, depStrs]
  omega
theorem rows_lay : ∀ {wss : List (List Str)}, (∀ ws ∈ wss, isChainD (chD ws) 4 = true) → PyData.canLayAll0 (wss.map chD) = true ∧ PyData.depthAll (wss.map chD) ≤ 1
  | [], _ => by simp [PyData.canLayAll0, PyData.depthAll]
  | w :: r, h => by
    obtain ⟨a, b⟩ := chain_lay (h w List.mem_cons_self)
    obtain ⟨c, d⟩ := rows_lay fun ws hw => h ws (List.mem_cons_of_mem _ hw)
    simp only [List.map_cons, PyData.canLayAll0, PyData.depthAll, a, c, Bool.and_self, true_and]
    omega
theorem subj_lay {d : PyData} (h : subjD d = true) : d.canLay0 = true ∧ d.depth ≤ 3 := by
  rcases subj_cases h with ⟨ws, rfl, c⟩ | ⟨m, wss, rfl, _, _, _, ch, _⟩
  · obtain ⟨a, b⟩ := chain_lay c
    exact ⟨a, by omega⟩
  · obtain ⟨a, b⟩ := rows_lay ch
    refine ⟨by simp only [PyData.canLay0, PyData.canLayAll0, a, Bool.and_self], ?_⟩
    simp only [PyData.depth, PyData.depthAll]
    omega
theorem subj_shaped {d : PyData} (h : subjD d = true) : SeqAt.shaped d = true := by
  rcases subj_cases h with ⟨ws, rfl, c⟩ | ⟨m, wss, rfl, _, _, _, ch, _⟩
  · exact shapedTup _ (words_strOk c)
  · obtain ⟨a, b⟩ := subj_lay h
    simp only [SeqAt.shaped, a, Bool.true_and, decide_eq_true_eq]
    omega
/-- the Leave at a -/
def LeaAt (K : PySem.W.Frag) (H : Hp) (C a : Addr) (p : Str) (dj : PyData) (g h i j : Int) (t : Option Int) : Prop := ∃ (dx q ag : Addr) (vj : V) (tx : Str), H a = some (.ins C dx (g6 (.str p) (.ref q) (.str tx) vj (.ref ag) (timesV t))) ∧ Da K H vj dj ∧ SqT K H ag [.int g, .int h] ∧ SqT K H q [.int i, .int j]
def eqvL (p p2 : Str) (dj dj2 : PyData) (g h g2 h2 i j i2 j2 : Int) (t t2 : Option Int) : Bool := decide (p = p2) && (PyData.eqv dj dj2 && (decide (g = g2 ∧ h = h2) && (decide (i = i2 ∧ j = j2) && decide (t = t2))))
/-- Leave's == -/
def spEqL (K : PySem.W.Frag) (C : Addr) : Sp := fun vs H Q _ => ∃ (a : Addr) (y : V) (p : Str) (dj : PyData) (g h i j : Int) (t : Option Int), vs = [.ref a, y] ∧ LeaAt K H C a p dj g h i j t ∧ subjD dj = true ∧
  ((∃ (b : Addr) (p2 : Str) (dj2 : PyData) (g2 h2 i2 j2 : Int) (t2 : Option Int), y = .ref b ∧ LeaAt K H C b p2 dj2 g2 h2 i2 j2 t2 ∧ subjD dj2 = true ∧ Q (.bl (eqvL p p2 dj dj2 g h g2 h2 i j i2 j2 t t2)) H) ∨ ∃ tb, TyX K H y tb ∧ PySem.W.kitOne K tb (.ref C) = some false ∧ Q (.bl false) H)
section
variable {P : Program} {w : World} {K : PySem.W.Frag} {mg : Str → Option Value} {base : Heap} {C : Addr}
theorem scHS : FnScope ["self"] ["self"] (defScope sSubject) := ⟨rfl, rfl, rfl, by decide +kernel, rfl, by decide +kernel, by decide +kernel⟩
theorem scHG : FnScope ["self"] ["self"] (defScope sTags) := ⟨rfl, rfl, rfl, by decide +kernel, rfl, by decide +kernel, by decide +kernel⟩
theorem scHN : FnScope ["self"] ["self"] (defScope sTimes) := ⟨rfl, rfl, rfl, by decide +kernel, rfl, by decide +kernel, by decide +kernel⟩
theorem scEqL : FnScope ["self", "other"] ["self", "other"] (defScope sEqL) := ⟨rfl, rfl, rfl, by decide +kernel, rfl, by decide +kernel, by decide +kernel⟩
theorem ok_hP {f : Addr} {fd : FuncData} (F : Fun K "person" "Statement.person" sPerson f fd) (c : Cls K C) (n : NoAttr K C "_person") : FnOk P w K mg base CX0 1 f fd ["self"] (spGet C "_person") := by
  refine F.ok scGP (fun vs H Q E h => ?_) (fun cdv A outer s H vs Q E hr h => ?_)
  · obtain ⟨a, dx, fs, v, rfl, _⟩ := h
    rfl
  · obtain ⟨a, dx, fs, v, rfl, ea, l, k⟩ := h
    exact ⟨_, pss_one (ps_ret (pe_fld (pv 0) rfl)), ⟨_, rfl, a, C, dx, fs, v, rfl, ea, c, n, l, k⟩⟩
theorem ok_hD {f : Addr} {fd : FuncData} (F : Fun K "days" "Statement.days" sDays f fd) (c : Cls K C) (n : NoAttr K C "_days") : FnOk P w K mg base CX0 1 f fd ["self"] (spGet C "_days") := by
  refine F.ok scGD (fun vs H Q E h => ?_) (fun cdv A outer s H vs Q E hr h => ?_)
  · obtain ⟨a, dx, fs, v, rfl, _⟩ := h
    rfl
  · obtain ⟨a, dx, fs, v, rfl, ea, l, k⟩ := h
    exact ⟨_, pss_one (ps_ret (pe_fld (pv 0) rfl)), ⟨_, rfl, a, C, dx, fs, v, rfl, ea, c, n, l, k⟩⟩
theorem ok_hS {f : Addr} {fd : FuncData} (F : Fun K "subject" "Leave.subject" sSubject f fd) (c : LeaC K C) : FnOk P w K mg base CX0 1 f fd ["self"] (spGet C "_subject") := by
  refine F.ok scHS (fun vs H Q E h => ?_) (fun cdv A outer s H vs Q E hr h => ?_)
  · obtain ⟨a, dx, fs, v, rfl, _⟩ := h
    rfl
  · obtain ⟨a, dx, fs, v, rfl, ea, l, k⟩ := h
    exact ⟨_, pss_one (ps_ret (pe_fld (pv 0) rfl)), ⟨_, rfl, a, C, dx, fs, v, rfl, ea, c.cl, c.n4, l, k⟩⟩
theorem ok_hG {f : Addr} {fd : FuncData} (F : Fun K "tags" "Leave.tags" sTags f fd) (c : LeaC K C) : FnOk P w K mg base CX0 1 f fd ["self"] (spGet C "_tags") := by
  refine F.ok scHG (fun vs H Q E h => ?_) (fun cdv A outer s H vs Q E hr h => ?_)
  · obtain ⟨a, dx, fs, v, rfl, _⟩ := h
    rfl
  · obtain ⟨a, dx, fs, v, rfl, ea, l, k⟩ := h
    exact ⟨_, pss_one (ps_ret (pe_fld (pv 0) rfl)), ⟨_, rfl, a, C, dx, fs, v, rfl, ea, c.cl, c.n5, l, k⟩⟩
theorem ok_hN {f : Addr} {fd : FuncData} (F : Fun K "times" "Leave.times" sTimes f fd) (c : LeaC K C) : FnOk P w K mg base CX0 1 f fd ["self"] (spGet C "_times") := by
  refine F.ok scHN (fun vs H Q E h => ?_) (fun cdv A outer s H vs Q E hr h => ?_)
  · obtain ⟨a, dx, fs, v, rfl, _⟩ := h
    rfl
  · obtain ⟨a, dx, fs, v, rfl, ea, l, k⟩ := h
    exact ⟨_, pss_one (ps_ret (pe_fld (pv 0) rfl)), ⟨_, rfl, a, C, dx, fs, v, rfl, ea, c.cl, c.n6, l, k⟩⟩
variable {pP gP pD gD pS gS pG gG pN gN : Addr} {dP dD dS dG dN : FuncData}
theorem ok_eqL {f : Addr} {fd : FuncData} (F : Fun K "__eq__" "Leave.__eq__" sEqL f fd) (is : mg "isinstance" = none) (gLe : mg "Leave" = some (.ref C)) (c : LeaC K C) (k : InsK K C)
    (rP : Pr P w K mg base C "person" "_person" pP gP dP) (rD : Pr P w K mg base C "days" "_days" pD gD dD) (rS : Pr P w K mg base C "subject" "_subject" pS gS dS) (rG : Pr P w K mg base C "tags" "_tags" pG gG dG) (rN : Pr P w K mg base C "times" "_times" pN gN dN) :
    FnOk P w K mg base CX0 3 f fd ["self", "other"] (spEqL K C) := by
  refine F.ok scEqL (fun vs H Q E h => ?_) (fun cdv A outer s H vs Q E hr h => ?_)
  · obtain ⟨a, y, p, dj, g, h, i, j, t, rfl, _⟩ := h
    rfl
  · obtain ⟨a, y, p, dj, g, h, i, j, t, rfl, N, ok, q⟩ := h
    have hu := hr.units
    refine ⟨_, pss_one (ps_ret (pe_and (pe_callB call_isi (by rfl) is (by decide +kernel) (pa_cons (pv 1) (pa_cons (pe_glob (v := .ref C) (by rfl) gLe rfl) pa_nil)))
      (pe_and (pe_cmpR op_eq (pe_prop (pv 0) c.cl rP.of rP.ok hr rP.b .nil pass0 rfl) (pe_prop (pv 1) c.cl rP.of rP.ok hr rP.b .nil pass0 rfl) (nomark _))
      (pe_and (pe_cmpR (op_eqD hu) (pe_prop (pv 0) c.cl rS.of rS.ok hr rS.b .nil pass0 rfl) (pe_prop (pv 1) c.cl rS.of rS.ok hr rS.b .nil pass0 rfl) (nomark _))
      (pe_and (pe_cmpR (op_eqD hu) (pe_prop (pv 0) c.cl rG.of rG.ok hr rG.b .nil pass0 rfl) (pe_prop (pv 1) c.cl rG.of rG.ok hr rG.b .nil pass0 rfl) (nomark _))
      (pe_and (pe_cmpR (op_eqD hu) (pe_prop (pv 0) c.cl rD.of rD.ok hr rD.b .nil pass0 rfl) (pe_prop (pv 1) c.cl rD.of rD.ok hr rD.b .nil pass0 rfl) (nomark _))
      (pe_one (pe_cmpR op_eq (pe_prop (pv 0) c.cl rN.of rN.ok hr rN.b .nil pass0 rfl) (pe_prop (pv 1) c.cl rN.of rN.ok hr rN.b .nil pass0 rfl) (nomark _))))))))), ?_⟩
    rcases q with ⟨b, p2, dj2, g2, h2, i2, j2, t2, rfl, N2, ok2, q⟩ | ⟨tb, ty, kf, q⟩
    · obtain ⟨dx, aq, ag, vj, tx, a1, a2, a3, a4⟩ := N
      obtain ⟨dx2, aq2, ag2, vj2, tx2, b1, b2, b3, b4⟩ := N2
      have tyb : TyX K H (.ref b) (.ref C) := .base (.ins b1 c.cl k.ha k.hn k.ht k.hm)
      refine ⟨_, rfl, .ref b, .ref C, _, _, true, rfl, .own C, tyb, k.self, _, rfl, iteT ?_⟩
      unfold eqvL at q
      refine ⟨_, rfl, a, dx, _, rfl, a1, a, dx, _, _, rfl, a1, ll1, _, rfl, b, dx2, _, rfl, b1, b, dx2, _, _, rfl, b1, ll1, (show scal (V.str p) (V.str p2) = true from rfl), _, rfl, ?_⟩
      by_cases ep : p = p2
      rotate_left
      · rw [decide_eq_false (show ¬ V.str p = V.str p2 from fun z => ep (V.str.inj z))]
        rw [decide_eq_false ep, Bool.false_and] at q
        exact iteF q
      rw [decide_eq_true (show V.str p = V.str p2 by rw [ep])]
      rw [decide_eq_true ep, Bool.true_and] at q
      refine iteT ⟨_, rfl, a, dx, _, rfl, a1, a, dx, _, _, rfl, a1, ll4, _, rfl, b, dx2, _, rfl, b1, b, dx2, _, _, rfl, b1, ll4, _, _, a2.dp (subj_tupD ok), b2.dp (subj_tupD ok2), subj_shaped ok, subj_shaped ok2, _, rfl, ?_⟩
      cases ej : PyData.eqv dj dj2 with
      | false =>
        rw [ej, Bool.false_and] at q
        exact iteF q
      | true =>
      rw [ej, Bool.true_and] at q
      refine iteT ⟨_, rfl, a, dx, _, rfl, a1, a, dx, _, _, rfl, a1, ll5, _, rfl, b, dx2, _, rfl, b1, b, dx2, _, _, rfl, b1, ll5, _, _, dpPair a3, dpPair b3, shapedPair _ _, shapedPair _ _, _, rfl, ?_⟩
      rw [eqvPair]
      cases eg : decide (g = g2 ∧ h = h2) with
      | false =>
        rw [eg, Bool.false_and] at q
        exact iteF q
      | true =>
      rw [eg, Bool.true_and] at q
      refine iteT ⟨_, rfl, a, dx, _, rfl, a1, a, dx, _, _, rfl, a1, ll2, _, rfl, b, dx2, _, rfl, b1, b, dx2, _, _, rfl, b1, ll2, _, _, dpPair a4, dpPair b4, shapedPair _ _, shapedPair _ _, _, rfl, ?_⟩
      rw [eqvPair]
      cases ed : decide (i = i2 ∧ j = j2) with
      | false =>
        rw [ed, Bool.false_and] at q
        exact iteF q
      | true =>
      rw [ed, Bool.true_and] at q
      have sc : scal (timesV t) (timesV t2) = true := by cases t <;> cases t2 <;> rfl
      refine iteT ⟨_, rfl, a, dx, _, rfl, a1, a, dx, _, _, rfl, a1, ll6, _, rfl, b, dx2, _, rfl, b1, b, dx2, _, _, rfl, b1, ll6, sc, ?_⟩
      have e : decide (timesV t = timesV t2) = decide (t = t2) := decide_eq_decide.mpr ⟨fun z => by
        cases t with
        | none => cases t2 with
          | none => rfl
          | some _ => cases z
        | some x => cases t2 with
          | none => cases z
          | some x2 => rw [V.int.inj z], fun z => by rw [z]⟩
      rw [e]
      exact q
    · exact ⟨_, rfl, y, .ref C, _, _, false, rfl, .own C, ty, kf, _, rfl, iteF q⟩
end
end LW

/-! The law's turn, its first part: what is drawn. -/
namespace LW
open PySem L2 G
abbrev sLaw : Stmt := top 58
def forBody : Stmt → List Stmt
  | .For _ _ b _ _ => b
  | _ => []
def nth (l : List Stmt) (i : Nat) : Stmt := l.getD i (.Pass ⟨0, 0, 0, 0⟩)
abbrev sFor : Stmt := nth (defBody sLaw) 1
abbrev fb (i : Nat) : Stmt := nth (forBody sFor) i
abbrev nmW2 : List Str := ["_law_script", "_law_pen_here", "_law_turn", "_law_people", "_law_words_here", "_law_kept", "_law_due_here", "_law_told_here", "_law_again", "_law_whole", "_law_shown", "_law_far", "_law_goal", "_law_often", "_law_reach", "_law_span_here", "_law_who"]
theorem scLaw : FnScope nmW2 ["_law_script"] (defScope sLaw) := ⟨rfl, rfl, rfl, by decide +kernel, rfl, by decide +kernel, by decide +kernel⟩
abbrev XL (w : World) (K : PySem.W.Frag) (mg : Str → Option Value) (base : Heap) (f c : Addr) (A : Around) (outer : List Env) (s : Shared) (H : Hp) (E : XK) : Cx :=
  (cxOf CX0 PySem.Challenge.pw_namechains_k02_leaves_made_and_refused w K mg base nmW2 "law" (defScope sLaw) f (.ref c) A outer s H E).nox
/-- the drawn values, behind the first part -/
structure Drawn5 (K : PySem.W.Frag) (T : Addr) (q : Str) (H0 H : Hp) (p c : Addr) (cells : List Int) (t : Int) (v1 v2 v3 v4 v5 : V) (d1 d2 d3 d4 d5 : PyData) : Prop where
  pen : ∃ t2 l2, PenAt H p c cells t2 l2 ∧ t2 ≤ t
  tab : LamX.Tabs [(T, q)] H
  old : Old p H0 H
  a1 : Da K H v1 d1
  a2 : Da K H v2 d2
  a3 : Da K H v3 d3
  a4 : Da K H v4 d4
  a5 : Da K H v5 d5
  g1 : Good d1
  g2 : Good d2
  g3 : Good d3
  g4 : Good d4
  g5 : Good d5
/-- good values in the heap -/
def GA (K : PySem.W.Frag) (H : Hp) (xs : List V) (ds : List PyData) : Prop := DaAll K H xs ds ∧ ∀ d ∈ ds, Good d
theorem GA.nil {K : PySem.W.Frag} {H : Hp} : GA K H [] [] := ⟨.nil, fun d h => by cases h⟩
theorem GA.cons {K : PySem.W.Frag} {H : Hp} {x : V} {xs : List V} {d : PyData} {ds : List PyData} (a : Da K H x d) (g : Good d) (b : GA K H xs ds) : GA K H (x :: xs) (d :: ds) := ⟨.cons a b.1, fun e he => by
  rcases List.mem_cons.mp he with rfl | he
  · exact g
  · exact b.2 e he⟩
theorem GA.same {K : PySem.W.Frag} {H H' : Hp} {xs : List V} {ds : List PyData} (g : GA K H xs ds) (s : Same H H') : GA K H' xs ds := ⟨g.1.same s, g.2⟩
theorem GA.old {K : PySem.W.Frag} {H H' : Hp} {xs : List V} {ds : List PyData} {p c : Addr} {cells : List Int} {t l : Int} (g : GA K H xs ds) (N : PenAt H p c cells t l) (o : Old p H H') : GA K H' xs ds := ⟨N.butA o g.1 (nd_all fun d hd => (g.2 d hd).nd), g.2⟩
theorem GA.mem {K : PySem.W.Frag} {H : Hp} {xs : List V} {ds : List PyData} {x : V} (g : GA K H xs ds) (m : x ∈ xs) : ∃ d, Da K H x d ∧ Good d := by
  obtain ⟨d, hd, a⟩ := g.1.mem m
  exact ⟨d, a, g.2 d hd⟩
theorem named {K : PySem.W.Frag} {H : Hp} {ps : List Str} {v z : V} {dz : PyData} (m : v ∈ (ps.map V.str ++ ps.map V.str) ++ [z]) (q : ∀ y ∈ ps, WordQ y) (oz : OddQ dz) (az : Da K H z dz) : ∃ d, Da K H v d ∧ Good d := by
  rcases List.mem_append.mp m with m | m
  · have m : v ∈ ps.map V.str := by
      rcases List.mem_append.mp m with m | m
      · exact m
      · exact m
    obtain ⟨y, hy, rfl⟩ := List.mem_map.mp m
    exact ⟨_, .str y, word_good (q y hy)⟩
  · rw [List.mem_singleton.mp m]
    exact ⟨dz, az, odd_good oz⟩
theorem da_span {K : PySem.W.Frag} {H : Hp} {q : Addr} {i j : Int} (h : H q = some (.tup [.int i, .int j])) : Da K H (.ref q) (.tuple [.int i, .int j]) := .tup (SqT.of h) (.cons (.int i) (.cons (.int j) .nil))
theorem sp_good {i j : Int} (a0 : 0 ≤ i) (ab : i ≤ j) (b1 : j ≤ 10 ^ 30) : Good (.tuple [.int i, .int j]) := span_good (natAbs_big a0 (by omega)) (natAbs_big (i := j) (by omega) b1)
theorem sp_goodR {i j : Int} (a0 : 0 ≤ i) (ab : i ≤ j) (b1 : j ≤ 10 ^ 30) : Good (.tuple [.int j, .int i]) := span_good (natAbs_big (i := j) (by omega) b1) (natAbs_big a0 (by omega))
section
variable {w : World} {K : PySem.W.Frag} {mg : Str → Option Value} {base : Heap} {f c0 : Addr} {A : Around} {outer : List Env} {s : Shared} {HS : Hp} {E : XK}
variable {fW fJ fO fB fK fS : Addr} {dW dJ dO dB dK dS : FuncData}
theorem partA {k : Nat} (T : Bt mg) (hr : Room (k + 4) (XL w K mg base f c0 A outer s HS E).A)
    (GW : Fx PySem.Challenge.pw_namechains_k02_leaves_made_and_refused w K mg base CX0 3 "_law_words" fW dW ["_law_pen_here", "_law_many"] spWords) (GJ : Fx PySem.Challenge.pw_namechains_k02_leaves_made_and_refused w K mg base CX0 4 "_law_subject" fJ dJ ["_law_pen_here", "_law_people", "_law_words_here", "_law_top"] (spSubL K))
    (GB : Fx PySem.Challenge.pw_namechains_k02_leaves_made_and_refused w K mg base CX0 4 "_law_bent" fB dB ["_law_pen_here", "_law_goal", "_law_people", "_law_words_here"] (spBent K)) (GO : Fx PySem.Challenge.pw_namechains_k02_leaves_made_and_refused w K mg base CX0 4 "_law_odd" fO dO ["_law_pen_here"] (spOdd K))
    (GK : Fx PySem.Challenge.pw_namechains_k02_leaves_made_and_refused w K mg base CX0 2 "_law_pick" fK dK ["_law_pen_here", "_law_options"] (spPick K)) (GS : Fx PySem.Challenge.pw_namechains_k02_leaves_made_and_refused w K mg base CX0 4 "_law_span" fS dS ["_law_pen_here"] spSpan) :
    ∃ tA : TS → TS, (∀ (rest : List Stmt) (t : TS), PSs (XL w K mg base f c0 A outer s HS E) rest t → PSs (XL w K mg base f c0 A outer s HS E) (fb 0 :: fb 1 :: fb 2 :: fb 3 :: fb 4 :: fb 5 :: fb 6 :: rest) (tA t)) ∧
      ∀ (t : TS) (D : Ends) (H : Hp) (a p c Tb : Addr) (q : Str) (cells : List Int) (ti li : Int) (v2 v3 v4 v5 v6 v7 v8 v9 v10 v11 v12 v13 v14 v15 v16 : Option V), PenAt H p c cells ti li → ti ≤ 100000 → LamX.Tabs [(Tb, q)] H →
        (∀ (H' : Hp) (w1 w2 w3 w4 w5 : V) (d1 d2 d3 d4 d5 : PyData) (u3 u4 : Option V), Drawn5 K Tb q H H' p c cells (ti + 1000) w1 w2 w3 w4 w5 d1 d2 d3 d4 d5 →
          t D [some (.ref a), some (.ref p), v2, u3, u4, v5, v6, v7, v8, v9, v10, v11, some w2, some w5, some w3, some w4, some w1] H') →
        tA t D [some (.ref a), some (.ref p), v2, v3, v4, v5, v6, v7, v8, v9, v10, v11, v12, v13, v14, v15, v16] H := by
  have nd := scLaw.nd
  have hr4 : Room 4 (XL w K mg base f c0 A outer s HS E).A := hr.mono (by omega)
  have hr3 : Room 3 (XL w K mg base f c0 A outer s HS E).A := hr.mono (by omega)
  have hr2 : Room 2 (XL w K mg base f c0 A outer s HS E).A := hr.mono (by omega)
  refine ⟨_, fun rest t ht => pss_cons (ps_par (i := 3) (j := 4) (by rfl) nd rfl rfl (by decide) rfl rfl (pa_cons (pe_call GW.ok hr3 (by rfl) GW.m GW.k GW.b .nil pass0 (pa_cons (pv 1) (pa_cons pe_int pa_nil))) (pa_cons (pe_call GW.ok hr3 (by rfl) GW.m GW.k GW.b .nil pass0 (pa_cons (pv 1) (pa_cons pe_int pa_nil))) pa_nil)) (by rfl))
      (pss_cons (ps_set (i := 12) nd rfl (Or.inr rfl) (pe_call GJ.ok hr4 (by rfl) GJ.m GJ.k GJ.b .nil pass0 (pa_cons (pv 1) (pa_cons (pv 3) (pa_cons (pv 4) (pa_cons pe_int pa_nil))))))
      (pss_cons (ps_set (i := 12) nd rfl (Or.inr rfl) (pe_call GK.ok hr2 (by rfl) GK.m GK.k GK.b .nil pass0 (pa_cons (pv 1) (pa_cons (pe_lst (pa_cons (pv 12) (pa_cons (pv 12) (pa_cons (pe_call GB.ok hr4 (by rfl) GB.m GB.k GB.b .nil pass0 (pa_cons (pv 1) (pa_cons (pv 12) (pa_cons (pv 3) (pa_cons (pv 4) pa_nil))))) (pa_cons (pe_call GO.ok hr4 (by rfl) GO.m GO.k GO.b .nil pass0 (pa_cons (pv 1) pa_nil)) pa_nil))))) pa_nil))))
      (pss_cons (ps_set (i := 16) nd rfl (Or.inr rfl) (pe_call GK.ok hr2 (by rfl) GK.m GK.k GK.b .nil pass0 (pa_cons (pv 1) (pa_cons (pe_op op_cat (pe_op op_cat (pv 3) (pv 3)) (pe_lst (pa_cons (pe_call GO.ok hr4 (by rfl) GO.m GO.k GO.b .nil pass0 (pa_cons (pv 1) pa_nil)) pa_nil))) pa_nil))))
      (pss_cons (ps_set (i := 14) nd rfl (Or.inr rfl) (pe_call GK.ok hr2 (by rfl) GK.m GK.k GK.b .nil pass0 (pa_cons (pv 1) (pa_cons (pe_lst (pa_cons (pe_call GS.ok hr4 (by rfl) GS.m GS.k GS.b .nil pass0 (pa_cons (pv 1) pa_nil)) (pa_cons (pe_call GS.ok hr4 (by rfl) GS.m GS.k GS.b .nil pass0 (pa_cons (pv 1) pa_nil))
          (pa_cons (pe_revP (pe_call GS.ok hr4 (by rfl) GS.m GS.k GS.b .nil pass0 (pa_cons (pv 1) pa_nil))) (pa_cons (pe_call GO.ok hr4 (by rfl) GO.m GO.k GO.b .nil pass0 (pa_cons (pv 1) pa_nil)) pa_nil))))) pa_nil))))
      (pss_cons (ps_set (i := 15) nd rfl (Or.inr rfl) (pe_call GK.ok hr2 (by rfl) GK.m GK.k GK.b .nil pass0 (pa_cons (pv 1) (pa_cons (pe_lst (pa_cons pe_non (pa_cons (pe_call GS.ok hr4 (by rfl) GS.m GS.k GS.b .nil pass0 (pa_cons (pv 1) pa_nil)) (pa_cons (pe_call GS.ok hr4 (by rfl) GS.m GS.k GS.b .nil pass0 (pa_cons (pv 1) pa_nil))
          (pa_cons (pe_call GO.ok hr4 (by rfl) GO.m GO.k GO.b .nil pass0 (pa_cons (pv 1) pa_nil)) pa_nil))))) pa_nil))))
      (pss_cons (ps_set (i := 13) nd rfl (Or.inr rfl) (pe_call GK.ok hr2 (by rfl) GK.m GK.k GK.b .nil pass0 (pa_cons (pv 1) (pa_cons (pe_lst (pa_cons pe_non (pa_cons pe_int (pa_cons pe_int (pa_cons pe_int (pa_cons pe_int (pa_cons (pe_un un_neg pe_int) (pa_cons pe_bl (pa_cons (pe_call GO.ok hr4 (by rfl) GO.m GO.k GO.b .nil pass0 (pa_cons (pv 1) pa_nil)) pa_nil))))))))) pa_nil)))) ht)))))), ?_⟩
  intro t D H a p c Tb q cells ti li v2 v3 v4 v5 v6 v7 v8 v9 v10 v11 v12 v13 v14 v15 v16 N tl tab k
  have t0 := N.t0
  -- people and words
  refine ⟨_, rfl, p, c, cells, ti, li, 3, rfl, N, by omega, by omega, by omega, fun o1 ps t1 l1 H1 len1 q1 _ g1 f1 ht1 N1 old1 => ?_⟩
  refine ⟨_, rfl, p, c, cells, t1, l1, 3, rfl, N1, by omega, by omega, by omega, fun o2 ws t2 l2 H2 len2 q2 _ g2 f2 ht2 N2 old2 => ⟨_, _, rfl, ?_⟩⟩
  have n1 : o1 ≠ p := N.ne f1
  have W : Words H2 o1 o2 ps ws := ⟨old2 _ _ g1 n1, g2, by omega, by omega, by omega, by omega, q1, q2⟩
  have O2 : Old p H H2 := Old.trans old1 old2
  -- the goal
  refine ⟨_, rfl, _, rfl, _, rfl, p, c, o1, o2, cells, t2, l2, ps, ws, rfl, N2, by omega, W, fun vj dj t3 l3 H3 sj aj ht3 N3 old3 => ?_⟩
  have W := W.old N2 old3
  have gj := subj_good sj
  refine ⟨_, rfl, _, rfl, _, rfl, _, rfl, _, rfl, _, rfl, _, rfl, p, c, o1, o2, cells, t3, l3, ps, ws, vj, dj, rfl, N3, by omega, W, sj, aj, fun vb db t4 l4 H4 gb ab ht4 N4 old4 => ?_⟩
  have W := W.old N3 old4
  refine ⟨_, rfl, p, c, cells, t4, l4, rfl, N4, by omega, fun vo eo t5 l5 H5 oq ao ht5 N5 old5 => ?_⟩
  have W := W.old N4 old5
  refine ⟨by show 4 ≤ sizeLine; decide, fun L hL => ?_⟩
  have S6 := same_new (o := .lst [vj, vj, vb, vo]) hL
  have aj5 := N4.butD old5 (N3.butD old4 aj gj.nd) gj.nd
  have GG : GA K H5 [vj, vj, vb, vo] [dj, dj, db, eo] := .cons aj5 gj (.cons aj5 gj (.cons (N4.butD old5 ab gb.nd) gb (.cons ao (odd_good oq) .nil)))
  have GG := GG.same S6
  have W := W.same S6
  have N6 := N5.same S6
  refine ⟨p, c, L, cells, t5, l5, _, rfl, N6, by omega, upd_same, by show 1 ≤ 4; decide, by show 4 ≤ 1000000; decide, fun w2 t7 l7 H7 m2 ht7 N7 old7 => ?_⟩
  obtain ⟨d2, a2, g2⟩ := (GG.old N6 old7).mem m2
  have W := W.old N6 old7
  have O7 : Old p H H7 := Old.trans O2 (Old.trans old3 (Old.trans old4 (Old.trans old5 (Old.trans (Same.old S6) old7))))
  clear GG aj5 S6 ao ab aj N6 hL
  -- who
  refine ⟨_, rfl, _, rfl, _, rfl, o1, o1, _, _, rfl, rfl, W.h1, W.h1, by simp only [List.length_map]; rw [sizeLine_eq]; omega, fun e1 he1 => ?_⟩
  have Y1 := same_new (o := .lst (ps.map V.str ++ ps.map V.str)) he1
  have u1 : (upd H7 e1 (.lst (ps.map V.str ++ ps.map V.str))) e1 = some (.lst (ps.map V.str ++ ps.map V.str)) := upd_same
  have ne1 : e1 ≠ p := N7.ne he1
  have N8 := N7.same Y1
  have a2 := a2.same Y1
  have O8 : Old p H (upd H7 e1 (.lst (ps.map V.str ++ ps.map V.str))) := Old.trans O7 (Same.old Y1)
  revert u1 N8 a2 O8
  generalize upd H7 e1 (.lst (ps.map V.str ++ ps.map V.str)) = H8
  intro u1 N8 a2 O8
  refine ⟨_, rfl, p, c, cells, t7, l7, rfl, N8, by omega, fun z1 dz1 t9 l9 H9 oz1 az1 ht9 N9 old9 => ?_⟩
  have a2 := N8.butD old9 a2 g2.nd
  have u1 := old9 _ _ u1 ne1
  refine ⟨by show 1 ≤ sizeLine; decide, fun e2 he2 => ?_⟩
  have Y2 := same_new (o := .lst [z1]) he2
  refine ⟨e1, e2, _, _, rfl, rfl, Y2 _ _ u1, upd_same, by simp only [List.length_append, List.length_map, List.length_singleton]; rw [sizeLine_eq]; omega, fun e3 he3 => ?_⟩
  have Y3 := same_new (o := .lst ((ps.map V.str ++ ps.map V.str) ++ [z1])) he3
  have Y23 := Y2.trans Y3
  have N10 := N9.same Y23
  have szp : (ps.map V.str ++ ps.map V.str ++ [z1]).length = ps.length + ps.length + 1 := by rw [List.length_append, List.length_append, List.length_map]; rfl
  refine ⟨p, c, e3, cells, t9, l9, _, rfl, N10, by omega, upd_same, by rw [szp]; omega, by rw [szp]; omega, fun w1 t11 l11 H11 m1 ht11 N11 old11 => ?_⟩
  obtain ⟨d1, a1, g1⟩ := named m1 q1 oz1 (az1.same Y23)
  have a1 := N10.butD old11 a1 g1.nd
  have a2 := N10.butD old11 (a2.same Y23) g2.nd
  have O11 : Old p H H11 := Old.trans O8 (Old.trans old9 (Old.trans (Same.old Y23) old11))
  clear Y23 Y3 Y2 u1 az1 N10 he2 he3 he1 Y1
  -- the tags
  refine ⟨_, rfl, _, rfl, p, c, cells, t11, l11, rfl, N11, by omega, fun b1 i1 j1 t12 l12 H12 i1a i1b i1c gb1 nb1 ht12 N12 old12 => ?_⟩
  refine ⟨_, rfl, p, c, cells, t12, l12, rfl, N12, by omega, fun b2 i2 j2 t13 l13 H13 i2a i2b i2c gb2 nb2 ht13 N13 old13 => ?_⟩
  have gb1 := old13 _ _ gb1 nb1
  refine ⟨_, rfl, p, c, cells, t13, l13, rfl, N13, by omega, fun b3 i3 j3 t14 l14 H14 i3a i3b i3c gb3 nb3 ht14 N14 old14 => ?_⟩
  have gb1 := old14 _ _ gb1 nb1
  have gb2 := old14 _ _ gb2 nb2
  refine ⟨b3, _, _, rfl, SqT.of gb3, fun b4 hb4 => ?_⟩
  have Z1 := same_new (o := .tup [V.int j3, .int i3]) hb4
  have nb4 : b4 ≠ p := N14.ne hb4
  have N15 := N14.same Z1
  have gb1 := Z1 _ _ gb1
  have gb2 := Z1 _ _ gb2
  have gb4 : (upd H14 b4 (.tup [V.int j3, .int i3])) b4 = some (.tup [V.int j3, .int i3]) := upd_same
  have O15 : Old p H11 (upd H14 b4 (.tup [V.int j3, .int i3])) := Old.trans old12 (Old.trans old13 (Old.trans old14 (Same.old Z1)))
  revert N15 gb1 gb2 gb4 O15
  generalize upd H14 b4 (.tup [V.int j3, .int i3]) = H15
  intro N15 gb1 gb2 gb4 O15
  refine ⟨_, rfl, p, c, cells, t14, l14, rfl, N15, by omega, fun z2 dz2 t16 l16 H16 oz2 az2 ht16 N16 old16 => ?_⟩
  refine ⟨by show 4 ≤ sizeLine; decide, fun e4 he4 => ?_⟩
  have Z2 := same_new (o := .lst [V.ref b1, .ref b2, .ref b4, z2]) he4
  have GG : GA K H16 [V.ref b1, .ref b2, .ref b4, z2] [.tuple [.int i1, .int j1], .tuple [.int i2, .int j2], .tuple [.int j3, .int i3], dz2] :=
    .cons (da_span (old16 _ _ gb1 nb1)) (sp_good i1a i1b i1c) (.cons (da_span (old16 _ _ gb2 nb2)) (sp_good i2a i2b i2c) (.cons (da_span (old16 _ _ gb4 nb4)) (sp_goodR i3a i3b i3c) (.cons az2 (odd_good oz2) .nil)))
  have GG := GG.same Z2
  have N17 := N16.same Z2
  refine ⟨p, c, e4, cells, t16, l16, _, rfl, N17, by omega, upd_same, by show 1 ≤ 4; decide, by show 4 ≤ 1000000; decide, fun w3 t18 l18 H18 m3 ht18 N18 old18 => ?_⟩
  obtain ⟨d3, a3, g3⟩ := (GG.old N17 old18).mem m3
  have O18 : Old p H11 H18 := Old.trans O15 (Old.trans old16 (Old.trans (Same.old Z2) old18))
  have a1 := N11.butD O18 a1 g1.nd
  have a2 := N11.butD O18 a2 g2.nd
  have O18 : Old p H H18 := Old.trans O11 O18
  clear GG Z2 Z1 gb1 gb2 gb4 az2 N17
  -- the days
  refine ⟨_, rfl, _, rfl, p, c, cells, t18, l18, rfl, N18, by omega, fun b5 i5 j5 t19 l19 H19 i5a i5b i5c gb5 nb5 ht19 N19 old19 => ?_⟩
  refine ⟨_, rfl, p, c, cells, t19, l19, rfl, N19, by omega, fun b6 i6 j6 t20 l20 H20 i6a i6b i6c gb6 nb6 ht20 N20 old20 => ?_⟩
  have gb5 := old20 _ _ gb5 nb5
  refine ⟨_, rfl, p, c, cells, t20, l20, rfl, N20, by omega, fun z3 dz3 t21 l21 H21 oz3 az3 ht21 N21 old21 => ?_⟩
  refine ⟨by show 4 ≤ sizeLine; decide, fun e5 he5 => ?_⟩
  have Z3 := same_new (o := .lst [V.non, .ref b5, .ref b6, z3]) he5
  have GG : GA K H21 [V.non, .ref b5, .ref b6, z3] [.none, .tuple [.int i5, .int j5], .tuple [.int i6, .int j6], dz3] :=
    .cons .non (pcB_good (by decide +kernel)) (.cons (da_span (old21 _ _ gb5 nb5)) (sp_good i5a i5b i5c) (.cons (da_span (old21 _ _ gb6 nb6)) (sp_good i6a i6b i6c) (.cons az3 (odd_good oz3) .nil)))
  have GG := GG.same Z3
  have N22 := N21.same Z3
  refine ⟨p, c, e5, cells, t21, l21, _, rfl, N22, by omega, upd_same, by show 1 ≤ 4; decide, by show 4 ≤ 1000000; decide, fun w4 t23 l23 H23 m4 ht23 N23 old23 => ?_⟩
  obtain ⟨d4, a4, g4⟩ := (GG.old N22 old23).mem m4
  have O23 : Old p H18 H23 := Old.trans old19 (Old.trans old20 (Old.trans old21 (Old.trans (Same.old Z3) old23)))
  have a1 := N18.butD O23 a1 g1.nd
  have a2 := N18.butD O23 a2 g2.nd
  have a3 := N18.butD O23 a3 g3.nd
  have O23 : Old p H H23 := Old.trans O18 O23
  clear GG Z3 gb5 az3 N22
  -- the times
  refine ⟨_, rfl, _, rfl, _, rfl, p, c, cells, t23, l23, rfl, N23, by omega, fun z4 dz4 t24 l24 H24 oz4 az4 ht24 N24 old24 => ?_⟩
  refine ⟨by show 8 ≤ sizeLine; decide, fun e6 he6 => ?_⟩
  have Z4 := same_new (o := .lst [V.non, .int 0, .int 1, .int 9, .int 10, .int (-1), .bl true, z4]) he6
  have GG : GA K H24 [V.non, .int 0, .int 1, .int 9, .int 10, .int (-1), .bl true, z4] [.none, .int 0, .int 1, .int 9, .int 10, .int (-1), .bool true, dz4] :=
    .cons .non (pcB_good (by decide +kernel)) (.cons (.int _) (pcB_good (by decide +kernel)) (.cons (.int _) (pcB_good (by decide +kernel)) (.cons (.int _) (pcB_good (by decide +kernel)) (.cons (.int _) (pcB_good (by decide +kernel)) (.cons (.int _) (pcB_good (by decide +kernel)) (.cons (.bl _) (pcB_good (by decide +kernel)) (.cons az4 (odd_good oz4) .nil)))))))
  have GG := GG.same Z4
  have N25 := N24.same Z4
  refine ⟨p, c, e6, cells, t24, l24, _, rfl, N25, by omega, upd_same, by show 1 ≤ 8; decide, by show 8 ≤ 1000000; decide, fun w5 t26 l26 H26 m5 ht26 N26 old26 => ?_⟩
  obtain ⟨d5, a5, g5⟩ := (GG.old N25 old26).mem m5
  have O26 : Old p H23 H26 := Old.trans old24 (Old.trans (Same.old Z4) old26)
  have a1 := N23.butD O26 a1 g1.nd
  have a2 := N23.butD O26 a2 g2.nd
  have a3 := N23.butD O26 a3 g3.nd
  have a4 := N23.butD O26 a4 g4.nd
  have O26 : Old p H H26 := Old.trans O23 O26
  exact k H26 w1 w2 w3 w4 w5 d1 d2 d3 d4 d5 _ _ ⟨⟨t26, l26, N26, by omega⟩, tabs_old N.pen O26 tab, O26, a1, a2, a3, a4, a5, g1, g2, g3, g4, g5⟩
end
end LW

/-! What a Leave that is asked for gives: itself or an error. -/
namespace LW
open PySem L2 G
abbrev kinds (CW CJ CS CT : Addr) : List (Addr × Str) := [(CW, "word"), (CJ, "subject"), (CS, "stretch"), (CT, "times")]
/-- v tells what came of Leave(v1, .., v5) -/
def TellAt (K : PySem.W.Frag) (C : Addr) (H : Hp) (v v1 v2 v3 v4 v5 : V) (d1 d2 d3 d4 d5 : PyData) : Prop :=
  (∃ kd d q, dueO d1 d2 d3 d4 d5 = some (kd, d) ∧ v = .ref q ∧ H q = some (.tup (rowE kd d))) ∨
  (dueO d1 d2 d3 d4 d5 = none ∧ ∃ x dx st t, v = .ref x ∧ H x = some (.ins C dx (g6 v1 st (.str t) v2 v3 v5)) ∧ StAt K H v4 st d4)
section
variable {K : PySem.W.Frag} {C CW CJ CS CT : Addr} {H : Hp} {v1 v2 v3 v4 v5 : V} {d1 d2 d3 d4 d5 : PyData}
theorem make_same {x dx : Addr} (nx : H x = none) (nd : H dx = none) : Same H (upd (upd H dx (.own x)) x (.ins C dx [])) := fun b o e => by
  rw [upd_ne (ne_of_none e nx), upd_ne (ne_of_none e nd)]
  exact e
theorem days_or (w4 : d4 = .none ∨ isStretchD d4 = true) : (isNoneD d4 || isStretchD d4) = true := by
  rcases w4 with rfl | e
  · rfl
  · rw [e, Bool.or_true]
theorem due_none (w1 : isWordD d1 = true) (w2 : subjD d2 = true) (w3 : isStretchD d3 = true) (w4 : d4 = .none ∨ isStretchD d4 = true) (w5 : isTimesD d5 = true) : dueO d1 d2 d3 d4 d5 = none := by
  simp only [dueO, w1, w2, w3, days_or w4, w5, Bool.true_eq_false, if_false, if_true]
theorem none_due (h : dueO d1 d2 d3 d4 d5 = none) : isWordD d1 = true ∧ subjD d2 = true ∧ isStretchD d3 = true ∧ (d4 = .none ∨ isStretchD d4 = true) ∧ isTimesD d5 = true := by
  unfold dueO at h
  cases w1 : isWordD d1 with
  | false => simp [w1] at h
  | true =>
  cases w2 : subjD d2 with
  | false => simp [w1, w2] at h
  | true =>
  cases w3 : isStretchD d3 with
  | false => simp [w1, w2, w3] at h
  | true =>
  cases w4 : (isNoneD d4 || isStretchD d4) with
  | false => simp [w1, w2, w3, w4] at h
  | true =>
  cases w5 : isTimesD d5 with
  | false => simp [w1, w2, w3, w4, w5] at h
  | true =>
  refine ⟨rfl, rfl, rfl, ?_, rfl⟩
  rw [Bool.or_eq_true] at w4
  rcases w4 with z | z
  · exact .inl (isNoneD_iff.mp z)
  · exact .inr z
theorem lea_tell (h1 : Da K H v1 d1) (h2 : Da K H v2 d2) (h3 : Da K H v3 d3) (h4 : Da K H v4 d4) (h5 : Da K H v5 d5) (g1 : Good d1) (g2 : Good d2) (g3 : Good d3) (g4 : Good d4) (g5 : Good d5) {Q : VK} (k : ∀ v H', Same H H' → TellAt K C H' v v1 v2 v3 v4 v5 d1 d2 d3 d4 d5 → Q v H')
    {x dx : Addr} (nx : H x = none) (nd : H dx = none) (ne : dx ≠ x) :
    spLea K C CW CJ CS CT [.ref x, v1, v2, v3, v4, v5] (upd (upd H dx (.own x)) x (.ins C dx [])) (fun v H2 => v = .non ∧ Q (.ref x) H2) (wTold K (kinds CW CJ CS CT) Q) := by
  have S := make_same (C := C) nx nd
  refine ⟨x, dx, v1, v2, v3, v4, v5, d1, d2, d3, d4, d5, rfl, upd_same, h1.same S, h2.same S, h3.same S, h4.same S, h5.same S, okAll_str g1.ok, okAll_sub g2.ok, ?_, ?_, ?_, ?_, ?_, ?_⟩
  · intro w1 d H' S' n e
    exact ⟨CW, "word", d, v1, d1, by simp [kinds], rfl, rfl, e, (h1.same S).same S', g1.fit, fun q hq => k _ _ ((S.trans S').trans (same_new hq)) (.inl ⟨"word", d1, q, by simp [dueO, w1], rfl, upd_same⟩)⟩
  · intro w1 w2 d H' S' n e
    exact ⟨CJ, "subject", d, v2, d2, by simp [kinds], rfl, rfl, e, (h2.same S).same S', g2.fit, fun q hq => k _ _ ((S.trans S').trans (same_new hq)) (.inl ⟨"subject", d2, q, by simp [dueO, w1, w2], rfl, upd_same⟩)⟩
  · intro w1 w2 w3 d H' S' n e
    exact ⟨CS, "stretch", d, v3, d3, by simp [kinds], rfl, rfl, e, (h3.same S).same S', g3.fit, fun q hq => k _ _ ((S.trans S').trans (same_new hq)) (.inl ⟨"stretch", d3, q, by simp [dueO, w1, w2, w3], rfl, upd_same⟩)⟩
  · intro w1 w2 w3 w5 w4 d H' S' n e
    have z : isNoneD d4 = false := by
      cases z4 : isNoneD d4 with
      | true => exact absurd (isNoneD_iff.mp z4) w5
      | false => rfl
    exact ⟨CS, "stretch", d, v4, d4, by simp [kinds], rfl, rfl, e, (h4.same S).same S', g4.fit, fun q hq => k _ _ ((S.trans S').trans (same_new hq)) (.inl ⟨"stretch", d4, q, by simp [dueO, w1, w2, w3, w4, z], rfl, upd_same⟩)⟩
  · intro w1 w2 w3 w4 w5 d H' S' n e
    exact ⟨CT, "times", d, v5, d5, by simp [kinds], rfl, rfl, e, (h5.same S).same S', g5.fit, fun q hq => k _ _ ((S.trans S').trans (same_new hq)) (.inl ⟨"times", d5, q, by simp only [dueO, w1, w2, w3, days_or w4, w5, Bool.true_eq_false, Bool.false_eq_true, if_false], rfl, upd_same⟩)⟩
  · intro w1 w2 w3 w4 w5 st H' e1 e2 e3
    exact ⟨rfl, k _ _ (fun b o e => e1 b o (S b o e) (ne_of_none e nx)) (.inr ⟨due_none w1 w2 w3 w4 w5, x, dx, st, _, rfl, e2, e3⟩)⟩
/-- a right one -/
theorem lea_new (h1 : Da K H v1 d1) (h2 : Da K H v2 d2) (h3 : Da K H v3 d3) (h4 : Da K H v4 d4) (h5 : Da K H v5 d5) (g1 : okStr d1) (g2 : okSub d2) (z : dueO d1 d2 d3 d4 d5 = none) {R : VK} {E : XK} {x dx : Addr} (nx : H x = none) (nd : H dx = none) (ne : dx ≠ x)
    (k : ∀ H', Same H H' → (∃ dx st t, H' x = some (.ins C dx (g6 v1 st (.str t) v2 v3 v5)) ∧ StAt K H' v4 st d4) → R .non H') :
    spLea K C CW CJ CS CT (.ref x :: ([v1, v2, v3, v4, v5] ++ [])) (upd (upd H dx (.own x)) x (.ins C dx [])) R E := by
  have S := make_same (C := C) nx nd
  obtain ⟨w1, w2, w3, w4, w5⟩ := none_due z
  refine ⟨x, dx, v1, v2, v3, v4, v5, d1, d2, d3, d4, d5, rfl, upd_same, h1.same S, h2.same S, h3.same S, h4.same S, h5.same S, g1, g2, ?_, ?_, ?_, ?_, ?_, ?_⟩
  · intro e
    rw [w1] at e
    cases e
  · intro _ e
    rw [w2] at e
    cases e
  · intro _ _ e
    rw [w3] at e
    cases e
  · intro _ _ _ e5 e
    rcases w4 with y | y
    · exact absurd y e5
    · rw [y] at e
      cases e
  · intro _ _ _ _ e
    rw [w5] at e
    cases e
  · intro _ _ _ _ _ st H' e1 e2 e3
    exact k _ (fun b o e => e1 b o (S b o e) (ne_of_none e nx)) ⟨dx, st, _, e2, e3⟩
end
abbrev psLe : List Str := ["self", "person", "subject", "tags", "days", "times"]
abbrev psDu : List Str := ["_law_who", "_law_goal", "_law_tags_here", "_law_span_here", "_law_often"]
/-- what the law needs of the program -/
structure Lw (w : World) (K : PySem.W.Frag) (mg : Str → Option Value) (base : Heap) (C CW CJ CS CT CSt CN fI fT fU fE Tb c0 : Addr) (dI dT dU dE : FuncData) (pP yP pD yD pS yS pG yG pM yM : Addr) (dP dD dS dG dM : FuncData) : Prop where
  GI : FnOk PySem.Challenge.pw_namechains_k02_leaves_made_and_refused w K mg base (L2.CX PySem.Challenge.pw_namechains_k02_leaves_made_and_refused w) 6 fI dI psLe (spLea K C CW CJ CS CT)
  MK : Mk K C fI
  mN : mg "Leave" = some (.ref C)
  bI : Binds K dI psLe []
  kI : KBn K dI psLe 1 ["times", "days", "tags", "subject", "person"] (fun us ws => us ++ ws.reverse) (fun us ws => us ++ ws.reverse)
  FT : Fun K "_law_told" "_law_told" sTold fT dT
  mT : mg "_law_told" = some (.ref fT)
  bT : Binds K dT ["_law_call"] []
  TB : LamX.TabB base mg c0 Tb
  gW : mg "InvalidWord" = some (.ref CW)
  gJ : mg "InvalidSubject" = some (.ref CJ)
  gS : mg "InvalidStretch" = some (.ref CS)
  gT : mg "InvalidTimes" = some (.ref CT)
  cW : CaughtC K CW
  cJ : CaughtC K CJ
  cS : CaughtC K CS
  cT : CaughtC K CT
  xWW : PySem.W.exmOne K (.ref CW) (.ref CW) = some true
  xJW : PySem.W.exmOne K (.ref CJ) (.ref CW) = some false
  xJJ : PySem.W.exmOne K (.ref CJ) (.ref CJ) = some true
  xSW : PySem.W.exmOne K (.ref CS) (.ref CW) = some false
  xSJ : PySem.W.exmOne K (.ref CS) (.ref CJ) = some false
  xSS : PySem.W.exmOne K (.ref CS) (.ref CS) = some true
  xTW : PySem.W.exmOne K (.ref CT) (.ref CW) = some false
  xTJ : PySem.W.exmOne K (.ref CT) (.ref CJ) = some false
  xTS : PySem.W.exmOne K (.ref CT) (.ref CS) = some false
  xTT : PySem.W.exmOne K (.ref CT) (.ref CT) = some true
  GU : FnOkG PySem.Challenge.pw_namechains_k02_leaves_made_and_refused w K mg base CX0 4 fU dU psDu (spDue K)
  mU : mg "_law_due" = some (.ref fU)
  kU : PySem.W.keepIn K (.ref fU) = true
  bU : Binds K dU psDu []
  nc : LeaC K C
  ik : InsK K C
  rP : Pr PySem.Challenge.pw_namechains_k02_leaves_made_and_refused w K mg base C "person" "_person" pP yP dP
  rD : Pr PySem.Challenge.pw_namechains_k02_leaves_made_and_refused w K mg base C "days" "_days" pD yD dD
  rS : Pr PySem.Challenge.pw_namechains_k02_leaves_made_and_refused w K mg base C "subject" "_subject" pS yS dS
  rG : Pr PySem.Challenge.pw_namechains_k02_leaves_made_and_refused w K mg base C "tags" "_tags" pG yG dG
  rM : Pr PySem.Challenge.pw_namechains_k02_leaves_made_and_refused w K mg base C "times" "_times" pM yM dM
  GE : FnOk PySem.Challenge.pw_namechains_k02_leaves_made_and_refused w K mg base CX0 3 fE dE ["self", "other"] (spEqL K C)
  eC : EqC K C fE
  bE : Binds K dE ["self", "other"] []
  mSt : mg "Statement" = some (.ref CSt)
  kSt : PySem.W.kitOne K (.ref C) (.ref CSt) = some true
  mL : mg "Naming" = some (.ref CN)
  kL : PySem.W.kitOne K (.ref C) (.ref CN) = some false
  kT : PySem.W.kitOne K (.type "tuple") (.ref C) = some false
  n1 : PySem.W.notFirst K C (.ref C) = true
  n2 : PySem.W.notFirst K C (.type "tuple") = true
  re : mg "repr" = none
  is : mg "isinstance" = none
  ve : mg "ValueError" = none
  kN : PySem.W.keepIn K (.ref fT) = true
end LW

/-! The law's turn, its second part: what is told. -/
namespace LW
open PySem L2 G
theorem scTold : FnScope ["_law_call", "e"] ["_law_call"] (defScope sTold) := ⟨rfl, rfl, rfl, by decide +kernel, rfl, by decide +kernel, by decide +kernel⟩
section
variable {K : PySem.W.Frag} {C : Addr} {H H' : Hp} {v v1 v2 v3 v4 v5 : V} {d1 d2 d3 d4 d5 : PyData}
theorem StAt.ext (e : LamX.ExtN H H') {st : V} {d : PyData} (h : StAt K H v st d) : StAt K H' v st d := by
  rcases h with z | ⟨z1, z2⟩
  · exact .inl z
  · exact .inr ⟨z1, ext_da e z2⟩
theorem TellAt.ext (e : LamX.ExtN H H') (h : TellAt K C H v v1 v2 v3 v4 v5 d1 d2 d3 d4 d5) : TellAt K C H' v v1 v2 v3 v4 v5 d1 d2 d3 d4 d5 := by
  rcases h with ⟨kd, d, q, a, b, c⟩ | ⟨a, x, dx, st, t, b, c, z⟩
  · exact .inl ⟨kd, d, q, a, b, e _ _ c (fun _ z => by cases z)⟩
  · exact .inr ⟨a, x, dx, st, t, b, e _ _ c (fun _ z => by cases z), z.ext e⟩
theorem rowE_dp {q : Addr} {kd : Str} {d : PyData} (h : H q = some (.tup (rowE kd d))) : Dp K H (.ref q) (.tuple [.str kd, .str d.shown, .bool true]) := .tup (SqT.of h) (.cons (.str _) (.cons (.str _) (.cons (.bl true) .nil)))
end
/-- what stands behind the second part -/
def Told (K : PySem.W.Frag) (C : Addr) (H : Hp) (vU vT vA v1 v2 v3 v4 v5 : V) (d1 d2 d3 d4 d5 : PyData) : Prop :=
  (vU = .non ∧ dueO d1 d2 d3 d4 d5 = none ∧ TellAt K C H vT v1 v2 v3 v4 v5 d1 d2 d3 d4 d5 ∧ TellAt K C H vA v1 v2 v3 v4 v5 d1 d2 d3 d4 d5) ∨ ∃ q, vU = .ref q
theorem due_good {d1 d2 d3 d4 d5 d : PyData} {kd : Str} (h : dueO d1 d2 d3 d4 d5 = some (kd, d)) (g1 : Good d1) (g2 : Good d2) (g3 : Good d3) (g4 : Good d4) (g5 : Good d5) : Good d ∧ PyData.strOk kd = true := by
  unfold dueO at h
  split at h
  · cases h
    exact ⟨g1, by decide +kernel⟩
  split at h
  · cases h
    exact ⟨g2, by decide +kernel⟩
  split at h
  · cases h
    exact ⟨g3, by decide +kernel⟩
  split at h
  · cases h
    exact ⟨g4, by decide +kernel⟩
  split at h
  · cases h
  · cases h
    exact ⟨g5, by decide +kernel⟩
theorem shaped_row {kd x : Str} (h : PyData.strOk kd = true) (g : PyData.strOk x = true) : SeqAt.shaped (.list [.tuple [.str kd, .str x, .bool true], .tuple [.str kd, .str x, .bool true]]) = true := by
  simp [SeqAt.shaped, PyData.canLay0, PyData.canLayAll0, PyData.depth, PyData.depthAll, h, g]
theorem eqv_row {kd x : Str} : PyData.eqv (.list [.tuple [.str kd, .str x, .bool true], .tuple [.str kd, .str x, .bool true]]) (.list [.tuple [.str kd, .str x, .bool true], .tuple [.str kd, .str x, .bool true]]) = true := by
  simp [PyData.eqv, PyData.eqvAll]
end LW

/-! The law's turn, its second part: what is told. -/
namespace LW
open PySem L2 G
section
variable {w : World} {K : PySem.W.Frag} {mg : Str → Option Value} {base : Heap} {f c0 : Addr} {A : Around} {outer : List Env} {s : Shared} {HS : Hp} {E : XK}
variable {C CW CJ CS CT CSt CN fI fT fU fE Tb : Addr} {dI dT dU dE : FuncData} {pP yP pD yD pS yS pG yG pM yM : Addr} {dP dD dS dG dM : FuncData}
theorem partB (q : Str) (hq : (XL w K mg base f c0 A outer s HS E).env.qual ++ Str.ofString "<lambda>" = q) (L : Lw w K mg base C CW CJ CS CT CSt CN fI fT fU fE Tb c0 dI dT dU dE pP yP pD yD pS yS pG yG pM yM dP dD dS dG dM) (hg : (XL w K mg base f c0 A outer s HS E).A.guards = some []) (hr : Room 9 (XL w K mg base f c0 A outer s HS E).A) :
    ∃ tB : TS → TS, (∀ (rest : List Stmt) (t : TS), PSs (XL w K mg base f c0 A outer s HS E) rest t → PSs (XL w K mg base f c0 A outer s HS E) (fb 7 :: fb 8 :: fb 9 :: fb 10 :: rest) (tB t)) ∧
      ∀ (t : TS) (D : Ends) (H : Hp) (v1 v2 v3 v4 v5 : V) (d1 d2 d3 d4 d5 : PyData) (u0 u1 u2 u3 u4 u5 u6 u7 u8 u9 u10 u11 : Option V), LamX.Tabs [(Tb, q)] H → Da K H v1 d1 → Da K H v2 d2 → Da K H v3 d3 → Da K H v4 d4 → Da K H v5 d5 → Good d1 → Good d2 → Good d3 → Good d4 → Good d5 →
        (∀ (H' : Hp) (x8 vU vT vA : V), LamX.ExtN H H' → LamX.Tabs [(Tb, q)] H' → Told K C H' vU vT vA v1 v2 v3 v4 v5 d1 d2 d3 d4 d5 → t D [u0, u1, u2, u3, u4, some x8, some vU, some vT, some vA, u9, u10, u11, some v2, some v5, some v3, some v4, some v1] H') →
        tB t D [u0, u1, u2, u3, u4, u5, u6, u7, u8, u9, u10, u11, some v2, some v5, some v3, some v4, some v1] H := by
  have nd := scLaw.nd
  have hu := hr.units
  subst hq
  have hu2 := hr.un
  obtain ⟨oc, od, kV, doc, pm, an, cdv, ct, osl, rfl, lk, hcd⟩ := L.FT.ex
  have GT : LamX.GivesTo (XL w K mg base f c0 A outer s HS E) ["_law_call", "e"] "_law_told" (defScope sTold) fT cdv (defBody sTold) "_law_call" ((XL w K mg base f c0 A outer s HS E).env.qual ++ Str.ofString "<lambda>") (TTold K (kinds CW CJ CS CT)) :=
    told_gives hg (by omega) L.re L.is L.ve L.gW L.gJ L.gS L.gT L.cW L.cJ L.cS L.cT L.xWW L.xJW L.xJJ L.xSW L.xSJ L.xSS L.xTW L.xTJ L.xTS L.xTT
  refine ⟨_, fun rest t ht => pss_cons (ps_par (i := 5) (j := 6) (by rfl) nd rfl rfl (by decide) rfl rfl (pa_cons (pe_callB (call_repr hg hu) (by rfl) L.re (by decide +kernel) (pa_cons (pe_lstS (pa_cons (pv 16) (pa_cons (pv 12) (pa_cons (pv 14) (pa_cons (pv 15) (pa_cons (pv 13) pa_nil)))))) pa_nil))
        (pa_cons (pe_callG L.GU hg (hr.mono (by decide)) (by rfl) L.mU L.kU L.bU .nil pass0 (pa_cons (pv 16) (pa_cons (pv 12) (pa_cons (pv 14) (pa_cons (pv 15) (pa_cons (pv 13) pa_nil)))))) pa_nil)) (by rfl))
      (pss_cons (ps_set (i := 7) nd rfl (Or.inl rfl) (LamX.pe_lamcall (T := [(Tb, (XL w K mg base f c0 A outer s HS E).env.qual ++ Str.ofString "<lambda>")]) (TT := TTold K (kinds CW CJ CS CT)) (a := "_law_call") (k := 7) (Ng := ["_law_call", "e"]) (t := fun E => tMake C (spLea K C CW CJ CS CT) [] E (tCons (tVar 16) (tCons (tVar 12) (tCons (tVar 14) (tCons (tVar 15) (tCons (tVar 13) tNil))))))
          (by rfl) L.mT L.kN lk hcd L.bT scTold rfl (.inl rfl) GT L.TB rfl List.mem_cons_self (fun p hp e => by rw [List.mem_singleton.mp hp]) hr (LamX.lamS_by (by show LamX.lamSB (defScope sLaw) _ = true; decide +kernel)) rfl (fun _ _ _ _ _ => rfl)
          (fun A outer s H E f c' hr2 => pe_make L.MK L.GI hr2 (by rfl) L.mN L.bI .nil (passes_call (takes_of rfl rfl rfl rfl) fun _ _ _ _ h => h) (pa_cons (pv 16) (pa_cons (pv 12) (pa_cons (pv 14) (pa_cons (pv 15) (pa_cons (pv 13) pa_nil))))))))
      (pss_cons (ps_set (i := 8) nd rfl (Or.inl rfl) (LamX.pe_lamcall (T := [(Tb, (XL w K mg base f c0 A outer s HS E).env.qual ++ Str.ofString "<lambda>")]) (TT := TTold K (kinds CW CJ CS CT)) (a := "_law_call") (k := 7) (Ng := ["_law_call", "e"]) (t := fun E => tMakeK C 0 5 (spLea K C CW CJ CS CT) (fun us ws => us ++ ws.reverse) E tNil (tCons (tVar 13) (tCons (tVar 15) (tCons (tVar 14) (tCons (tVar 12) (tCons (tVar 16) tNil))))))
          (by rfl) L.mT L.kN lk hcd L.bT scTold rfl (.inl rfl) GT L.TB rfl List.mem_cons_self (fun p hp e => by rw [List.mem_singleton.mp hp]) hr (LamX.lamS_by (by show LamX.lamSB (defScope sLaw) _ = true; decide +kernel)) rfl (fun _ _ _ _ _ => rfl)
          (fun A outer s H E f c' hr2 => pe_makeK0 (ks := ["times", "days", "tags", "subject", "person"]) L.MK L.GI hr2 (by rfl) L.mN L.kI (passes_call (takes_of rfl rfl rfl rfl) fun _ _ _ _ h => h) (pk_cons (pv 13) (pk_cons (pv 15) (pk_cons (pv 14) (pk_cons (pv 12) (pk_cons (pv 16) pk_nil))))))))
      (pss_cons (ps_if (PW.pt (pw_or (pt_cmpR op_ne (pe_callB (call_repr hg hu) (by rfl) L.re (by decide +kernel) (pa_cons (pe_lstS (pa_cons (pv 16) (pa_cons (pv 12) (pa_cons (pv 14) (pa_cons (pv 15) (pa_cons (pv 13) pa_nil)))))) pa_nil)) (pv 5) (nomark _))
          (pw_or1 (PW.pt (pw_and (pt_cmpR op_notN (pv 6) pe_non (nomark _)) (pw_and1 (pt_cmpR (op_neD hu) (pe_lst (pa_cons (pv 7) (pa_cons (pv 8) pa_nil))) (pe_lst (pa_cons (pv 6) (pa_cons (pv 6) pa_nil))) (nomark _)))))))) (pss_one (ps_ret pe_bl)) pss_nil) ht))), ?_⟩
  intro t D H v1 v2 v3 v4 v5 d1 d2 d3 d4 d5 u0 u1 u2 u3 u4 u5 u6 u7 u8 u9 u10 u11 tab a1 a2 a3 a4 a5 g1 g2 g3 g4 g5 k
  have fits : ∀ d ∈ [d1, d2, d3, d4, d5], Fit d := fun d hd => by
    simp only [List.mem_cons, List.not_mem_nil, or_false] at hd
    rcases hd with rfl | rfl | rfl | rfl | rfl
    · exact g1.fit
    · exact g2.fit
    · exact g3.fit
    · exact g4.fit
    · exact g5.fit
  -- what is kept, what is due
  refine ⟨_, rfl, _, rfl, _, rfl, _, rfl, _, rfl, by show 5 ≤ sizeLine; decide, fun l1 hl1 nl1 => ?_⟩
  have S1 := same_new (o := .lst [v1, v2, v3, v4, v5]) hl1
  dsimp only
  unfold tNil
  dsimp only
  refine fiveL (K := K) nl1 upd_same (.cons (a1.same S1) (.cons (a2.same S1) (.cons (a3.same S1) (.cons (a4.same S1) (.cons (a5.same S1) .nil))))) (Nat.le_refl 5) fits ?_
  refine ⟨_, rfl, _, rfl, _, rfl, _, rfl, _, rfl, v1, v2, v3, v4, v5, d1, d2, d3, d4, d5, rfl, a1.same S1, a2.same S1, a3.same S1, a4.same S1, a5.same S1, okAll_str g1.ok, okAll_sub g2.ok, g1.fit, g2.fit, g3.fit, g4.fit, g5.fit, fun vU H2 S2 hU => ?_⟩
  refine ⟨_, _, rfl, ?_⟩
  have S12 := S1.trans S2
  have tab2 := tabs_same S12 tab
  have b1 := a1.same S12
  have b2 := a2.same S12
  have b3 := a3.same S12
  have b4 := a4.same S12
  have b5 := a5.same S12
  have X2 := same_ext S12
  revert hU tab2 b1 b2 b3 b4 b5 X2
  clear S12 S2 S1
  intro hU tab2 b1 b2 b3 b4 b5 X2
  -- the first call
  refine ⟨tab2, fun H3 e3 tab3 => ⟨_, rfl, _, rfl, _, rfl, _, rfl, _, rfl, fun x dx nx ndx ne => lea_tell (ext_da e3 b1) (ext_da e3 b2) (ext_da e3 b3) (ext_da e3 b4) (ext_da e3 b5) g1 g2 g3 g4 g5 (fun vT H4 S4 hT => ?_) nx ndx ne⟩⟩
  have X4 := X2.trans (e3.trans (same_ext S4))
  have Y4 := e3.trans (same_ext S4)
  have tab4 := tabs_same S4 tab3
  -- the second call
  refine ⟨tab4, fun H5 e5 tab5 => ⟨_, rfl, _, rfl, _, rfl, _, rfl, _, rfl, rfl, rfl, fun x dx nx ndx ne => lea_tell (ext_da e5 (ext_da Y4 b1)) (ext_da e5 (ext_da Y4 b2)) (ext_da e5 (ext_da Y4 b3)) (ext_da e5 (ext_da Y4 b4)) (ext_da e5 (ext_da Y4 b5)) g1 g2 g3 g4 g5 (fun vA H6 S6 hA => ?_) nx ndx ne⟩⟩
  have X6 := X4.trans (e5.trans (same_ext S6))
  have Y6 := Y4.trans (e5.trans (same_ext S6))
  have tab6 := tabs_same S6 tab5
  have hT := hT.ext (e5.trans (same_ext S6))
  have b1 := ext_da Y6 b1
  have b2 := ext_da Y6 b2
  have b3 := ext_da Y6 b3
  have b4 := ext_da Y6 b4
  have b5 := ext_da Y6 b5
  -- they are looked at
  refine ⟨_, rfl, _, rfl, _, rfl, _, rfl, _, rfl, by show 5 ≤ sizeLine; decide, fun l7 hl7 nl7 => ?_⟩
  have S7 := same_new (o := .lst [v1, v2, v3, v4, v5]) hl7
  dsimp only
  refine fiveL (K := K) nl7 upd_same (.cons (b1.same S7) (.cons (b2.same S7) (.cons (b3.same S7) (.cons (b4.same S7) (.cons (b5.same S7) .nil))))) (Nat.le_refl 5) fits ?_
  refine ⟨_, rfl, rfl, _, rfl, ?_⟩
  refine iteNS rfl ?_
  have X7 := X6.trans (same_ext S7)
  have tab7 := tabs_same S7 tab6
  have hT := hT.ext (same_ext S7)
  have hA := hA.ext (same_ext S7)
  have hU7 := same_ext S7
  cases du : dueO d1 d2 d3 d4 d5 with
  | none =>
    rw [du] at hU
    have hU : vU = .non := hU
    subst hU
    refine ⟨_, rfl, rfl, _, rfl, ?_⟩
    refine iteF ?_
    refine iteF ?_
    exact k _ _ _ _ _ X7 tab7 (.inl ⟨rfl, du, hT, hA⟩)
  | some z =>
    obtain ⟨kd, d⟩ := z
    rw [du] at hU
    obtain ⟨q, eU, hq⟩ : ∃ q, vU = .ref q ∧ H2 q = some (.tup (rowE kd d)) := hU
    subst eU
    obtain ⟨gd, ok⟩ := due_good du g1 g2 g3 g4 g5
    have so := okT_iff.mpr gd.so
    rcases hT with ⟨kd1, e1, q1, z1, rfl, h1⟩ | ⟨z1, _⟩
    rotate_left
    · rw [du] at z1
      cases z1
    rcases hA with ⟨kd2, e2, q2, z2, rfl, h2⟩ | ⟨z2, _⟩
    rotate_left
    · rw [du] at z2
      cases z2
    rw [du] at z1 z2
    cases z1
    cases z2
    refine ⟨_, rfl, rfl, _, rfl, ?_⟩
    refine iteT ?_
    refine ⟨_, rfl, _, rfl, by show 2 ≤ sizeLine; decide, fun l8 hl8 => ?_⟩
    have S8 := same_new (o := .lst [V.ref q1, .ref q2]) hl8
    refine ⟨_, rfl, _, rfl, by show 2 ≤ sizeLine; decide, fun l9 hl9 => ?_⟩
    have S9 := same_new (o := .lst [V.ref q, .ref q]) hl9
    have hq9 := S9 _ _ (S8 _ _ ((Y6.trans (same_ext S7)) _ _ hq (fun _ z => by cases z)))
    refine ⟨_, _, .lst (SqL.of (S9 _ _ upd_same)) (.cons (rowE_dp (S9 _ _ (S8 _ _ h1))) (.cons (rowE_dp (S9 _ _ (S8 _ _ h2))) .nil)), .lst (SqL.of upd_same) (.cons (rowE_dp hq9) (.cons (rowE_dp hq9) .nil)), shaped_row ok so, shaped_row ok so, _, rfl, ?_⟩
    rw [eqv_row]
    refine iteF ?_
    exact k _ _ _ _ _ (X7.trans (same_ext (S8.trans S9))) (tabs_same (S8.trans S9) tab7) (.inr ⟨q, rfl⟩)
end
end LW

/-! The law's turn, its third part: a Leave that was made is looked at. -/
namespace LW
open PySem L2 G
def ifBody : Stmt → List Stmt
  | .If _ b _ _ => b
  | _ => []
abbrev inn (i : Nat) : Stmt := nth (ifBody (fb 11)) i
def lo : PyData → Int
  | .tuple [.int i, .int _] => i
  | _ => 0
def hi : PyData → Int
  | .tuple [.int _, .int j] => j
  | _ => 10 ^ 30
section
variable {K : PySem.W.Frag} {C : Addr} {H H' : Hp} {v v4 st : V} {d4 : PyData}
theorem stat_at (w4 : d4 = .none ∨ isStretchD d4 = true) (a4 : Da K H v4 d4) (h : StAt K H v4 st d4) : ∃ q, st = .ref q ∧ SqT K H q [.int (lo d4), .int (hi d4)] := by
  rcases h with ⟨z1, rfl⟩ | ⟨rfl, z2⟩
  · rcases w4 with z | z
    · exact absurd z z1
    · obtain ⟨i, j, rfl, _⟩ := stretch_inv z
      exact da_pair a4
  · exact da_pair z2
theorem lohi_st (w4 : d4 = .none ∨ isStretchD d4 = true) : isStretchD (.tuple [.int (lo d4), .int (hi d4)]) = true := by
  rcases w4 with rfl | z
  · decide +kernel
  · obtain ⟨i, j, rfl, _⟩ := stretch_inv z
    exact z
theorem LeaAt.same {a : Addr} {p : Str} {dj : PyData} {g h i j : Int} {t : Option Int} (N : LeaAt K H C a p dj g h i j t) (S : Same H H') : LeaAt K H' C a p dj g h i j t := by
  obtain ⟨dx, q, ag, vj, tx, e1, e2, e3, e4⟩ := N
  exact ⟨dx, q, ag, vj, tx, S _ _ e1, e2.same S, sqT_same S e3, sqT_same S e4⟩
theorem LeaAt.ty {a : Addr} {p : Str} {dj : PyData} {g h i j : Int} {t : Option Int} (N : LeaAt K H C a p dj g h i j t) (c : LeaC K C) (k : InsK K C) : TyX K H (.ref a) (.ref C) := by
  obtain ⟨dx, q, ag, vj, tx, e1, _⟩ := N
  exact .base (.ins e1 c.cl k.ha k.hn k.ht k.hm)
theorem LeaAt.ins {a : Addr} {p : Str} {dj : PyData} {g h i j : Int} {t : Option Int} (N : LeaAt K H C a p dj g h i j t) : ∃ dx fs, H a = some (.ins C dx fs) := by
  obtain ⟨dx, q, ag, vj, tx, e1, _⟩ := N
  exact ⟨dx, _, e1⟩
theorem lea_at {x dx ag : Addr} {tx p : Str} {vj : V} {dj : PyData} {g h : Int} {t : Option Int} (w4 : d4 = .none ∨ isStretchD d4 = true) (a4 : Da K H v4 d4) (e : StAt K H v4 st d4) (hx : H x = some (.ins C dx (g6 (.str p) st (.str tx) vj (.ref ag) (timesV t)))) (hj : Da K H vj dj) (hg : SqT K H ag [.int g, .int h]) :
    LeaAt K H C x p dj g h (lo d4) (hi d4) t := by
  obtain ⟨q, rfl, hq⟩ := stat_at w4 a4 e
  exact ⟨dx, q, ag, vj, tx, hx, hj, hg, hq⟩
theorem eqvL_self {p : Str} {dj : PyData} {g h i j : Int} {t t2 : Option Int} (sj : subjD dj = true) : eqvL p p dj dj g h g h i j i j t t2 = decide (t = t2) := by
  unfold eqvL
  rw [SeqAt.eqv_refl dj (subj_lay sj).1]
  simp
theorem pair_da {q : Addr} {i j : Int} (h : SqT K H q [.int i, .int j]) : Da K H (.ref q) (.tuple [.int i, .int j]) := .tup h (.cons (.int i) (.cons (.int j) .nil))
end
section
variable {w : World} {K : PySem.W.Frag} {mg : Str → Option Value} {base : Heap} {f c0 : Addr} {A : Around} {outer : List Env} {s : Shared} {HS : Hp} {E : XK}
variable {C CW CJ CS CT CSt CN fI fT fU fE Tb : Addr} {dI dT dU dE : FuncData} {pP yP pD yD pS yS pG yG pM yM : Addr} {dP dD dS dG dM : FuncData}
theorem partC (L : Lw w K mg base C CW CJ CS CT CSt CN fI fT fU fE Tb c0 dI dT dU dE pP yP pD yD pS yS pG yG pM yM dP dD dS dG dM) (hg : (XL w K mg base f c0 A outer s HS E).A.guards = some []) (hr : Room 9 (XL w K mg base f c0 A outer s HS E).A) :
    ∃ tC : TS, PSs (XL w K mg base f c0 A outer s HS E) [fb 11] tC ∧
      ∀ (D : Ends) (H : Hp) (vU vT vA v1 v2 v3 v4 v5 : V) (d1 d2 d3 d4 d5 : PyData) (u0 u1 u2 u3 u4 u5 u9 u10 u11 : Option V), Told K C H vU vT vA v1 v2 v3 v4 v5 d1 d2 d3 d4 d5 → Da K H v1 d1 → Da K H v2 d2 → Da K H v3 d3 → Da K H v4 d4 → Da K H v5 d5 → Good d1 → Good d2 → Good d3 → Good d4 → Good d5 →
        (∀ (H' : Hp) (x9 x10 x11 : Option V), Same H H' → D.nx [u0, u1, u2, u3, u4, u5, some vU, some vT, some vA, x9, x10, x11, some v2, some v5, some v3, some v4, some v1] H') →
        tC D [u0, u1, u2, u3, u4, u5, some vU, some vT, some vA, u9, u10, u11, some v2, some v5, some v3, some v4, some v1] H := by
  have nd := scLaw.nd
  have hu := hr.units
  have hr7 : Room 7 (XL w K mg base f c0 A outer s HS E).A := hr.mono (by decide)
  have hr4 : Room 4 (XL w K mg base f c0 A outer s HS E).A := hr.mono (by decide)
  have hr3 : Room 3 (XL w K mg base f c0 A outer s HS E).A := hr.mono (by decide)
  have hr2 : Room 2 (XL w K mg base f c0 A outer s HS E).A := hr.mono (by decide)
  have passL : Passes (L2.CX PySem.Challenge.pw_namechains_k02_leaves_made_and_refused w) (XL w K mg base f c0 A outer s HS E) E0 := passes_call LamX.takes0 fun _ _ _ _ h => h
  refine ⟨_, pss_one (ps_if (pt_cmpR op_isN (pv 6) pe_non (nomark _))
      (pss_cons (ps_set (i := 9) nd rfl (Or.inl rfl) (pe_ifExp (pt_cmpR op_isN (pv 15) pe_non (nomark _)) (pe_tup (pa_cons pe_int (pa_cons (pe_op op_pow pe_int pe_int) pa_nil))) (pv 15)))
      (pss_cons (ps_set (i := 10) nd rfl (Or.inl rfl) (pe_tup (pa_cons (pe_prop (pv 7) L.nc.cl L.rP.of L.rP.ok hr2 L.rP.b .nil pass0 rfl) (pa_cons (pe_prop (pv 7) L.nc.cl L.rS.of L.rS.ok hr2 L.rS.b .nil pass0 rfl)
          (pa_cons (pe_prop (pv 7) L.nc.cl L.rG.of L.rG.ok hr2 L.rG.b .nil pass0 rfl) (pa_cons (pe_prop (pv 7) L.nc.cl L.rD.of L.rD.ok hr2 L.rD.b .nil pass0 rfl) (pa_cons (pe_prop (pv 7) L.nc.cl L.rM.of L.rM.ok hr2 L.rM.b .nil pass0 rfl) pa_nil)))))))
      (pss_cons (ps_if (PW.pt (pw_or (pt_cmpR op_ne (pe_callB (call_repr hg hu) (by rfl) L.re (by decide +kernel) (pa_cons (pv 10) pa_nil)) (pe_callB (call_repr hg hu) (by rfl) L.re (by decide +kernel) (pa_cons (pe_tup (pa_cons (pv 16) (pa_cons (pv 12) (pa_cons (pv 14) (pa_cons (pv 9) (pa_cons (pv 13) pa_nil)))))) pa_nil)) (nomark _))
        (pw_or1 (pt_not (pt_val (pe_callB call_isi (by rfl) L.is (by decide +kernel) (pa_cons (pv 7) (pa_cons (pe_glob (v := .ref CSt) (by rfl) L.mSt rfl) pa_nil)))))))) (pss_one (ps_ret pe_bl)) pss_nil)
      (pss_cons (ps_set (i := 11) nd rfl (Or.inl rfl) (pe_ifExp (pt_cmpR op_isN (pv 13) pe_non (nomark _)) pe_int pe_non))
      (pss_cons (ps_if (PW.pt (pw_or (pt_cmpR (op_neO L.GE L.eC L.bE hr4) (pv 7) (pv 8) (nomark _))
        (pw_or1 (pt_cmpR (op_eqO L.GE L.eC L.bE hr3) (pv 7) (pe_make L.MK L.GI hr7 (by rfl) L.mN L.bI .nil passL (pa_cons (pv 16) (pa_cons (pv 12) (pa_cons (pv 14) (pa_cons (pv 9) (pa_cons (pv 11) pa_nil)))))) (nomark _))))) (pss_one (ps_ret pe_bl)) pss_nil)
      (pss_one (ps_if (PW.pt (pw_or (pt_val (pe_callB call_isi (by rfl) L.is (by decide +kernel) (pa_cons (pv 7) (pa_cons (pe_glob (v := .ref CN) (by rfl) L.mL rfl) pa_nil))))
        (pw_or (pt_cmpR (op_neO L.GE L.eC L.bE hr4) (pv 7) (pe_make L.MK L.GI hr7 (by rfl) L.mN L.bI .nil passL (pa_cons (pv 16) (pa_cons (pv 12) (pa_cons (pv 14) (pa_cons (pv 9) (pa_cons (pv 13) pa_nil)))))) (nomark _))
        (pw_or1 (pt_cmpR (op_eqO L.GE L.eC L.bE hr3) (pv 7) (pv 10) (nomark _)))))) (pss_one (ps_ret pe_bl)) pss_nil))))))) pss_nil), ?_⟩
  intro D H vU vT vA v1 v2 v3 v4 v5 d1 d2 d3 d4 d5 u0 u1 u2 u3 u4 u5 u9 u10 u11 told a1 a2 a3 a4 a5 g1 g2 g3 g4 g5 k
  rcases told with ⟨rfl, z, hT, hA⟩ | ⟨q, rfl⟩
  rotate_left
  · refine ⟨_, rfl, rfl, _, rfl, ?_⟩
    refine iteF ?_
    exact k _ _ _ _ (Same.refl H)
  refine ⟨_, rfl, rfl, _, rfl, ?_⟩
  refine iteT ?_
  obtain ⟨w1, w2, w3, w4, w5⟩ := none_due z
  obtain ⟨p, rfl, _⟩ := word_inv w1
  cases a1
  obtain ⟨g, h, rfl, _⟩ := stretch_inv w3
  obtain ⟨ag, rfl, hag⟩ := da_pair a3
  obtain ⟨e5, _⟩ := times_inv w5 a5
  subst e5
  rcases hT with ⟨kd, d, q, z1, _⟩ | ⟨_, x1, dx1, st1, t1, rfl, h1, s1⟩
  · rw [z] at z1
    cases z1
  rcases hA with ⟨kd, d, q, z1, _⟩ | ⟨_, x2, dx2, st2, t2, rfl, h2, s2⟩
  · rw [z] at z1
    cases z1
  have N1 := lea_at w4 a4 s1 h1 a2 hag
  have N2 := lea_at w4 a4 s2 h2 a2 hag
  have fw : Fit (.tuple [.int (lo d4), .int (hi d4)]) := by
    rcases w4 with rfl | y
    · exact (span_good (i := 0) (j := 10 ^ 30) (by decide +kernel) (by decide +kernel)).fit
    · obtain ⟨i, j, rfl, _⟩ := stretch_inv y
      exact g4.fit
  have fits : ∀ d ∈ [PyData.str p, d2, .tuple [.int g, .int h], .tuple [.int (lo d4), .int (hi d4)], d5], Fit d := fun d hd => by
    simp only [List.mem_cons, List.not_mem_nil, or_false] at hd
    rcases hd with rfl | rfl | rfl | rfl | rfl
    · exact g1.fit
    · exact g2.fit
    · exact g3.fit
    · exact fw
    · exact g5.fit
  -- the whole
  refine seq_case (fun x H1 => Same H H1 ∧ Da K H1 x (.tuple [.int (lo d4), .int (hi d4)])) (fun R hR => ?_) (fun vw H1 hC => ?_)
  · refine ⟨_, rfl, rfl, _, rfl, ?_⟩
    by_cases nn : v4 = .non
    · subst nn
      have e4 : d4 = .none := by
        cases a4
        rfl
      subst e4
      rw [decide_eq_true rfl]
      refine iteT ?_
      have pw : (0 : Int) ≤ 30 ∧ (30 : Int) ≤ 1000000 ∧ (10 : Int).natAbs < 2 ^ 64 := ⟨by decide, by decide, by decide⟩
      refine ⟨_, _, rfl, rfl, pw, by show 2 ≤ sizeLine; decide, fun b2 hb2 => ?_⟩
      exact hR _ _ ⟨same_new hb2, .tup (SqT.of upd_same) (.cons (.int _) (.cons (.int _) .nil))⟩
    · rw [decide_eq_false nn]
      refine iteF ⟨_, rfl, ?_⟩
      have w6 : isStretchD d4 = true := by
        rcases w4 with rfl | y
        · cases a4
          exact absurd rfl nn
        · exact y
      obtain ⟨i, j, rfl, _⟩ := stretch_inv w6
      exact hR _ _ ⟨Same.refl H, a4⟩
  obtain ⟨S1, aw⟩ := hC
  have N1 := N1.same S1
  have N2 := N2.same S1
  have a2 := a2.same S1
  have a4 := a4.same S1
  have a5 := a5.same S1
  have hag := sqT_same S1 hag
  clear h1 h2 s1 s2
  -- what is shown
  obtain ⟨dx1, q1, ag1, vj1, tx1, e1, e2, e3, e4⟩ := id N1
  refine ⟨_, rfl, x1, dx1, _, rfl, e1, x1, dx1, _, _, rfl, e1, ll1, _, rfl, x1, dx1, _, rfl, e1, x1, dx1, _, _, rfl, e1, ll4, _, rfl, x1, dx1, _, rfl, e1, x1, dx1, _, _, rfl, e1, ll5, _, rfl, x1, dx1, _, rfl, e1, x1, dx1, _, _, rfl, e1, ll2, _, rfl, x1, dx1, _, rfl, e1, x1, dx1, _, _, rfl, e1, ll6, by show 5 ≤ sizeLine; decide, fun sh hsh => ?_⟩
  have S2 := same_new (o := .tup [V.str p, vj1, .ref ag1, .ref q1, timesV (timesO d5)]) hsh
  have gsh : (upd H1 sh (.tup [V.str p, vj1, .ref ag1, .ref q1, timesV (timesO d5)])) sh = some (.tup [V.str p, vj1, .ref ag1, .ref q1, timesV (timesO d5)]) := upd_same
  have N1 := N1.same S2
  have N2 := N2.same S2
  have a2 := a2.same S2
  have a4 := a4.same S2
  have a5 := a5.same S2
  have aw := aw.same S2
  have e1 := S2 _ _ e1
  have e2 := e2.same S2
  have e3 := sqT_same S2 e3
  have e4 := sqT_same S2 e4
  have hag := sqT_same S2 hag
  have S12 := S1.trans S2
  revert gsh N1 N2 a2 a4 a5 aw e1 e2 e3 e4 hag S12
  generalize upd H1 sh (.tup [V.str p, vj1, .ref ag1, .ref q1, timesV (timesO d5)]) = H2
  intro gsh N1 N2 a2 a4 a5 aw e1 e2 e3 e4 hag S12
  refine ⟨_, rfl, ?_⟩
  dsimp only
  unfold tNil
  dsimp only
  refine fiveT (K := K) (SqT.of gsh) (.cons (.str p) (.cons e2 (.cons (pair_da e3) (.cons (pair_da e4) (.cons a5 .nil))))) (Nat.le_refl 5) fits ?_
  refine ⟨_, rfl, _, rfl, _, rfl, _, rfl, _, rfl, by show 5 ≤ sizeLine; decide, fun b1 hb1 => ?_⟩
  have S3 := same_new (o := .tup [V.str p, v2, .ref ag, vw, timesV (timesO d5)]) hb1
  dsimp only
  refine fiveT (K := K) (SqT.of upd_same) (.cons (.str p) (.cons (a2.same S3) (.cons (pair_da (sqT_same S3 hag)) (.cons (aw.same S3) (.cons (a5.same S3) .nil))))) (Nat.le_refl 5) fits ?_
  generalize (PyData.tuple [PyData.str p, d2, .tuple [.int g, .int h], PyData.tuple [PyData.int (lo d4), PyData.int (hi d4)], d5]).shown = Z
  refine ⟨rfl, _, rfl, ?_⟩
  refine iteNS rfl ?_
  have N1 := N1.same S3
  have N2 := N2.same S3
  have a2 := a2.same S3
  have a4 := a4.same S3
  have a5 := a5.same S3
  have aw := aw.same S3
  have e1 := S3 _ _ e1
  have gsh := S3 _ _ gsh
  have hag := sqT_same S3 hag
  have S13 := S12.trans S3
  clear e2 e3 e4
  revert N1 N2 a2 a4 a5 aw e1 gsh hag S13
  generalize upd H2 b1 (.tup [V.str p, v2, .ref ag, vw, timesV (timesO d5)]) = H3
  intro N1 N2 a2 a4 a5 aw e1 gsh hag S13
  refine ⟨_, rfl, .ref x1, .ref CSt, _, _, true, rfl, .own CSt, N1.ty L.nc L.ik, L.kSt, _, rfl, ?_⟩
  refine iteF ?_
  -- other times
  unfold tNext
  dsimp only
  refine seq_case (fun x G => G = H3 ∧ ∃ tf : Option Int, x = timesV tf ∧ timesO d5 ≠ tf ∧ ∃ df, Da K H3 x df ∧ isTimesD df = true ∧ timesO df = tf) (fun R hR => ?_) (fun vf G hC => ?_)
  · refine ⟨_, rfl, rfl, _, rfl, ?_⟩
    cases et : timesO d5 with
    | none => exact iteT (hR _ _ ⟨rfl, some 3, rfl, by rw [et]; simp, .int 3, .int 3, by decide +kernel, rfl⟩)
    | some y => exact iteF (hR _ _ ⟨rfl, none, rfl, by rw [et]; simp, .none, .non, rfl, rfl⟩)
  obtain ⟨rfl, tf, rfl, ntf, df, af, wf, etf⟩ := hC
  have ok1 := okAll_str g1.ok
  have ok2 := okAll_sub g2.ok
  have zw := due_none w1 w2 w3 (.inr (lohi_st w4)) w5
  have zf := due_none w1 w2 w3 (.inr (lohi_st w4)) wf
  refine ⟨_, rfl, _, rfl, x1, dx1, _, .ref C, rfl, e1, N2.ty L.nc L.ik, L.n1, x1, .ref x2, p, d2, g, h, _, _, _, rfl, N1, w2, .inl ⟨x2, p, d2, g, h, _, _, _, rfl, N2, w2, ?_⟩⟩
  refine ⟨_, rfl, _, rfl, ?_⟩
  rw [eqvL_self w2, decide_eq_true rfl]
  refine iteF ?_
  refine ⟨_, rfl, _, rfl, _, rfl, _, rfl, _, rfl, _, rfl, fun x dx nx ndx ne => lea_new (.str p) a2 (pair_da hag) aw af ok1 ok2 zf nx ndx ne fun H4 S4 hx4 => ⟨rfl, ?_⟩⟩
  obtain ⟨dx4, st4, t4, h4, s4⟩ := hx4
  have N4 := lea_at (none_due zf).2.2.2.1 (aw.same S4) s4 h4 (a2.same S4) (sqT_same S4 hag)
  refine ⟨x1, dx1, _, .ref C, rfl, S4 _ _ e1, N4.ty L.nc L.ik, L.n1, x1, .ref x, p, d2, g, h, _, _, _, rfl, N1.same S4, w2, .inl ⟨x, p, d2, g, h, _, _, _, rfl, N4, w2, ?_⟩⟩
  refine ⟨_, rfl, _, rfl, ?_⟩
  rw [show eqvL p p d2 d2 g h g h (lo d4) (hi d4) (lo (.tuple [.int (lo d4), .int (hi d4)])) (hi (.tuple [.int (lo d4), .int (hi d4)])) (timesO d5) tf = decide (timesO d5 = tf) from eqvL_self w2, decide_eq_false ntf]
  refine iteF ?_
  have N1 := N1.same S4
  have a2 := a2.same S4
  have a5 := a5.same S4
  have aw := aw.same S4
  have e1 := S4 _ _ e1
  have gsh := S4 _ _ gsh
  have hag := sqT_same S4 hag
  have S14 := S13.trans S4
  -- no Naming, alike, no tuple
  refine ⟨_, rfl, .ref x1, .ref CN, _, _, false, rfl, .own CN, N1.ty L.nc L.ik, L.kL, _, rfl, ?_⟩
  refine iteF ?_
  refine ⟨_, rfl, _, rfl, _, rfl, _, rfl, _, rfl, _, rfl, fun y dy ny ndy ne => lea_new (.str p) a2 (pair_da hag) aw a5 ok1 ok2 zw ny ndy ne fun H5 S5 hx5 => ⟨rfl, ?_⟩⟩
  obtain ⟨dx5, st5, t5, h5, s5⟩ := hx5
  have N5 := lea_at (none_due zw).2.2.2.1 (aw.same S5) s5 h5 (a2.same S5) (sqT_same S5 hag)
  refine ⟨x1, dx1, _, .ref C, rfl, S5 _ _ e1, N5.ty L.nc L.ik, L.n1, x1, .ref y, p, d2, g, h, _, _, _, rfl, N1.same S5, w2, .inl ⟨y, p, d2, g, h, _, _, _, rfl, N5, w2, ?_⟩⟩
  refine ⟨_, rfl, _, rfl, ?_⟩
  rw [show eqvL p p d2 d2 g h g h (lo d4) (hi d4) (lo (.tuple [.int (lo d4), .int (hi d4)])) (hi (.tuple [.int (lo d4), .int (hi d4)])) (timesO d5) (timesO d5) = decide (timesO d5 = timesO d5) from eqvL_self w2, decide_eq_true rfl]
  refine iteF ?_
  refine ⟨_, rfl, _, rfl, x1, dx1, _, .type "tuple", rfl, S5 _ _ e1, .base (.tup (S5 _ _ gsh)), L.n2, x1, .ref sh, p, d2, g, h, _, _, _, rfl, N1.same S5, w2, .inr ⟨.type "tuple", .base (.tup (S5 _ _ gsh)), L.kT, ?_⟩⟩
  refine ⟨_, rfl, _, rfl, ?_⟩
  refine iteF ?_
  exact k _ _ _ _ (S14.trans S5)
end
end LW

/-! The law. -/
namespace LW
open PySem L2 G
def spLaw (K : PySem.W.Frag) (T : Addr) : Sp := fun vs H Q _ => ∃ (a : Addr) (ns : List Int), vs = [.ref a] ∧ SqL K H a (ns.map V.int) ∧ ns.length ≤ 63 ∧ H T = some (.tbl #[]) ∧ ∀ H', Q (.bl true) H'
section
variable {w : World} {K : PySem.W.Frag} {mg : Str → Option Value} {base : Heap} {f c0 : Addr}
variable {C CW CJ CS CT CSt CN fI fT fU fE Tb : Addr} {dI dT dU dE : FuncData} {pP yP pD yD pS yS pG yG pM yM : Addr} {dP dD dS dG dM : FuncData}
variable {aP aW aJ aB aO aK aS : Addr} {eP eW eJ eB eO eK eS : FuncData}
theorem run_law {oc kV doc pm ct : Value} {od an : Option Addr} {osl : Array (Option Value)} (lk : K.lookup f = some ⟨oc, od, .func (PySem.W.fnOf "law" "law" (defArgs sLaw) (defBody sLaw) (defScope sLaw) .none kV doc pm an (.ref c0) ct), osl⟩) (code : PySem.W.codeIn K (.ref c0) "law" = true)
    (L : Lw w K mg base C CW CJ CS CT CSt CN fI fT fU fE Tb c0 dI dT dU dE pP yP pD yD pS yS pG yG pM yM dP dD dS dG dM) (T : Bt mg) (ra : mg "range" = none) (mi : mg "min" = none)
    (GP : Fx PySem.Challenge.pw_namechains_k02_leaves_made_and_refused w K mg base CX0 1 "_law_pen" aP eP ["_law_script"] (spPen K)) (GW : Fx PySem.Challenge.pw_namechains_k02_leaves_made_and_refused w K mg base CX0 3 "_law_words" aW eW ["_law_pen_here", "_law_many"] spWords) (GJ : Fx PySem.Challenge.pw_namechains_k02_leaves_made_and_refused w K mg base CX0 4 "_law_subject" aJ eJ ["_law_pen_here", "_law_people", "_law_words_here", "_law_top"] (spSubL K))
    (GB : Fx PySem.Challenge.pw_namechains_k02_leaves_made_and_refused w K mg base CX0 4 "_law_bent" aB eB ["_law_pen_here", "_law_goal", "_law_people", "_law_words_here"] (spBent K)) (GO : Fx PySem.Challenge.pw_namechains_k02_leaves_made_and_refused w K mg base CX0 4 "_law_odd" aO eO ["_law_pen_here"] (spOdd K))
    (GK : Fx PySem.Challenge.pw_namechains_k02_leaves_made_and_refused w K mg base CX0 2 "_law_pick" aK eK ["_law_pen_here", "_law_options"] (spPick K)) (GS : Fx PySem.Challenge.pw_namechains_k02_leaves_made_and_refused w K mg base CX0 4 "_law_span" aS eS ["_law_pen_here"] spSpan) :
    FnOkG PySem.Challenge.pw_namechains_k02_leaves_made_and_refused w K mg base CX0 10 f (PySem.W.fnOf "law" "law" (defArgs sLaw) (defBody sLaw) (defScope sLaw) .none kV doc pm an (.ref c0) ct) ["_law_script"] (spLaw K Tb) := by
  have len : ∀ (vs : List V) (H : Hp) (Q : VK) (E : XK), spLaw K Tb vs H Q E → vs.length = (["_law_script"] : List Str).length := fun vs H Q E h => by
    obtain ⟨a, ns, rfl, _⟩ := h
    rfl
  refine ⟨len, fun A outer s H args us vs Q E r g e0 b rv h => LamX.run_ofS lk code scLaw r e0 b rv (len _ _ _ _ h) fun r2 => ?_⟩
  obtain ⟨a, ns, rfl, hS, few, hT, q⟩ := h
  have hr4 : Room 4 (XL w K mg base f c0 A outer s H E).A := r2.mono (by decide)
  have hr1 : Room 1 (XL w K mg base f c0 A outer s H E).A := r2.mono (by decide)
  obtain ⟨tA, pA, rA⟩ := partA (k := 0) (f := f) (c0 := c0) (A := A) (outer := outer) (s := s) (HS := H) (E := E) T hr4 GW GJ GB GO GK GS
  obtain ⟨tB, pB, rB⟩ := partB (f := f) (A := A) (outer := outer) (s := s) (HS := H) (E := E) _ rfl L g r2
  obtain ⟨tC, pC, rC⟩ := partC (f := f) (A := A) (outer := outer) (s := s) (HS := H) (E := E) L g r2
  refine ⟨_, PSs.nox (pss_cons (ps_set (i := 1) scLaw.nd rfl (Or.inl rfl) (pe_call GP.ok hr1 (by rfl) GP.m GP.k GP.b .nil pass0 (pa_cons (pv 0) pa_nil)))
    (pss_cons (ps_for PassesOwn.never rfl (pi_range1 (by rfl) ra (pa_cons (pe_op op_add pe_int (pe_callB (call_min2 rfl) (by rfl) mi (by decide +kernel) (pa_cons pe_int (pa_cons (pe_callB call_len (by rfl) T.len PySem.boot_len (pa_cons (pv 0) pa_nil)) pa_nil)))) pa_nil)) (pg_name (i := 2) scLaw.nd rfl (Or.inl rfl))
      (pA _ _ (pB _ _ pC))) (pss_one (ps_ret pe_bl)))), ?_⟩
  refine ⟨_, rfl, a, ns, rfl, hS, few, fun p c H1 np nc s1 N => ?_⟩
  refine ⟨_, rfl, .ref a, ns.length, rfl, .inl ⟨_, s1.seq hS, (List.length_map ..).symm⟩, 12, (ns.length : Int), rfl, _, _, rfl, rfl, _, rfl, ?_, ?_, ?_⟩
  · show -(2 ^ 62) ≤ (12 : Int) + (if (ns.length : Int) < 12 then (ns.length : Int) else 12)
    split <;> omega
  · show (12 : Int) + (if (ns.length : Int) < 12 then (ns.length : Int) else 12) < 2 ^ 62
    split <;> omega
  have turns : ((12 : Int) + (if (ns.length : Int) < 12 then (ns.length : Int) else 12)).toNat ≤ 24 := by split <;> omega
  revert turns
  show ((12 : Int) + (if (ns.length : Int) < 12 then (ns.length : Int) else 12)).toNat ≤ 24 → _
  generalize ((12 : Int) + (if (ns.length : Int) < 12 then (ns.length : Int) else 12)).toNat = m
  intro turns
  refine for_range (n := m) (fun i σ G => ∃ v2 v3 v4 v5 v6 v7 v8 v9 v10 v11 v12 v13 v14 v15 v16 : Option V, σ = [some (.ref a), some (.ref p), v2, v3, v4, v5, v6, v7, v8, v9, v10, v11, v12, v13, v14, v15, v16] ∧ (∃ t l : Int, PenAt G p c ns t l ∧ t ≤ 1000 * i) ∧ LamX.Tabs [(Tb, (XL w K mg base f c0 A outer s H E).env.qual ++ Str.ofString "<lambda>")] G)
    ⟨_, _, _, _, _, _, _, _, _, _, _, _, _, _, _, rfl, ⟨0, 0, N, Int.le_refl _⟩, tabs_same s1 fun z hz => by rw [List.mem_singleton.mp hz]; exact LamX.TabS.nil hT⟩ (fun i σ G hi h => ?_) (fun σ G h => ?_)
  · obtain ⟨v2, v3, v4, v5, v6, v7, v8, v9, v10, v11, v12, v13, v14, v15, v16, rfl, ⟨t, l, N, ht⟩, tab⟩ := h
    refine rA _ _ G a p c Tb _ ns t l _ v3 v4 v5 v6 v7 v8 v9 v10 v11 v12 v13 v14 v15 v16 N (by omega) tab fun H2 w1 w2 w3 w4 w5 d1 d2 d3 d4 d5 u3 u4 Dr => ?_
    refine rB _ _ H2 w1 w2 w3 w4 w5 d1 d2 d3 d4 d5 _ _ _ _ _ _ _ _ _ _ _ _ Dr.tab Dr.a1 Dr.a2 Dr.a3 Dr.a4 Dr.a5 Dr.g1 Dr.g2 Dr.g3 Dr.g4 Dr.g5 fun H3 x8 vU vT vA e3 tab3 told => ?_
    refine rC _ H3 vU vT vA w1 w2 w3 w4 w5 d1 d2 d3 d4 d5 _ _ _ _ _ _ _ _ _ told (ext_da e3 Dr.a1) (ext_da e3 Dr.a2) (ext_da e3 Dr.a3) (ext_da e3 Dr.a4) (ext_da e3 Dr.a5) Dr.g1 Dr.g2 Dr.g3 Dr.g4 Dr.g5 fun H4 x9 x10 x11 S4 => ?_
    obtain ⟨t2, l2, N2, ht2⟩ := Dr.pen
    exact ⟨_, _, _, _, _, _, _, _, _, _, _, _, _, _, _, rfl, ⟨t2, l2, (ext_pen e3 N2).same S4, by omega⟩, tabs_same S4 tab3⟩
  · obtain ⟨v2, v3, v4, v5, v6, v7, v8, v9, v10, v11, v12, v13, v14, v15, v16, rfl, _⟩ := h
    exact q _
end
end LW

/-! The end of a law that makes lambdas and shows values by repr: its call by the caller, its own table of code objects tracked. -/
namespace G
open PySem PySem.Spec PyProof.Rows L2
/-- the table, and the script or nothing -/
def hdT (P a : Addr) (o : Option HO) : Hp := fun b => if b = P then some (.tbl #[]) else if b = a then o else none
section
variable {P : Program} {w : World} {K : PySem.W.Frag} {mg mb : Str → Option Value} {fa a c T : Addr} {fd : FuncData} {x : Str} {sp : Sp} {s1 : Shared} {vs : List Value} {ns : List Int} {k : Nat}
theorem hdT_P {o : Option HO} : hdT T a o T = some (.tbl #[]) := if_pos rfl
theorem hdT_a {o : Option HO} (n : a ≠ T) : hdT T a o a = o := (if_neg n).trans (if_pos rfl)
theorem hdT_else {o : Option HO} {b : Addr} (n : b ≠ T) (m : b ≠ a) : hdT T a o b = none := (if_neg n).trans (if_neg m)
theorem law_fromT (KX : K.In s1.heap) (gl : s1.heap.Ns mainGlobals mg) (bl : s1.heap.Ns builtinsNs mb) (bb : ∀ x : Str, x ≠ "__name__" → mb x = bootBuiltins x) (lim : s1.heap.NoLimit) (g0 : s1.gens = #[])
    (tabS : s1.heap.get? T = some { cls := .none, data := .fields #[] }) (tabK : K.lookup T = none) (code : PySem.W.CodeHd s1.heap c T) (bm : ∃ (m : Addr) (ob : Obj), mg "__builtins__" = some (.ref m) ∧ m ≠ builtinsNs ∧ s1.heap.get? m = some ob ∧ ob.cls = .type "module" ∧ ob.dict = some builtinsNs ∧ ob.data = .plain)
    (isL : s1.heap.get? a = some { cls := .type "list", data := .seq vs.toArray }) (rv : Vals (ns.map V.int) vs) (few : ns.length ≤ sizeLine) (hr : Room k callerA)
    (F : ∀ base : Heap, K.In base → base.Ns mainGlobals mg → LamX.TabB base mg c T → FnOkG P w K mg base CX0 k fa fd [x] sp) (bind : ∀ (s : Shared) (u : Value), BindsTo s fd ⟨[u], []⟩ [(x, u)])
    {o : Option HO} (ho : o = none ∨ (o = some (.frz { cls := .type "list", data := .seq vs.toArray } (.lst (ns.map V.int))) ∧ K.lookup a = none))
    (h : sp [.ref a] (hdT T a o) (fun v _ => v = .bl true) fun _ _ _ => False) :
    codeAny (model P w) callerA (.call (.ref fa) ⟨[.ref a], []⟩) (LawEnd s1) s1 := by
  have aT : a ≠ T := fun z => by
    rw [z, tabS] at isL
    have q := congrArg Obj.data (Option.some.inj isL)
    cases q
  have untr : ∀ {b : Addr} {ob : Obj}, s1.heap.get? b = some ob → (∀ us, ob.data ≠ .fields us) → (∀ us n, ob.data ≠ .seq us n) → hdT T a o b = none := fun {b ob} e n1 n2 => by
    by_cases z1 : b = T
    · rw [z1, tabS] at e
      cases e
      exact absurd rfl (n1 _)
    by_cases z2 : b = a
    · rw [z2, isL] at e
      cases e
      exact absurd rfl (n2 _ _)
    exact hdT_else z1 z2
  have nsH : ∀ {b : Addr} {m : Str → Option Value}, s1.heap.Ns b m → (hidT s1.heap (hdT T a o)).Ns b m := by
    rintro b m ⟨ob, es, ep, e, d, r⟩
    exact ⟨ob, es, ep, hidT_get e (untr e (fun us z => by rw [d] at z; cases z) fun us n z => by rw [d] at z; cases z), d, r⟩
  have kin : K.In (hidT s1.heap (hdT T a o)) := fun b ob e => hidT_get (KX b ob e) (by
    by_cases z1 : b = T
    · rw [z1, tabK] at e
      cases e
    by_cases z2 : b = a
    · rw [z2, hdT_a aT]
      rcases ho with ho | ⟨_, ho⟩
      · exact ho
      · rw [z2, ho] at e
        cases e
    exact hdT_else z1 z2)
  have hok : HOk P w (hdT T a o) s1.heap := fun b u e => by
    by_cases z1 : b = T
    · rw [z1, hdT_P] at e
      cases e
      rw [z1]
      exact tabS
    by_cases z2 : b = a
    · rw [z2, hdT_a aT] at e
      rcases ho with ho | ⟨ho, _⟩
      · rw [ho] at e
        cases e
      · rw [ho] at e
        cases e
        rw [z2]
        exact ⟨isL, by rw [List.length_map]; exact few, vs, _, rv, isL⟩
    · rw [hdT_else z1 z2] at e
      cases e
  have TB : LamX.TabB (hidT s1.heap (hdT T a o)) mg c T := by
    refine ⟨?_, ?_, fun z => ?_⟩
    · obtain ⟨ob, us, file, tf, flags, tg, inF, text, tt, e1, r1, r2, r3, r4, r5, r6, r7, r8, ne⟩ := code
      have nc : hdT T a o c = none := by
        refine hdT_else ne fun z => ?_
        rw [z, isL] at e1
        cases e1
        cases r2
      exact ⟨ob, us, file, tf, flags, tg, inF, text, tt, hidT_get e1 nc, r1, r2, r3, r4, r5, r6, r7, r8, ne⟩
    · obtain ⟨m, ob, b1, b2, b3, b4, b5, b6⟩ := bm
      have nG : m ≠ mainGlobals := fun q => by
        obtain ⟨o2, es, ep, e, d, _⟩ := gl
        rw [q, e] at b3
        cases b3
        rw [d] at b6
        cases b6
      have nP : m ≠ T := fun q => by
        rw [q, tabS] at b3
        cases b3
        cases b6
      exact ⟨m, ob, b1, b2, nG, nP, hidT_get b3 (untr b3 (fun us z => by rw [b6] at z; cases z) fun us n z => by rw [b6] at z; cases z), b4, b5, b6⟩
    · obtain ⟨o2, es, ep, e, d, _⟩ := gl
      rw [z, tabS] at e
      cases e
      cases d
  obtain ⟨mc, c1, c2⟩ := lim
  have env : Env0 P w K mg (hidT s1.heap (hdT T a o)) callerA [] s1 (hdT T a o) :=
    { frames := rfl, mod := ⟨kin, nsH gl, ⟨mb, nsH bl, bb⟩, ⟨mc, nsH c1, c2⟩⟩, bs := fun b o e => of_hidT e, bsz := Nat.le_of_eq (hidT_size _ _), funs := trivial, frf := fun b hb => (List.not_mem_nil hb).elim, hok := hok, bare := .of_eq g0 }
  refine codeAny_mono ((F _ kin (nsH gl) TB).run callerA [] s1 _ ⟨[.ref a], []⟩ [.ref a] [.ref a] _ _ hr rfl env (bind s1 (.ref a)) (.cons (a := V.ref a) rfl .nil) h) fun r s2 z => ?_
  match r, z with
  | .error _, z => exact z.elim
  | .ok (.ret u), ⟨v, H2, os, bare, un, ok2, rv2, q⟩ =>
    obtain rfl : v = V.bl true := q
    obtain rfl : u = Value.bool true := rv2
    have stays : ∀ b ob, b ≠ T → s1.heap.get? b = some ob → s2.heap.get? b = some ob := fun b ob nT e => by
      cases q : hdT T a o b with
      | none => exact un.keep b ob e q (fun z => (List.not_mem_nil z).elim) (fun z => (List.not_mem_nil z).elim)
      | some u2 =>
        by_cases z2 : b = a
        · rcases ho with ho | ⟨ho, _⟩
          · rw [z2, hdT_a aT, ho] at q
            cases q
          · have q2 : hdT T a o a = some (.frz { cls := .type "list", data := .seq vs.toArray } (.lst (ns.map V.int))) := by rw [hdT_a aT, ho]
            have here := (hok a _ q2).1
            have there := (ok2 a _ (un.frzs a _ _ q2)).1
            rw [z2] at e ⊢
            rw [here] at e
            cases e
            exact there
        · rw [hdT_else nT z2] at q
          cases q
    obtain ⟨more, grown⟩ := un.tbls T #[] hdT_P
    have grew : s2.heap.get? T = some { cls := .none, data := .fields (#[] ++ more) } := ok2 T _ grown
    refine ⟨rfl, ⟨fun b ob e => ?_, fun b ob e => ?_⟩, os, bare⟩
    · by_cases z1 : b = T
      · rw [z1] at e ⊢
        rw [tabS] at e
        cases e
        exact .inr (.inl ⟨(code.tab tabS).isCodeTable, rfl, #[], more, rfl, grew⟩)
      · exact .inl (stays b ob z1 e)
    · by_cases z1 : b = T
      · rw [z1]
        exact ⟨_, grew⟩
      · exact ⟨ob, stays b ob z1 e⟩
  | .ok .next, z => exact z.elim
  | .ok .brk, z => exact z.elim
  | .ok .cont, z => exact z.elim
end
/-- THE END: the law's own table at T, its code object at c -/
theorem walkT {l : PySem.W.OpenLaw} {n k : Nat} {q : Program} {loose : List Str} {XP : (Str → Option Value) → Heap → Prop} {YP : World → Heap → Prop} {d : DefRec} {K : Params → PySem.W.Frag} {sp : PySem.W.Frag → Addr → Sp} {x : Str}
    (hn : l.most = some n) (hn2 : n ≤ sizeLine) (hdf : d.params.defaults = []) (hr : Room k callerA) (hrec : ((recsOf q).any fun e => e.name == d.name) = true) (hY : ∀ (w : World) (h : Heap), YP w h → (K w.params).In h)
    (F : ∀ (w : World) (mg : Str → Option Value) (fa : Addr) (h : Heap), YP w h → (K w.params).In h → h.Ns mainGlobals mg → mg d.name = some (.ref fa) → LamX.OwnTab (K w.params) fa h → XP mg h →
      ∃ (fd : FuncData) (c T : Addr), h.get? T = some { cls := .none, data := .fields #[] } ∧ (K w.params).lookup T = none ∧ PySem.W.CodeHd h c T ∧ (∀ (s : Shared) (u : Value), BindsTo s fd ⟨[u], []⟩ [(x, u)]) ∧
        ∀ base : Heap, (K w.params).In base → base.Ns mainGlobals mg → LamX.TabB base mg c T → FnOkG l.prog w (K w.params) mg base CX0 k fa fd [x] (sp (K w.params) T))
    (hsp : ∀ (K : PySem.W.Frag) (T : Addr) (H : Hp) (a : Addr) (ns : List Int), ns.length ≤ n → H T = some (.tbl #[]) → SqL K H a (ns.map V.int) → sp K T [.ref a] H (fun v _ => v = .bl true) fun _ _ _ => False) :
    PySem.W.WalkO q loose XP YP l.row.toRowW d [] (fun f vs => PySem.call f vs) := by
  refine Att.attach_call hn hdf fun w s0 s1 mg mb fa o pm cd doc a vs ns Gr Y ho hd hcd hmg hobj hints hlen hg => ?_
  have KX := hY w _ Y
  have own : LamX.OwnTab (K w.params) fa s1.heap := fun c P o1 fd1 e dd vs1 sl k1 k2 k3 k4 k5 => by
    obtain ⟨dL, m1, m2⟩ := List.any_eq_true.mp hrec
    have m3 : dL.name = d.name := beq_iff_eq.mp m2
    obtain ⟨a2, o2, fd2, c2, P2, h1, h2, h3, h4, h5, ⟨⟨oc, vc, e1, _, e3, e4⟩, hP⟩⟩ := Gr.T.tab dL m1
    rw [m3, hmg] at h1
    cases h1
    have g1 := KX _ _ k1
    rw [g1] at h2
    cases h2
    rw [k2] at h3
    cases h3
    rw [k3] at h4
    cases h4
    have g2 := KX _ _ k4
    rw [g2] at e1
    cases e1
    cases e3
    rw [k5] at e4
    cases e4
    exact hP
  obtain ⟨fd, c, T, t1, t2, t3, hb, R⟩ := F w mg fa _ Y KX Gr.T.g hmg own Gr.X
  have rv := vals_ints hints
  have few := Nat.le_trans hlen hn2
  have aT : a ≠ T := fun z => by
    rw [z, t1] at hobj
    have q := congrArg Obj.data (Option.some.inj hobj)
    cases q
  cases hk : (K w.params).lookup a with
  | some ob =>
    have e := KX a ob hk
    rw [hobj] at e
    cases e
    refine law_fromT KX Gr.T.g Gr.T.b Gr.T.builtins Gr.T.nolimit hg t1 t2 t3 Gr.T.bmain hobj rv few hr R hb (o := none) (.inl rfl) (hsp _ _ _ _ _ hlen hdT_P (.inr ⟨_, vs.toArray, _, hk, rfl, rfl, rfl, ?_, ?_⟩))
    · rw [List.size_toArray, hints.length]
      exact few
    · simpa using rv
  | none =>
    exact law_fromT KX Gr.T.g Gr.T.b Gr.T.builtins Gr.T.nolimit hg t1 t2 t3 Gr.T.bmain hobj rv few hr R hb (o := some (.frz { cls := .type "list", data := .seq vs.toArray } (.lst (ns.map V.int)))) (.inr ⟨rfl, hk⟩) (hsp _ _ _ _ _ hlen hdT_P (.inl (.inr ⟨_, hdT_a aT⟩)))
end G

/-! The end: what the top has written, put together. -/
namespace LW
open PySem L2 G
def DF (K : PySem.W.Frag) (x : Str) (st : Stmt) (a : Addr) (oc kV dc pm cd ct : Value) (od an : Option Addr) (sl : Array (Option Value)) : Prop :=
  PySem.W.nsIn K mainGlobals x = some (some (.ref a)) ∧ K.lookup a = some ⟨oc, od, .func (PySem.W.fnOf x x (defArgs st) (defBody st) (defScope st) .none kV dc pm an cd ct), sl⟩ ∧ PySem.W.codeIn K cd x = true ∧ PySem.W.keepIn K (.ref a) = true
/-- a method -/
def MF (K : PySem.W.Frag) (x q : Str) (st : Stmt) (a : Addr) (oc kV dc pm cd ct : Value) (od an : Option Addr) (sl : Array (Option Value)) : Prop :=
  K.lookup a = some ⟨oc, od, .func (PySem.W.fnOf x q (defArgs st) (defBody st) (defScope st) .none kV dc pm an cd ct), sl⟩ ∧ PySem.W.codeIn K cd q = true ∧ PySem.W.keepIn K (.ref a) = true
def efB (K : PySem.W.Frag) (C fI : Addr) : Bool :=
  decide (PySem.W.findIn K (.ref C) "__setattr__" = some (some (.builtin "object.__setattr__"))) && (decide (PySem.W.subIn K (.ref C) (.type "BaseException") = some true) && (decide (PySem.W.typeIn K (.ref C) = some (.type "type")) && (PySem.W.keepIn K (.ref C) && (decide (PySem.W.findIn K (.ref C) "value" = some none) &&
  (decide (PySem.W.typeIn K (.ref fI) = some (.type "function")) && (xfB K C && (decide (PySem.W.findIn K (.ref C) "__class__" = some (some (.builtin "object.__class__"))) && (decide (PySem.W.mroIn K C (.type "object") = some true) && decide (PySem.W.kitOne K (.ref C) (.type "ValueError") = some true)))))))))
/-- an error class with the field value -/
def EF (K : PySem.W.Frag) (x q : Str) (st : Stmt) (C fI : Addr) (oc kV dc pm cd ct : Value) (od an : Option Addr) (sl : Array (Option Value)) (nm qn : Str) (N : Addr) (bs : List Value) (sn : List Str) (sub : List Value) (ab : Bool) (col : Option Bool) (dd : Option Addr) (k0 k1 k2 k3 k5 : Option Value) : Prop :=
  PySem.W.nsIn K mainGlobals x = some (some (.ref C)) ∧ PySem.W.findIn K (.ref C) "__init__" = some (some (.ref fI)) ∧ MF K "__init__" q st fI oc kV dc pm cd ct od an sl ∧
  K.lookup C = some (PySem.excClassObj nm qn C N bs [.type "ValueError", .type "Exception", .type "BaseException", .type "object"] true sn sub ab col dd k0 k1 k2 k3 k5 "ValueError.__new__") ∧ efB K C fI = true
/-- a property -/
def PF (K : PySem.W.Frag) (C : Addr) (x q : Str) (st : Stmt) (p a : Addr) (rest : List Value) (oc kV dc pm cd ct : Value) (od an : Option Addr) (sl : Array (Option Value)) : Prop :=
  PySem.W.findIn K (.ref C) x = some (some (.ref p)) ∧ PySem.W.recIn K p "property" = some (.ref a :: rest) ∧ MF K x q st a oc kV dc pm cd ct od an sl ∧ PySem.W.specialIn K (.ref p) "__get__" = some (some (.builtin "property.__get__")) ∧ PySem.W.takesIn K (.ref p) = some true
def exmB (K : PySem.W.Frag) (CW CJ CS CT : Addr) : Bool :=
  decide (PySem.W.exmOne K (.ref CW) (.ref CW) = some true) && (decide (PySem.W.exmOne K (.ref CJ) (.ref CW) = some false) && (decide (PySem.W.exmOne K (.ref CJ) (.ref CJ) = some true) && (decide (PySem.W.exmOne K (.ref CS) (.ref CW) = some false) && (decide (PySem.W.exmOne K (.ref CS) (.ref CJ) = some false) && (decide (PySem.W.exmOne K (.ref CS) (.ref CS) = some true) && (decide (PySem.W.exmOne K (.ref CT) (.ref CW) = some false) && (decide (PySem.W.exmOne K (.ref CT) (.ref CJ) = some false) && (decide (PySem.W.exmOne K (.ref CT) (.ref CS) = some false) && (decide (PySem.W.exmOne K (.ref CT) (.ref CT) = some true))))))))))
/-- a class whose __init__ calls super() -/
def CF (K : PySem.W.Frag) (x q : Str) (st : Stmt) (C fI cda cc dT : Addr) (its : List Value) (oc kV dc pm ct : Value) (od an : Option Addr) (sl : Array (Option Value)) (cl : Value) (cld : Option Addr) (csl : Array (Option Value)) (ccl : Value) (cdd : Option Addr) (vs : Array Value) (ccs : Array (Option Value)) (tf : Tok) (dcl : Value) (ddd : Option Addr) (m : Nat) (dsl : Array (Option Value)) : Prop :=
  PySem.W.nsIn K mainGlobals x = some (some (.ref C)) ∧ PySem.W.findIn K (.ref C) "__init__" = some (some (.ref fI)) ∧
  K.lookup fI = some ⟨oc, od, .func (PySem.W.ksFn "__init__" q (defArgs st) (defBody st) (defScope st) (.ref dT) kV dc pm an (.ref cda) ct cc), sl⟩ ∧ PySem.W.codeIn K (.ref cda) q = true ∧
  K.lookup cc = some ⟨cl, cld, .cell (some (.ref C)), csl⟩ ∧ K.lookup cda = some ⟨ccl, cdd, .fields vs, ccs⟩ ∧ vs[2]? = some (.str "/claim/cut.py" tf) ∧ K.lookup dT = some ⟨dcl, ddd, .seq its.toArray m, dsl⟩ ∧ PySem.W.keepIn K (.ref fI) = true
def leB (K : PySem.W.Frag) (C fI fE CSt CN : Addr) : Bool :=
  PySem.W.makesIn K C && (PySem.W.isFn K (.ref fI) && (PySem.W.keepIn K (.ref C) && (PySem.W.plainGet K C Str.empty && (PySem.W.hasDictIn K C && (PySem.W.plainOver K C && (decide (PySem.W.findIn K (.ref C) "__setattr__" = some (some (.builtin "object.__setattr__"))) &&
  (decide (PySem.W.findIn K (.ref C) "_person" = some none) && (decide (PySem.W.findIn K (.ref C) "_days" = some none) && (decide (PySem.W.findIn K (.ref C) "_text" = some none) && (decide (PySem.W.findIn K (.ref C) "_subject" = some none) && (decide (PySem.W.findIn K (.ref C) "_tags" = some none) && (decide (PySem.W.findIn K (.ref C) "_times" = some none) &&
  (decide (PySem.W.findIn K (.ref C) "__class__" = some (some (.builtin "object.__class__"))) && (decide (PySem.W.mroIn K C (.type "object") = some true) && (decide (PySem.W.kitOne K (.ref C) (.ref C) = some true) && (eqCB K C fE &&
  (decide (PySem.W.kitOne K (.ref C) (.ref CSt) = some true) && (decide (PySem.W.kitOne K (.ref C) (.ref CN) = some false) && (decide (PySem.W.kitOne K (.type "tuple") (.ref C) = some false) && (PySem.W.notFirst K C (.ref C) && PySem.W.notFirst K C (.type "tuple")))))))))))))))))))))
/-- the law and its code object -/
def LF (K : PySem.W.Frag) (a c T : Addr) (oc kV dc pm ct : Value) (od an : Option Addr) (sl : Array (Option Value)) (dd : Option Addr) (vs : Array Value) (csl : Array (Option Value)) (file : Str) (flags text : Int) (inF : Bool) (tf tg tt : Tok) : Prop :=
  PySem.W.nsIn K mainGlobals "law" = some (some (.ref a)) ∧ K.lookup a = some ⟨oc, od, .func (PySem.W.fnOf "law" "law" (defArgs sLaw) (defBody sLaw) (defScope sLaw) .none kV dc pm an (.ref c) ct), sl⟩ ∧ PySem.W.codeIn K (.ref c) "law" = true ∧ K.lookup c = some ⟨.type "code", dd, .fields vs, csl⟩ ∧
  vs[11]? = some (.ref T) ∧ vs.getD 11 .none = .ref T ∧ vs.getD 18 .none = .str file tf ∧ vs.getD 7 .none = .int flags tg ∧ vs.getD 9 .none = .bool inF ∧ vs.getD 10 .none = .int text tt ∧ c ≠ T ∧ K.lookup T = none
section
variable {P : Program} {w : World} {K : PySem.W.Frag} {mg : Str → Option Value} {base h : Heap}
theorem df_ok {x : Str} {st : Stmt} {a : Addr} {oc kV dc pm cd ct : Value} {od an : Option Addr} {sl : Array (Option Value)} (X : K.In h) (G : h.Ns mainGlobals mg) (d : DF K x st a oc kV dc pm cd ct od an sl) :
    mg x = some (.ref a) ∧ Fun K x x st a (PySem.W.fnOf x x (defArgs st) (defBody st) (defScope st) .none kV dc pm an cd ct) ∧ PySem.W.keepIn K (.ref a) = true := by
  obtain ⟨n, l, c, k⟩ := d
  exact ⟨PySem.W.mg_of X G n, fun_mk (st := st) l c k, k⟩
theorem mf_ok {x q : Str} {st : Stmt} {a : Addr} {oc kV dc pm cd ct : Value} {od an : Option Addr} {sl : Array (Option Value)} (d : MF K x q st a oc kV dc pm cd ct od an sl) :
    Fun K x q st a (PySem.W.fnOf x q (defArgs st) (defBody st) (defScope st) .none kV dc pm an cd ct) := by
  obtain ⟨l, c, k⟩ := d
  exact fun_mk (st := st) l c k
theorem ef_ok {x q : Str} {st : Stmt} {C fI : Addr} {oc kV dc pm cd ct : Value} {od an : Option Addr} {sl : Array (Option Value)} (xd1 : PySem.W.specialIn K (.builtin "object.__class__") "__get__" = some (some (.builtin "getset_descriptor.__get__"))) (xd2 : PySem.W.takesIn K (.builtin "object.__class__") = some true)
    {nm qn : Str} {N : Addr} {bs : List Value} {sn : List Str} {sub : List Value} {ab : Bool} {col : Option Bool} {dd : Option Addr} {k0 k1 k2 k3 k5 : Option Value} (X : K.In h) (G : h.Ns mainGlobals mg) (d : EF K x q st C fI oc kV dc pm cd ct od an sl nm qn N bs sn sub ab col dd k0 k1 k2 k3 k5) :
    mg x = some (.ref C) ∧ OexC K C ∧ PySem.W.findIn K (.ref C) "value" = some none ∧ PySem.W.findIn K (.ref C) "__init__" = some (some (.ref fI)) ∧ PySem.W.typeIn K (.ref fI) = some (.type "function") ∧ Fun K "__init__" q st fI (PySem.W.fnOf "__init__" q (defArgs st) (defBody st) (defScope st) .none kV dc pm an cd ct) ∧ CaughtC K C := by
  obtain ⟨n, i, m, e, b⟩ := d
  simp only [efB, Bool.and_eq_true, decide_eq_true_eq] at b
  obtain ⟨b1, b2, b3, b4, b5, b6, b7, b8, b9, b10⟩ := b
  have xf := xfB_ok b7
  exact ⟨PySem.W.mg_of X G n, ⟨⟨nm, qn, N, bs, _, sn, sub, ab, col, dd, k0, k1, k2, k3, k5, e, by decide +kernel⟩, b1, b2, b3, b4⟩, b5, i, b6, mf_ok m, ⟨xf, ⟨xf.ga, xf.gg, xf.exC, xf.hdC, b8, xd1, xd2, b9⟩, b5, b10⟩⟩
theorem pf_ok {C : Addr} {x q : Str} {st : Stmt} {p a : Addr} {rest : List Value} {oc kV dc pm cd ct : Value} {od an : Option Addr} {sl : Array (Option Value)} (d : PF K C x q st p a rest oc kV dc pm cd ct od an sl) :
    PropOf K C x p a ∧ Fun K x q st a (PySem.W.fnOf x q (defArgs st) (defBody st) (defScope st) .none kV dc pm an cd ct) := by
  obtain ⟨f, r, m, s, t⟩ := d
  exact ⟨⟨f, s, t, rest, r⟩, mf_ok m⟩

end
section
variable {w : World} {K : PySem.W.Frag} {mg : Str → Option Value} {h : Heap}
theorem all_mk {fa : Addr} (X : K.In h) (G : h.Ns mainGlobals mg) (hfa : mg "law" = some (.ref fa)) (own : LamX.OwnTab K fa h) (lim : ∃ t, mg "LIMIT" = some (.int (10 ^ 30) t))
    {aPen : Addr} {ocPen kVPen dcPen pmPen cdPen ctPen : Value} {odPen anPen : Option Addr} {slPen : Array (Option Value)}
    {aDraw : Addr} {ocDraw kVDraw dcDraw pmDraw cdDraw ctDraw : Value} {odDraw anDraw : Option Addr} {slDraw : Array (Option Value)}
    {aPick : Addr} {ocPick kVPick dcPick pmPick cdPick ctPick : Value} {odPick anPick : Option Addr} {slPick : Array (Option Value)}
    {aGreat : Addr} {ocGreat kVGreat dcGreat pmGreat cdGreat ctGreat : Value} {odGreat anGreat : Option Addr} {slGreat : Array (Option Value)}
    {aWords : Addr} {ocWords kVWords dcWords pmWords cdWords ctWords : Value} {odWords anWords : Option Addr} {slWords : Array (Option Value)}
    {aQWord : Addr} {ocQWord kVQWord dcQWord pmQWord cdQWord ctQWord : Value} {odQWord anQWord : Option Addr} {slQWord : Array (Option Value)}
    {aQNum : Addr} {ocQNum kVQNum dcQNum pmQNum cdQNum ctQNum : Value} {odQNum anQNum : Option Addr} {slQNum : Array (Option Value)}
    {aQStr : Addr} {ocQStr kVQStr dcQStr pmQStr cdQStr ctQStr : Value} {odQStr anQStr : Option Addr} {slQStr : Array (Option Value)}
    {aQCh : Addr} {ocQCh kVQCh dcQCh pmQCh cdQCh ctQCh : Value} {odQCh anQCh : Option Addr} {slQCh : Array (Option Value)}
    {aQGoal : Addr} {ocQGoal kVQGoal dcQGoal pmQGoal cdQGoal ctQGoal : Value} {odQGoal anQGoal : Option Addr} {slQGoal : Array (Option Value)}
    {aQPas : Addr} {ocQPas kVQPas dcQPas pmQPas cdQPas ctQPas : Value} {odQPas anQPas : Option Addr} {slQPas : Array (Option Value)}
    {aSpot : Addr} {ocSpot kVSpot dcSpot pmSpot cdSpot ctSpot : Value} {odSpot anSpot : Option Addr} {slSpot : Array (Option Value)}
    {aSpan : Addr} {ocSpan kVSpan dcSpan pmSpan cdSpan ctSpan : Value} {odSpan anSpan : Option Addr} {slSpan : Array (Option Value)}
    {aChain : Addr} {ocChain kVChain dcChain pmChain cdChain ctChain : Value} {odChain anChain : Option Addr} {slChain : Array (Option Value)}
    {aSubL : Addr} {ocSubL kVSubL dcSubL pmSubL cdSubL ctSubL : Value} {odSubL anSubL : Option Addr} {slSubL : Array (Option Value)}
    {aBent : Addr} {ocBent kVBent dcBent pmBent cdBent ctBent : Value} {odBent anBent : Option Addr} {slBent : Array (Option Value)}
    {aAny : Addr} {ocAny kVAny dcAny pmAny cdAny ctAny : Value} {odAny anAny : Option Addr} {slAny : Array (Option Value)}
    {aTold : Addr} {ocTold kVTold dcTold pmTold cdTold ctTold : Value} {odTold anTold : Option Addr} {slTold : Array (Option Value)}
    {aDue : Addr} {ocDue kVDue dcDue pmDue cdDue ctDue : Value} {odDue anDue : Option Addr} {slDue : Array (Option Value)}
    {aOdd : Addr} {ocOdd kVOdd dcOdd pmOdd cdOdd ctOdd : Value} {odOdd anOdd : Option Addr} {slOdd : Array (Option Value)}
    {aInt : Addr} {ocInt kVInt dcInt pmInt cdInt ctInt : Value} {odInt anInt : Option Addr} {slInt : Array (Option Value)}
    {aWord : Addr} {ocWord kVWord dcWord pmWord cdWord ctWord : Value} {odWord anWord : Option Addr} {slWord : Array (Option Value)}
    {aPCh : Addr} {ocPCh kVPCh dcPCh pmPCh cdPCh ctPCh : Value} {odPCh anPCh : Option Addr} {slPCh : Array (Option Value)}
    {aPStr : Addr} {ocPStr kVPStr dcPStr pmPStr cdPStr ctPStr : Value} {odPStr anPStr : Option Addr} {slPStr : Array (Option Value)}
    {aSub : Addr} {ocSub kVSub dcSub pmSub cdSub ctSub : Value} {odSub anSub : Option Addr} {slSub : Array (Option Value)}
    {aTim : Addr} {ocTim kVTim dcTim pmTim cdTim ctTim : Value} {odTim anTim : Option Addr} {slTim : Array (Option Value)}
    {aShr : Addr} {ocShr kVShr dcShr pmShr cdShr ctShr : Value} {odShr anShr : Option Addr} {slShr : Array (Option Value)}
    {aUnl : Addr} {ocUnl kVUnl dcUnl pmUnl cdUnl ctUnl : Value} {odUnl anUnl : Option Addr} {slUnl : Array (Option Value)}
    {aShQ : Addr} {ocShQ kVShQ dcShQ pmShQ cdShQ ctShQ : Value} {odShQ anShQ : Option Addr} {slShQ : Array (Option Value)}
    {aLTx : Addr} {ocLTx kVLTx dcLTx pmLTx cdLTx ctLTx : Value} {odLTx anLTx : Option Addr} {slLTx : Array (Option Value)}
    {aCTx : Addr} {ocCTx kVCTx dcCTx pmCTx cdCTx ctCTx : Value} {odCTx anCTx : Option Addr} {slCTx : Array (Option Value)}
    {aSTx : Addr} {ocSTx kVSTx dcSTx pmSTx cdSTx ctSTx : Value} {odSTx anSTx : Option Addr} {slSTx : Array (Option Value)}
    {aDTx : Addr} {ocDTx kVDTx dcDTx pmDTx cdDTx ctDTx : Value} {odDTx anDTx : Option Addr} {slDTx : Array (Option Value)}
    {aTTx : Addr} {ocTTx kVTTx dcTTx pmTTx cdTTx ctTTx : Value} {odTTx anTTx : Option Addr} {slTTx : Array (Option Value)}
    {aCkW : Addr} {ocCkW kVCkW dcCkW pmCkW cdCkW ctCkW : Value} {odCkW anCkW : Option Addr} {slCkW : Array (Option Value)}
    {aCkS : Addr} {ocCkS kVCkS dcCkS pmCkS cdCkS ctCkS : Value} {odCkS anCkS : Option Addr} {slCkS : Array (Option Value)}
    {aDys : Addr} {ocDys kVDys dcDys pmDys cdDys ctDys : Value} {odDys anDys : Option Addr} {slDys : Array (Option Value)}
    {CEW fEW : Addr} {ocEW kVEW dcEW pmEW cdEW ctEW : Value} {odEW anEW : Option Addr} {slEW : Array (Option Value)} {nmEW qnEW : Str} {NEW : Addr} {bsEW : List Value} {snEW : List Str} {subEW : List Value} {abEW : Bool} {colEW : Option Bool} {ddEW : Option Addr} {k0EW k1EW k2EW k3EW k5EW : Option Value}
    {CES fES : Addr} {ocES kVES dcES pmES cdES ctES : Value} {odES anES : Option Addr} {slES : Array (Option Value)} {nmES qnES : Str} {NES : Addr} {bsES : List Value} {snES : List Str} {subES : List Value} {abES : Bool} {colES : Option Bool} {ddES : Option Addr} {k0ES k1ES k2ES k3ES k5ES : Option Value}
    {CEJ fEJ : Addr} {ocEJ kVEJ dcEJ pmEJ cdEJ ctEJ : Value} {odEJ anEJ : Option Addr} {slEJ : Array (Option Value)} {nmEJ qnEJ : Str} {NEJ : Addr} {bsEJ : List Value} {snEJ : List Str} {subEJ : List Value} {abEJ : Bool} {colEJ : Option Bool} {ddEJ : Option Addr} {k0EJ k1EJ k2EJ k3EJ k5EJ : Option Value}
    {CET fET : Addr} {ocET kVET dcET pmET cdET ctET : Value} {odET anET : Option Addr} {slET : Array (Option Value)} {nmET qnET : Str} {NET : Addr} {bsET : List Value} {snET : List Str} {subET : List Value} {abET : Bool} {colET : Option Bool} {ddET : Option Addr} {k0ET k1ET k2ET k3ET k5ET : Option Value}
    {pPP gPP : Addr} {rPP : List Value} {ocPP kVPP dcPP pmPP cdPP ctPP : Value} {odPP anPP : Option Addr} {slPP : Array (Option Value)}
    {pPD gPD : Addr} {rPD : List Value} {ocPD kVPD dcPD pmPD cdPD ctPD : Value} {odPD anPD : Option Addr} {slPD : Array (Option Value)}
    {pPS gPS : Addr} {rPS : List Value} {ocPS kVPS dcPS pmPS cdPS ctPS : Value} {odPS anPS : Option Addr} {slPS : Array (Option Value)}
    {pPG gPG : Addr} {rPG : List Value} {ocPG kVPG dcPG pmPG cdPG ctPG : Value} {odPG anPG : Option Addr} {slPG : Array (Option Value)}
    {pPM gPM : Addr} {rPM : List Value} {ocPM kVPM dcPM pmPM cdPM ctPM : Value} {odPM anPM : Option Addr} {slPM : Array (Option Value)}
    {fS fEL CSt CN : Addr} {ocSt kVSt dcSt pmSt cdSt ctSt : Value} {odSt anSt : Option Addr} {slSt : Array (Option Value)} {ocEqL kVEqL dcEqL pmEqL cdEqL ctEqL : Value} {odEqL anEqL : Option Addr} {slEqL : Array (Option Value)}
    {CL fIL cdaL ccL dTL : Addr} {ocL kVL dcL pmL ctL : Value} {odL anL : Option Addr} {slL : Array (Option Value)} {clL : Value} {cldL : Option Addr} {cslL : Array (Option Value)} {cclL : Value} {cddL : Option Addr} {vsL : Array Value} {ccsL : Array (Option Value)} {tfL : Tok} {dclL : Value} {dddL : Option Addr} {mL : Nat} {dslL : Array (Option Value)}
    {dvL1 dvL2 : Value} {tm0 tm1 tm2 tm3 : Tok}
    {aLw cLw TL : Addr} {ocw kVw dcw pmw ctw : Value} {odw anw : Option Addr} {slw : Array (Option Value)} {ddw : Option Addr} {vsw : Array Value} {cslw : Array (Option Value)} {file : Str} {flags text : Int} {inF : Bool} {tfw tgw ttw : Tok}
    (hPen : DF K "_law_pen" sPen aPen ocPen kVPen dcPen pmPen cdPen ctPen odPen anPen slPen)
    (hDraw : DF K "_law_draw" sDraw aDraw ocDraw kVDraw dcDraw pmDraw cdDraw ctDraw odDraw anDraw slDraw)
    (hPick : DF K "_law_pick" sPick aPick ocPick kVPick dcPick pmPick cdPick ctPick odPick anPick slPick)
    (hGreat : DF K "_law_great" sGreat aGreat ocGreat kVGreat dcGreat pmGreat cdGreat ctGreat odGreat anGreat slGreat)
    (hWords : DF K "_law_words" sWords aWords ocWords kVWords dcWords pmWords cdWords ctWords odWords anWords slWords)
    (hQWord : DF K "_law_is_word" sIsWord aQWord ocQWord kVQWord dcQWord pmQWord cdQWord ctQWord odQWord anQWord slQWord)
    (hQNum : DF K "_law_is_number" sIsNumber aQNum ocQNum kVQNum dcQNum pmQNum cdQNum ctQNum odQNum anQNum slQNum)
    (hQStr : DF K "_law_is_stretch" sIsStretch aQStr ocQStr kVQStr dcQStr pmQStr cdQStr ctQStr odQStr anQStr slQStr)
    (hQCh : DF K "_law_is_chain" sIsChain aQCh ocQCh kVQCh dcQCh pmQCh cdQCh ctQCh odQCh anQCh slQCh)
    (hQGoal : DF K "_law_is_goal" sIsGoal aQGoal ocQGoal kVQGoal dcQGoal pmQGoal cdQGoal ctQGoal odQGoal anQGoal slQGoal)
    (hQPas : DF K "_law_is_passes" sIsPasses aQPas ocQPas kVQPas dcQPas pmQPas cdQPas ctQPas odQPas anQPas slQPas)
    (hSpot : DF K "_law_spot" sSpot aSpot ocSpot kVSpot dcSpot pmSpot cdSpot ctSpot odSpot anSpot slSpot)
    (hSpan : DF K "_law_span" sSpan aSpan ocSpan kVSpan dcSpan pmSpan cdSpan ctSpan odSpan anSpan slSpan)
    (hChain : DF K "_law_chain" sChain aChain ocChain kVChain dcChain pmChain cdChain ctChain odChain anChain slChain)
    (hSubL : DF K "_law_subject" sSubL aSubL ocSubL kVSubL dcSubL pmSubL cdSubL ctSubL odSubL anSubL slSubL)
    (hBent : DF K "_law_bent" sBent aBent ocBent kVBent dcBent pmBent cdBent ctBent odBent anBent slBent)
    (hAny : DF K "_law_any_value" sAny aAny ocAny kVAny dcAny pmAny cdAny ctAny odAny anAny slAny)
    (hTold : DF K "_law_told" sTold aTold ocTold kVTold dcTold pmTold cdTold ctTold odTold anTold slTold)
    (hDue : DF K "_law_due" sDue aDue ocDue kVDue dcDue pmDue cdDue ctDue odDue anDue slDue)
    (hOdd : DF K "_law_odd" sOdd aOdd ocOdd kVOdd dcOdd pmOdd cdOdd ctOdd odOdd anOdd slOdd)
    (hInt : DF K "is_integer_in" pInt aInt ocInt kVInt dcInt pmInt cdInt ctInt odInt anInt slInt)
    (hWord : DF K "is_word" pWord aWord ocWord kVWord dcWord pmWord cdWord ctWord odWord anWord slWord)
    (hPCh : DF K "is_chain" pChain aPCh ocPCh kVPCh dcPCh pmPCh cdPCh ctPCh odPCh anPCh slPCh)
    (hPStr : DF K "is_stretch" pStretch aPStr ocPStr kVPStr dcPStr pmPStr cdPStr ctPStr odPStr anPStr slPStr)
    (hSub : DF K "is_subject" pSubject aSub ocSub kVSub dcSub pmSub cdSub ctSub odSub anSub slSub)
    (hTim : DF K "is_times" pTimes aTim ocTim kVTim dcTim pmTim cdTim ctTim odTim anTim slTim)
    (hShr : DF K "_is_share" pIsShare aShr ocShr kVShr dcShr pmShr cdShr ctShr odShr anShr slShr)
    (hUnl : DF K "_are_unlike_chains" pUnlike aUnl ocUnl kVUnl dcUnl pmUnl cdUnl ctUnl odUnl anUnl slUnl)
    (hShQ : DF K "is_share" pShare aShQ ocShQ kVShQ dcShQ pmShQ cdShQ ctShQ odShQ anShQ slShQ)
    (hLTx : DF K "leave_text" pLText aLTx ocLTx kVLTx dcLTx pmLTx cdLTx ctLTx odLTx anLTx slLTx)
    (hCTx : DF K "_chain_text" pCText aCTx ocCTx kVCTx dcCTx pmCTx cdCTx ctCTx odCTx anCTx slCTx)
    (hSTx : DF K "_subject_text" pSText aSTx ocSTx kVSTx dcSTx pmSTx cdSTx ctSTx odSTx anSTx slSTx)
    (hDTx : DF K "_days_text" pDText aDTx ocDTx kVDTx dcDTx pmDTx cdDTx ctDTx odDTx anDTx slDTx)
    (hTTx : DF K "_times_text" pTText aTTx ocTTx kVTTx dcTTx pmTTx cdTTx ctTTx odTTx anTTx slTTx)
    (hCkW : DF K "_check_word" pCheckW aCkW ocCkW kVCkW dcCkW pmCkW cdCkW ctCkW odCkW anCkW slCkW)
    (hCkS : DF K "_check_stretch" pCheckS aCkS ocCkS kVCkS dcCkS pmCkS cdCkS ctCkS odCkS anCkS slCkS)
    (hDys : DF K "_checked_days" pDays aDys ocDys kVDys dcDys pmDys cdDys ctDys odDys anDys slDys)
    (hEW : EF K "InvalidWord" "InvalidWord.__init__" eWord CEW fEW ocEW kVEW dcEW pmEW cdEW ctEW odEW anEW slEW nmEW qnEW NEW bsEW snEW subEW abEW colEW ddEW k0EW k1EW k2EW k3EW k5EW)
    (hES : EF K "InvalidStretch" "InvalidStretch.__init__" eStretch CES fES ocES kVES dcES pmES cdES ctES odES anES slES nmES qnES NES bsES snES subES abES colES ddES k0ES k1ES k2ES k3ES k5ES)
    (hEJ : EF K "InvalidSubject" "InvalidSubject.__init__" eSubject CEJ fEJ ocEJ kVEJ dcEJ pmEJ cdEJ ctEJ odEJ anEJ slEJ nmEJ qnEJ NEJ bsEJ snEJ subEJ abEJ colEJ ddEJ k0EJ k1EJ k2EJ k3EJ k5EJ)
    (hET : EF K "InvalidTimes" "InvalidTimes.__init__" eTimes CET fET ocET kVET dcET pmET cdET ctET odET anET slET nmET qnET NET bsET snET subET abET colET ddET k0ET k1ET k2ET k3ET k5ET)
    (hL : CF K "Leave" "Leave.__init__" sLvI CL fIL cdaL ccL dTL [dvL1, dvL2] ocL kVL dcL pmL ctL odL anL slL clL cldL cslL cclL cddL vsL ccsL tfL dclL dddL mL dslL)
    (hPP : PF K CL "person" "Statement.person" sPerson pPP gPP rPP ocPP kVPP dcPP pmPP cdPP ctPP odPP anPP slPP)
    (hPD : PF K CL "days" "Statement.days" sDays pPD gPD rPD ocPD kVPD dcPD pmPD cdPD ctPD odPD anPD slPD)
    (hPS : PF K CL "subject" "Leave.subject" sSubject pPS gPS rPS ocPS kVPS dcPS pmPS cdPS ctPS odPS anPS slPS)
    (hPG : PF K CL "tags" "Leave.tags" sTags pPG gPG rPG ocPG kVPG dcPG pmPG cdPG ctPG odPG anPG slPG)
    (hPM : PF K CL "times" "Leave.times" sTimes pPM gPM rPM ocPM kVPM dcPM pmPM cdPM ctPM odPM anPM slPM)
    (nSt : PySem.W.nsIn K mainGlobals "Statement" = some (some (.ref CSt)))
    (sup : PySem.W.findIn K (.ref CSt) "__init__" = some (some (.ref fS)))
    (hSt : MF K "__init__" "Statement.__init__" sStI fS ocSt kVSt dcSt pmSt cdSt ctSt odSt anSt slSt)
    (eqfL : PySem.W.findIn K (.ref CL) "__eq__" = some (some (.ref fEL)))
    (hEqL : MF K "__eq__" "Leave.__eq__" sEqL fEL ocEqL kVEqL dcEqL pmEqL cdEqL ctEqL odEqL anEqL slEqL)
    (nN : PySem.W.nsIn K mainGlobals "Naming" = some (some (.ref CN)))
    (hLw : LF K aLw cLw TL ocw kVw dcw pmw ctw odw anw slw ddw vsw cslw file flags text inF tfw tgw ttw)
    (z_int : PySem.W.nsIn K mainGlobals "int" = some none)
    (z_len : PySem.W.nsIn K mainGlobals "len" = some none)
    (z_abs : PySem.W.nsIn K mainGlobals "abs" = some none)
    (z_list : PySem.W.nsIn K mainGlobals "list" = some none)
    (z_range : PySem.W.nsIn K mainGlobals "range" = some none)
    (z_min : PySem.W.nsIn K mainGlobals "min" = some none)
    (z_max : PySem.W.nsIn K mainGlobals "max" = some none)
    (z_tuple : PySem.W.nsIn K mainGlobals "tuple" = some none)
    (z_isinstance : PySem.W.nsIn K mainGlobals "isinstance" = some none)
    (z_str : PySem.W.nsIn K mainGlobals "str" = some none)
    (z_bool : PySem.W.nsIn K mainGlobals "bool" = some none)
    (z_all : PySem.W.nsIn K mainGlobals "all" = some none)
    (z_repr : PySem.W.nsIn K mainGlobals "repr" = some none)
    (z_set : PySem.W.nsIn K mainGlobals "set" = some none)
    (z_ValueError : PySem.W.nsIn K mainGlobals "ValueError" = some none)
    (z_super : PySem.W.nsIn K mainGlobals "super" = some none)
    (m_0 : PySem.W.nsIn K mainGlobals "MAX_LETTERS" = some (some (.int 8 tm0)))
    (m_1 : PySem.W.nsIn K mainGlobals "MAX_NAMES" = some (some (.int 4 tm1)))
    (m_2 : PySem.W.nsIn K mainGlobals "MAX_CHAINS" = some (some (.int 4 tm2)))
    (m_3 : PySem.W.nsIn K mainGlobals "MAX_TIMES" = some (some (.int 9 tm3)))
    (xd1 : PySem.W.specialIn K (.builtin "object.__class__") "__get__" = some (some (.builtin "getset_descriptor.__get__")))
    (xd2 : PySem.W.takesIn K (.builtin "object.__class__") = some true)
    (bsL : supB K CL CL fS = true)
    (bl : leB K CL fIL fEL CSt CN = true)
    (be : exmB K CEW CEJ CES CET = true) :
    ∃ (fd : FuncData) (c T : Addr), h.get? T = some { cls := .none, data := .fields #[] } ∧ K.lookup T = none ∧ PySem.W.CodeHd h c T ∧ (∀ (s : Shared) (u : Value), BindsTo s fd ⟨[u], []⟩ [("_law_script", u)]) ∧
      ∀ base : Heap, K.In base → base.Ns mainGlobals mg → LamX.TabB base mg c T → FnOkG PySem.Challenge.pw_namechains_k02_leaves_made_and_refused w K mg base CX0 10 fa fd ["_law_script"] (spLaw K T) := by
  have none_ : ∀ {n : Str}, PySem.W.nsIn K mainGlobals n = some none → mg n = none := fun z => PySem.W.mg_none_of X G z
  obtain ⟨l1, l2, l3, l4, l5, l6, l7, l8, l9, l10, l11, l12⟩ := hLw
  have mLw := PySem.W.mg_of X G l1
  have e := hfa.symm.trans mLw
  cases e
  refine ⟨PySem.W.fnOf "law" "law" (defArgs sLaw) (defBody sLaw) (defScope sLaw) .none kVw dcw pmw anw (.ref cLw) ctw, cLw, TL, own cLw TL _ _ _ _ _ _ l2 rfl rfl l4 l5, l12, ⟨_, vsw, file, tfw, flags, tgw, inF, text, ttw, X _ _ l4, rfl, rfl, l5, l6, l7, l8, l9, l10, l11⟩, fun s u => .of_eq rfl, fun base KB GB TB => ?_⟩
  obtain ⟨mPen, FPen, kPen⟩ := df_ok X G hPen
  have bPen := FPen.binds (ps := ["_law_script"]) fun _ _ _ _ _ _ us hl => match us, hl with | [_], _ => rfl
  obtain ⟨mDraw, FDraw, kDraw⟩ := df_ok X G hDraw
  have bDraw := FDraw.binds (ps := ["_law_pen_here", "_law_many"]) fun _ _ _ _ _ _ us hl => match us, hl with | [_, _], _ => rfl
  obtain ⟨mPick, FPick, kPick⟩ := df_ok X G hPick
  have bPick := FPick.binds (ps := ["_law_pen_here", "_law_options"]) fun _ _ _ _ _ _ us hl => match us, hl with | [_, _], _ => rfl
  obtain ⟨mGreat, FGreat, kGreat⟩ := df_ok X G hGreat
  have bGreat := FGreat.binds (ps := ["_law_pen_here", "_law_digits"]) fun _ _ _ _ _ _ us hl => match us, hl with | [_, _], _ => rfl
  obtain ⟨mWords, FWords, kWords⟩ := df_ok X G hWords
  have bWords := FWords.binds (ps := ["_law_pen_here", "_law_many"]) fun _ _ _ _ _ _ us hl => match us, hl with | [_, _], _ => rfl
  obtain ⟨mQWord, FQWord, kQWord⟩ := df_ok X G hQWord
  have bQWord := FQWord.binds (ps := ["_law_thing"]) fun _ _ _ _ _ _ us hl => match us, hl with | [_], _ => rfl
  obtain ⟨mQNum, FQNum, kQNum⟩ := df_ok X G hQNum
  have bQNum := FQNum.binds (ps := ["_law_thing"]) fun _ _ _ _ _ _ us hl => match us, hl with | [_], _ => rfl
  obtain ⟨mQStr, FQStr, kQStr⟩ := df_ok X G hQStr
  have bQStr := FQStr.binds (ps := ["_law_thing"]) fun _ _ _ _ _ _ us hl => match us, hl with | [_], _ => rfl
  obtain ⟨mQCh, FQCh, kQCh⟩ := df_ok X G hQCh
  have bQCh := FQCh.binds (ps := ["_law_thing", "_law_top"]) fun _ _ _ _ _ _ us hl => match us, hl with | [_, _], _ => rfl
  obtain ⟨mQGoal, FQGoal, kQGoal⟩ := df_ok X G hQGoal
  have bQGoal := FQGoal.binds (ps := ["_law_thing"]) fun _ _ _ _ _ _ us hl => match us, hl with | [_], _ => rfl
  obtain ⟨mQPas, FQPas, kQPas⟩ := df_ok X G hQPas
  have bQPas := FQPas.binds (ps := ["_law_thing"]) fun _ _ _ _ _ _ us hl => match us, hl with | [_], _ => rfl
  obtain ⟨mSpot, FSpot, kSpot⟩ := df_ok X G hSpot
  have bSpot := FSpot.binds (ps := ["_law_pen_here"]) fun _ _ _ _ _ _ us hl => match us, hl with | [_], _ => rfl
  obtain ⟨mSpan, FSpan, kSpan⟩ := df_ok X G hSpan
  have bSpan := FSpan.binds (ps := ["_law_pen_here"]) fun _ _ _ _ _ _ us hl => match us, hl with | [_], _ => rfl
  obtain ⟨mChain, FChain, kChain⟩ := df_ok X G hChain
  have bChain := FChain.binds (ps := ["_law_pen_here", "_law_people", "_law_words_here", "_law_top"]) fun _ _ _ _ _ _ us hl => match us, hl with | [_, _, _, _], _ => rfl
  obtain ⟨mSubL, FSubL, kSubL⟩ := df_ok X G hSubL
  have bSubL := FSubL.binds (ps := ["_law_pen_here", "_law_people", "_law_words_here", "_law_top"]) fun _ _ _ _ _ _ us hl => match us, hl with | [_, _, _, _], _ => rfl
  obtain ⟨mBent, FBent, kBent⟩ := df_ok X G hBent
  have bBent := FBent.binds (ps := ["_law_pen_here", "_law_goal", "_law_people", "_law_words_here"]) fun _ _ _ _ _ _ us hl => match us, hl with | [_, _, _, _], _ => rfl
  obtain ⟨mAny, FAny, kAny⟩ := df_ok X G hAny
  have bAny := FAny.binds (ps := ["_law_pen_here"]) fun _ _ _ _ _ _ us hl => match us, hl with | [_], _ => rfl
  obtain ⟨mTold, FTold, kTold⟩ := df_ok X G hTold
  have bTold := FTold.binds (ps := ["_law_call"]) fun _ _ _ _ _ _ us hl => match us, hl with | [_], _ => rfl
  obtain ⟨mDue, FDue, kDue⟩ := df_ok X G hDue
  have bDue := FDue.binds (ps := ["_law_who", "_law_goal", "_law_tags_here", "_law_span_here", "_law_often"]) fun _ _ _ _ _ _ us hl => match us, hl with | [_, _, _, _, _], _ => rfl
  obtain ⟨mOdd, FOdd, kOdd⟩ := df_ok X G hOdd
  have bOdd := FOdd.binds (ps := ["_law_pen_here"]) fun _ _ _ _ _ _ us hl => match us, hl with | [_], _ => rfl
  obtain ⟨mInt, FInt, kInt⟩ := df_ok X G hInt
  have bInt := FInt.binds (ps := ["value", "low", "high"]) fun _ _ _ _ _ _ us hl => match us, hl with | [_, _, _], _ => rfl
  obtain ⟨mWord, FWord, kWord⟩ := df_ok X G hWord
  have bWord := FWord.binds (ps := ["value"]) fun _ _ _ _ _ _ us hl => match us, hl with | [_], _ => rfl
  obtain ⟨mPCh, FPCh, kPCh⟩ := df_ok X G hPCh
  have bPCh := FPCh.binds (ps := ["value", "most"]) fun _ _ _ _ _ _ us hl => match us, hl with | [_, _], _ => rfl
  obtain ⟨mPStr, FPStr, kPStr⟩ := df_ok X G hPStr
  have bPStr := FPStr.binds (ps := ["value"]) fun _ _ _ _ _ _ us hl => match us, hl with | [_], _ => rfl
  obtain ⟨mSub, FSub, kSub⟩ := df_ok X G hSub
  have bSub := FSub.binds (ps := ["value"]) fun _ _ _ _ _ _ us hl => match us, hl with | [_], _ => rfl
  obtain ⟨mTim, FTim, kTim⟩ := df_ok X G hTim
  have bTim := FTim.binds (ps := ["value"]) fun _ _ _ _ _ _ us hl => match us, hl with | [_], _ => rfl
  obtain ⟨mShr, FShr, kShr⟩ := df_ok X G hShr
  have bShr := FShr.binds (ps := ["value"]) fun _ _ _ _ _ _ us hl => match us, hl with | [_], _ => rfl
  obtain ⟨mUnl, FUnl, kUnl⟩ := df_ok X G hUnl
  have bUnl := FUnl.binds (ps := ["value"]) fun _ _ _ _ _ _ us hl => match us, hl with | [_], _ => rfl
  obtain ⟨mShQ, FShQ, kShQ⟩ := df_ok X G hShQ
  have bShQ := FShQ.binds (ps := ["subject"]) fun _ _ _ _ _ _ us hl => match us, hl with | [_], _ => rfl
  obtain ⟨mLTx, FLTx, kLTx⟩ := df_ok X G hLTx
  have bLTx := FLTx.binds (ps := ["person", "subject", "tags", "days", "times"]) fun _ _ _ _ _ _ us hl => match us, hl with | [_, _, _, _, _], _ => rfl
  obtain ⟨mCTx, FCTx, kCTx⟩ := df_ok X G hCTx
  have bCTx := FCTx.binds (ps := ["chain"]) fun _ _ _ _ _ _ us hl => match us, hl with | [_], _ => rfl
  obtain ⟨mSTx, FSTx, kSTx⟩ := df_ok X G hSTx
  have bSTx := FSTx.binds (ps := ["subject"]) fun _ _ _ _ _ _ us hl => match us, hl with | [_], _ => rfl
  obtain ⟨mDTx, FDTx, kDTx⟩ := df_ok X G hDTx
  have bDTx := FDTx.binds (ps := ["days"]) fun _ _ _ _ _ _ us hl => match us, hl with | [_], _ => rfl
  obtain ⟨mTTx, FTTx, kTTx⟩ := df_ok X G hTTx
  have bTTx := FTTx.binds (ps := ["times"]) fun _ _ _ _ _ _ us hl => match us, hl with | [_], _ => rfl
  obtain ⟨mCkW, FCkW, kCkW⟩ := df_ok X G hCkW
  have bCkW := FCkW.binds (ps := ["value"]) fun _ _ _ _ _ _ us hl => match us, hl with | [_], _ => rfl
  obtain ⟨mCkS, FCkS, kCkS⟩ := df_ok X G hCkS
  have bCkS := FCkS.binds (ps := ["value"]) fun _ _ _ _ _ _ us hl => match us, hl with | [_], _ => rfl
  obtain ⟨mDys, FDys, kDys⟩ := df_ok X G hDys
  have bDys := FDys.binds (ps := ["value"]) fun _ _ _ _ _ _ us hl => match us, hl with | [_], _ => rfl
  obtain ⟨mEW, oEW, vEW, iEW, tEW, FEW, cEW⟩ := ef_ok xd1 xd2 X G hEW
  obtain ⟨mES, oES, vES, iES, tES, FES, cES⟩ := ef_ok xd1 xd2 X G hES
  obtain ⟨mEJ, oEJ, vEJ, iEJ, tEJ, FEJ, cEJ⟩ := ef_ok xd1 xd2 X G hEJ
  obtain ⟨mET, oET, vET, iET, tET, FET, cET⟩ := ef_ok xd1 xd2 X G hET
  obtain ⟨oPP, FPP⟩ := pf_ok hPP
  obtain ⟨oPD, FPD⟩ := pf_ok hPD
  obtain ⟨oPS, FPS⟩ := pf_ok hPS
  obtain ⟨oPG, FPG⟩ := pf_ok hPG
  obtain ⟨oPM, FPM⟩ := pf_ok hPM
  have T : Bt mg := ⟨none_ z_int, none_ z_len, none_ z_abs, none_ z_list⟩
  have B : Pb mg := ⟨none_ z_isinstance, none_ z_str, none_ z_int, none_ z_bool, none_ z_tuple, none_ z_len, none_ z_all, ⟨_, PySem.W.mg_of X G m_0⟩, ⟨_, PySem.W.mg_of X G m_1⟩, lim⟩
  have GPen : FnOk PySem.Challenge.pw_namechains_k02_leaves_made_and_refused w K mg base CX0 1 aPen _ ["_law_script"] (spPen K) := ok_pen FPen T
  have GDraw : FnOk PySem.Challenge.pw_namechains_k02_leaves_made_and_refused w K mg base CX0 1 aDraw _ ["_law_pen_here", "_law_many"] spDraw := ok_draw FDraw T
  have GPick : FnOk PySem.Challenge.pw_namechains_k02_leaves_made_and_refused w K mg base CX0 2 aPick _ ["_law_pen_here", "_law_options"] (spPick K) := ok_pick FPick T GDraw mDraw kDraw bDraw
  have GPickS : FnOk PySem.Challenge.pw_namechains_k02_leaves_made_and_refused w K mg base CX0 2 aPick _ ["_law_pen_here", "_law_options"] spPickS := ok_pickS FPick T GDraw mDraw kDraw bDraw
  have GGreat : FnOk PySem.Challenge.pw_namechains_k02_leaves_made_and_refused w K mg base CX0 2 aGreat _ ["_law_pen_here", "_law_digits"] spGreat := ok_great FGreat (none_ z_range) GDraw mDraw kDraw bDraw
  have GSpot : FnOk PySem.Challenge.pw_namechains_k02_leaves_made_and_refused w K mg base CX0 3 aSpot _ ["_law_pen_here"] spSpot := ok_spot FSpot GDraw mDraw kDraw bDraw GPick mPick kPick bPick GGreat mGreat kGreat bGreat
  have GSpan : FnOk PySem.Challenge.pw_namechains_k02_leaves_made_and_refused w K mg base CX0 4 aSpan _ ["_law_pen_here"] spSpan := ok_span FSpan (none_ z_min) (none_ z_max) GSpot mSpot kSpot bSpot
  have GChain : FnOk PySem.Challenge.pw_namechains_k02_leaves_made_and_refused w K mg base CX0 3 aChain _ ["_law_pen_here", "_law_people", "_law_words_here", "_law_top"] spChain := ok_chain FChain (none_ z_range) (none_ z_tuple) GDraw mDraw kDraw bDraw GPick mPick kPick bPick
  have GWords : FnOk PySem.Challenge.pw_namechains_k02_leaves_made_and_refused w K mg base CX0 3 aWords _ ["_law_pen_here", "_law_many"] spWords := ok_words FWords T (none_ z_range) GDraw mDraw kDraw bDraw GPick GPickS mPick kPick bPick
  have GSubL : FnOk PySem.Challenge.pw_namechains_k02_leaves_made_and_refused w K mg base CX0 4 aSubL _ ["_law_pen_here", "_law_people", "_law_words_here", "_law_top"] (spSubL K) := ok_subL FSubL (none_ z_range) (none_ z_len) (none_ z_tuple) ⟨GDraw, mDraw, kDraw, bDraw⟩ ⟨GChain, mChain, kChain, bChain⟩
  have GBent : FnOk PySem.Challenge.pw_namechains_k02_leaves_made_and_refused w K mg base CX0 4 aBent _ ["_law_pen_here", "_law_goal", "_law_people", "_law_words_here"] (spBent K) := ok_bent FBent T (none_ z_isinstance) (none_ z_tuple) ⟨GDraw, mDraw, kDraw, bDraw⟩ ⟨GPick, mPick, kPick, bPick⟩ ⟨GChain, mChain, kChain, bChain⟩
  have GQWord : FnOk PySem.Challenge.pw_namechains_k02_leaves_made_and_refused w K mg base CX0 1 aQWord _ ["_law_thing"] (spIsWord K) := ok_is_word FQWord T (none_ z_isinstance) (none_ z_str)
  have GQNum : FnOk PySem.Challenge.pw_namechains_k02_leaves_made_and_refused w K mg base CX0 1 aQNum _ ["_law_thing"] (spIsNumber K) := ok_is_number FQNum T (none_ z_isinstance) (none_ z_bool)
  have GQStr : FnOk PySem.Challenge.pw_namechains_k02_leaves_made_and_refused w K mg base CX0 2 aQStr _ ["_law_thing"] (spIsStretch K) := ok_is_stretch FQStr T (none_ z_isinstance) (none_ z_tuple) GQNum mQNum kQNum bQNum
  have GQCh : FnOk PySem.Challenge.pw_namechains_k02_leaves_made_and_refused w K mg base CX0 2 aQCh _ ["_law_thing", "_law_top"] (spIsChain K) := ok_is_chain FQCh T (none_ z_isinstance) (none_ z_tuple) GQWord mQWord kQWord bQWord
  have GQGoal : FnOk PySem.Challenge.pw_namechains_k02_leaves_made_and_refused w K mg base CX0 3 aQGoal _ ["_law_thing"] (spSubject K) := ok_is_goal FQGoal T (none_ z_isinstance) (none_ z_bool) (none_ z_tuple) (none_ z_set) GQCh mQCh kQCh bQCh
  have GQPas : FnOk PySem.Challenge.pw_namechains_k02_leaves_made_and_refused w K mg base CX0 1 aQPas _ ["_law_thing"] (spIsTimes K) := ok_is_passes FQPas T (none_ z_isinstance) (none_ z_bool)
  have GAny : FnOk PySem.Challenge.pw_namechains_k02_leaves_made_and_refused w K mg base CX0 3 aAny _ ["_law_pen_here"] (spAny K) := ok_any FAny GPick mPick kPick bPick
  have GOdd : FnOk PySem.Challenge.pw_namechains_k02_leaves_made_and_refused w K mg base CX0 4 aOdd _ ["_law_pen_here"] (spOdd K) := ok_odd FOdd GDraw mDraw kDraw bDraw GPick mPick kPick bPick GAny mAny kAny bAny
  have GInt : FnOk PySem.Challenge.pw_namechains_k02_leaves_made_and_refused w K mg base CX0 1 aInt _ ["value", "low", "high"] (spInt K) := ok_int FInt B
  have GWord : FnOk PySem.Challenge.pw_namechains_k02_leaves_made_and_refused w K mg base CX0 1 aWord _ ["value"] (spIsWord K) := ok_word FWord B
  have GPCh : FnOk PySem.Challenge.pw_namechains_k02_leaves_made_and_refused w K mg base CX0 2 aPCh _ ["value", "most"] (spIsChain K) := ok_chainP FPCh B GWord mWord kWord bWord
  have GPStr : FnOk PySem.Challenge.pw_namechains_k02_leaves_made_and_refused w K mg base CX0 2 aPStr _ ["value"] (spIsStretch K) := ok_stretchP FPStr B GInt mInt kInt bInt
  have GTim : FnOk PySem.Challenge.pw_namechains_k02_leaves_made_and_refused w K mg base CX0 2 aTim _ ["value"] (spIsTimes K) := ok_times FTim ⟨_, PySem.W.mg_of X G m_3⟩ GInt mInt kInt bInt
  have GUnl : FnOk PySem.Challenge.pw_namechains_k02_leaves_made_and_refused w K mg base CX0 3 aUnl _ ["value"] (spUnlike K) := ok_unlike FUnl B (none_ z_set) ⟨_, PySem.W.mg_of X G m_2⟩ GPCh mPCh kPCh bPCh
  have GShr : FnOk PySem.Challenge.pw_namechains_k02_leaves_made_and_refused w K mg base CX0 4 aShr _ ["value"] (spIsShare K) := ok_isShare FShr B GUnl mUnl kUnl bUnl GInt mInt kInt bInt
  have GSub : FnOk PySem.Challenge.pw_namechains_k02_leaves_made_and_refused w K mg base CX0 5 aSub _ ["value"] (spSubject K) := ok_subject FSub B GPCh mPCh kPCh bPCh GShr mShr kShr bShr
  have RW := er_word (P := PySem.Challenge.pw_namechains_k02_leaves_made_and_refused) (w := w) (base := base) mEW oEW vEW iEW tEW FEW
  have RS := er_stretch (P := PySem.Challenge.pw_namechains_k02_leaves_made_and_refused) (w := w) (base := base) mES oES vES iES tES FES
  have RJ := er_subject (P := PySem.Challenge.pw_namechains_k02_leaves_made_and_refused) (w := w) (base := base) mEJ oEJ vEJ iEJ tEJ FEJ
  have RT := er_times (P := PySem.Challenge.pw_namechains_k02_leaves_made_and_refused) (w := w) (base := base) mET oET vET iET tET FET
  have GCkW : FnOk PySem.Challenge.pw_namechains_k02_leaves_made_and_refused w K mg base (L2.CX PySem.Challenge.pw_namechains_k02_leaves_made_and_refused w) 3 aCkW _ ["value"] (spCheckW K CEW) := ok_checkW FCkW RW GWord mWord kWord bWord
  have GCkS : FnOk PySem.Challenge.pw_namechains_k02_leaves_made_and_refused w K mg base (L2.CX PySem.Challenge.pw_namechains_k02_leaves_made_and_refused w) 3 aCkS _ ["value"] (spCheckS K CES) := ok_checkS FCkS RS GPStr mPStr kPStr bPStr
  have GDys : FnOk PySem.Challenge.pw_namechains_k02_leaves_made_and_refused w K mg base (L2.CX PySem.Challenge.pw_namechains_k02_leaves_made_and_refused w) 4 aDys _ ["value"] (spDays K CES) := ok_days FDys B GCkS mCkS kCkS bCkS
  have GShQ : FnOk PySem.Challenge.pw_namechains_k02_leaves_made_and_refused w K mg base CX0 1 aShQ _ ["subject"] (spShareQ K) := ok_share FShQ B
  have GCTx : FnOk PySem.Challenge.pw_namechains_k02_leaves_made_and_refused w K mg base CX0 1 aCTx _ ["chain"] (spCText K) := ok_ctext FCTx
  have GDTx : FnOk PySem.Challenge.pw_namechains_k02_leaves_made_and_refused w K mg base CX0 1 aDTx _ ["days"] (spDText K) := ok_dtext FDTx B
  have GTTx : FnOk PySem.Challenge.pw_namechains_k02_leaves_made_and_refused w K mg base CX0 1 aTTx _ ["times"] spTText := ok_ttext FTTx
  have GSTx : FnOk PySem.Challenge.pw_namechains_k02_leaves_made_and_refused w K mg base CX0 2 aSTx _ ["subject"] (spSText K) := ok_stext FSTx GShQ mShQ kShQ bShQ GCTx mCTx kCTx bCTx
  have GLTx : FnOk PySem.Challenge.pw_namechains_k02_leaves_made_and_refused w K mg base CX0 3 aLTx _ ["person", "subject", "tags", "days", "times"] (spLText K) := ok_ltext FLTx GSTx mSTx kSTx bSTx GDTx mDTx kDTx bDTx GTTx mTTx kTTx bTTx
  simp only [leB, Bool.and_eq_true, decide_eq_true_eq] at bl
  obtain ⟨u1, u2, u3, u4, u5, u6, u7, u8, u9, u10, u11, u12, u13, u14, u15, u16, u17, u18, u19, u20, u21, u22⟩ := bl
  simp only [exmB, Bool.and_eq_true, decide_eq_true_eq] at be
  obtain ⟨r1, r2, r3, r4, r5, r6, r7, r8, r9, r10⟩ := be
  have cL : Cls K CL := ⟨u4, u5, u6, u7⟩
  have LC : LeaC K CL := ⟨cL, u8, u9, u10, u11, u12, u13⟩
  have IL : InsK K CL := ⟨u14, xd1, xd2, u15, u16⟩
  obtain ⟨n1, n2, n3, n4, n5, n6, n7, n8, n9⟩ := hL
  have mL := PySem.W.mg_of X G n1
  have FL : FunS K "__init__" "Leave.__init__" sLvI 2 CL fIL _ := ⟨⟨_, _, _, _, _, _, _, cdaL, ccL, _, _, rfl, n3, n4, ⟨_, _, _, n5⟩, _, _, _, _, _, n6, n7, ⟨dTL, _, [dvL1, dvL2], _, rfl, n8, rfl, rfl⟩⟩, n9⟩
  have bL := FL.binds (ps := psLe) fun _ _ _ _ _ _ _ _ us its hl hi => match us, its, hl, hi with | [_, _, _, _, _, _], [_, _], _, _ => ⟨_, rfl, rfl⟩
  have kL := FL.kbinds (ps := psLe) (ks := ["times", "days", "tags", "subject", "person"]) (g := fun us ws => us ++ ws.reverse) (gV := fun us ws => us ++ ws.reverse) 1 (fun a b => a.append b.reverse) fun _ _ _ _ _ _ _ _ us its ws h1 h2 h3 => match us, its, ws, h1, h2, h3 with | [_], [_, _], [_, _, _, _, _], _, _, _ => ⟨_, rfl, rfl⟩
  have FSt := mf_ok hSt
  have bSt := FSt.binds (ps := ["self", "person", "days", "text"]) fun _ _ _ _ _ _ us hl => match us, hl with | [_, _, _, _], _ => rfl
  have YL := supB_ok (none_ z_super) bsL
  have GL : FnOk PySem.Challenge.pw_namechains_k02_leaves_made_and_refused w K mg base (L2.CX PySem.Challenge.pw_namechains_k02_leaves_made_and_refused w) 6 fIL _ psLe (spLea K CL CEW CEJ CES CET) := ok_leaI FL B LC GCkW mCkW kCkW bCkW GSub mSub kSub bSub RJ GCkS mCkS kCkS bCkS GDys mDys kDys bDys GTim mTim kTim bTim RT GLTx mLTx kLTx bLTx YL (ok_statI FSt cL u8 u9 u10) bSt
  have bPP := FPP.binds (ps := ["self"]) fun _ _ _ _ _ _ us hl => match us, hl with | [_], _ => rfl
  have RPP : Pr PySem.Challenge.pw_namechains_k02_leaves_made_and_refused w K mg base CL "person" "_person" pPP gPP _ := ⟨oPP, ok_hP FPP cL u8, bPP⟩
  have bPD := FPD.binds (ps := ["self"]) fun _ _ _ _ _ _ us hl => match us, hl with | [_], _ => rfl
  have RPD : Pr PySem.Challenge.pw_namechains_k02_leaves_made_and_refused w K mg base CL "days" "_days" pPD gPD _ := ⟨oPD, ok_hD FPD cL u9, bPD⟩
  have bPS := FPS.binds (ps := ["self"]) fun _ _ _ _ _ _ us hl => match us, hl with | [_], _ => rfl
  have RPS : Pr PySem.Challenge.pw_namechains_k02_leaves_made_and_refused w K mg base CL "subject" "_subject" pPS gPS _ := ⟨oPS, ok_hS FPS LC, bPS⟩
  have bPG := FPG.binds (ps := ["self"]) fun _ _ _ _ _ _ us hl => match us, hl with | [_], _ => rfl
  have RPG : Pr PySem.Challenge.pw_namechains_k02_leaves_made_and_refused w K mg base CL "tags" "_tags" pPG gPG _ := ⟨oPG, ok_hG FPG LC, bPG⟩
  have bPM := FPM.binds (ps := ["self"]) fun _ _ _ _ _ _ us hl => match us, hl with | [_], _ => rfl
  have RPM : Pr PySem.Challenge.pw_namechains_k02_leaves_made_and_refused w K mg base CL "times" "_times" pPM gPM _ := ⟨oPM, ok_hN FPM LC, bPM⟩
  have FEL := mf_ok hEqL
  have bEL := FEL.binds (ps := ["self", "other"]) fun _ _ _ _ _ _ us hl => match us, hl with | [_, _], _ => rfl
  have GEL : FnOk PySem.Challenge.pw_namechains_k02_leaves_made_and_refused w K mg base CX0 3 fEL _ ["self", "other"] (spEqL K CL) := ok_eqL FEL (none_ z_isinstance) mL LC IL RPP RPD RPS RPG RPM
  have GDue : FnOkG PySem.Challenge.pw_namechains_k02_leaves_made_and_refused w K mg base CX0 4 aDue _ psDu (spDue K) := ok_due FDue (none_ z_repr) GQWord mQWord kQWord bQWord GQGoal mQGoal kQGoal bQGoal GQStr mQStr kQStr bQStr GQPas mQPas kQPas bQPas
  have LW : Lw w K mg base CL CEW CEJ CES CET CSt CN fIL aTold aDue fEL TL cLw _ _ _ _ pPP gPP pPD gPD pPS gPS pPG gPG pPM gPM _ _ _ _ _ :=
    ⟨GL, ⟨u1, n2, u2, u3⟩, mL, bL, kL, FTold, mTold, bTold, TB, mEW, mEJ, mES, mET, cEW, cEJ, cES, cET, r1, r2, r3, r4, r5, r6, r7, r8, r9, r10, GDue, mDue, kDue, bDue, LC, IL, RPP, RPD, RPS, RPG, RPM, GEL, eqCB_ok u17, bEL, PySem.W.mg_of X G nSt, u18, PySem.W.mg_of X G nN, u19, u20, u21, u22, none_ z_repr, none_ z_isinstance, none_ z_ValueError, kTold⟩
  exact run_law l2 l3 LW T (none_ z_range) (none_ z_min) ⟨GPen, mPen, kPen, bPen⟩ ⟨GWords, mWords, kWords, bWords⟩ ⟨GSubL, mSubL, kSubL, bSubL⟩ ⟨GBent, mBent, kBent, bBent⟩ ⟨GOdd, mOdd, kOdd, bOdd⟩ ⟨GPick, mPick, kPick, bPick⟩ ⟨GSpan, mSpan, kSpan, bSpan⟩
end
end LW

namespace LW
open PySem PySem.W PyProof.Rows L2 G
theorem lim_of {q : Program} {mg : Str → Option Value} {h : Heap} (X : PySem.W.XL q [(Str.ofString "LIMIT", WData.int 1000000000000000000000000000000)] mg h) : ∃ t, mg "LIMIT" = some (.int (10 ^ 30) t) := by
  obtain ⟨v, hv, r⟩ := X.2.val _ List.mem_cons_self
  cases r
  exact ⟨_, by rw [hv]; rfl⟩
end LW
open PySem PySem.W PyProof.Rows
set_option maxHeartbeats 0 in
theorem PySem.Challenge.cw_namechains_k02_leaves_made_and_refused_holds : PySem.Challenge.rw_namechains_k02_leaves_made_and_refused.Holds := by
  w_on; o_law; k_head; (case hw => w_witness2)
  k_fill
  refine G.walkT (l := PySem.Challenge.rw_namechains_k02_leaves_made_and_refused) (n := 63) (k := 10) (x := "_law_script") (sp := LW.spLaw) rfl (by decide) rfl ?hr ?hrec (fun w h Y => PySem.W.km_in_of Y) ?F (fun K T H a ns hl hT hS => ⟨a, ns, rfl, hS, hl, hT, fun _ => rfl⟩)
  case hr => exact ⟨rfl, by decide, by decide⟩
  case hrec => kernel_rfl
  case F =>
    intro w mg fa h Y KX G hmg own X
    refine' LW.all_mk KX G hmg own (LW.lim_of X) ?hPen ?hDraw ?hPick ?hGreat ?hWords ?hQWord ?hQNum ?hQStr ?hQCh ?hQGoal ?hQPas ?hSpot ?hSpan ?hChain ?hSubL ?hBent ?hAny ?hTold ?hDue ?hOdd ?hInt ?hWord ?hPCh ?hPStr ?hSub ?hTim ?hShr ?hUnl ?hShQ ?hLTx ?hCTx ?hSTx ?hDTx ?hTTx ?hCkW ?hCkS ?hDys ?hEW ?hES ?hEJ ?hET ?hL ?hPP ?hPD ?hPS ?hPG ?hPM ?nSt ?sup ?hSt ?eqfL ?hEqL ?nN ?hLw ?z_int ?z_len ?z_abs ?z_list ?z_range ?z_min ?z_max ?z_tuple ?z_isinstance ?z_str ?z_bool ?z_all ?z_repr ?z_set ?z_ValueError ?z_super ?m_0 ?m_1 ?m_2 ?m_3 ?xd1 ?xd2 ?bsL ?bl ?be
    (case hPen => refine' ⟨?_, ?_, ?_, ?_⟩; k_is; k_is; k_is; k_is)
    (case hDraw => refine' ⟨?_, ?_, ?_, ?_⟩; k_is; k_is; k_is; k_is)
    (case hPick => refine' ⟨?_, ?_, ?_, ?_⟩; k_is; k_is; k_is; k_is)
    (case hGreat => refine' ⟨?_, ?_, ?_, ?_⟩; k_is; k_is; k_is; k_is)
    (case hWords => refine' ⟨?_, ?_, ?_, ?_⟩; k_is; k_is; k_is; k_is)
    (case hQWord => refine' ⟨?_, ?_, ?_, ?_⟩; k_is; k_is; k_is; k_is)
    (case hQNum => refine' ⟨?_, ?_, ?_, ?_⟩; k_is; k_is; k_is; k_is)
    (case hQStr => refine' ⟨?_, ?_, ?_, ?_⟩; k_is; k_is; k_is; k_is)
    (case hQCh => refine' ⟨?_, ?_, ?_, ?_⟩; k_is; k_is; k_is; k_is)
    (case hQGoal => refine' ⟨?_, ?_, ?_, ?_⟩; k_is; k_is; k_is; k_is)
    (case hQPas => refine' ⟨?_, ?_, ?_, ?_⟩; k_is; k_is; k_is; k_is)
    (case hSpot => refine' ⟨?_, ?_, ?_, ?_⟩; k_is; k_is; k_is; k_is)
    (case hSpan => refine' ⟨?_, ?_, ?_, ?_⟩; k_is; k_is; k_is; k_is)
    (case hChain => refine' ⟨?_, ?_, ?_, ?_⟩; k_is; k_is; k_is; k_is)
    (case hSubL => refine' ⟨?_, ?_, ?_, ?_⟩; k_is; k_is; k_is; k_is)
    (case hBent => refine' ⟨?_, ?_, ?_, ?_⟩; k_is; k_is; k_is; k_is)
    (case hAny => refine' ⟨?_, ?_, ?_, ?_⟩; k_is; k_is; k_is; k_is)
    (case hTold => refine' ⟨?_, ?_, ?_, ?_⟩; k_is; k_is; k_is; k_is)
    (case hDue => refine' ⟨?_, ?_, ?_, ?_⟩; k_is; k_is; k_is; k_is)
    (case hOdd => refine' ⟨?_, ?_, ?_, ?_⟩; k_is; k_is; k_is; k_is)
    (case hInt => refine' ⟨?_, ?_, ?_, ?_⟩; k_is; k_is; k_is; k_is)
    (case hWord => refine' ⟨?_, ?_, ?_, ?_⟩; k_is; k_is; k_is; k_is)
    (case hPCh => refine' ⟨?_, ?_, ?_, ?_⟩; k_is; k_is; k_is; k_is)
    (case hPStr => refine' ⟨?_, ?_, ?_, ?_⟩; k_is; k_is; k_is; k_is)
    (case hSub => refine' ⟨?_, ?_, ?_, ?_⟩; k_is; k_is; k_is; k_is)
    (case hTim => refine' ⟨?_, ?_, ?_, ?_⟩; k_is; k_is; k_is; k_is)
    (case hShr => refine' ⟨?_, ?_, ?_, ?_⟩; k_is; k_is; k_is; k_is)
    (case hUnl => refine' ⟨?_, ?_, ?_, ?_⟩; k_is; k_is; k_is; k_is)
    (case hShQ => refine' ⟨?_, ?_, ?_, ?_⟩; k_is; k_is; k_is; k_is)
    (case hLTx => refine' ⟨?_, ?_, ?_, ?_⟩; k_is; k_is; k_is; k_is)
    (case hCTx => refine' ⟨?_, ?_, ?_, ?_⟩; k_is; k_is; k_is; k_is)
    (case hSTx => refine' ⟨?_, ?_, ?_, ?_⟩; k_is; k_is; k_is; k_is)
    (case hDTx => refine' ⟨?_, ?_, ?_, ?_⟩; k_is; k_is; k_is; k_is)
    (case hTTx => refine' ⟨?_, ?_, ?_, ?_⟩; k_is; k_is; k_is; k_is)
    (case hCkW => refine' ⟨?_, ?_, ?_, ?_⟩; k_is; k_is; k_is; k_is)
    (case hCkS => refine' ⟨?_, ?_, ?_, ?_⟩; k_is; k_is; k_is; k_is)
    (case hDys => refine' ⟨?_, ?_, ?_, ?_⟩; k_is; k_is; k_is; k_is)
    (case hEW => refine' ⟨?a1, ?a2, ⟨?a3, ?a4, ?a5⟩, ?a6, ?a8⟩; (case a1 => k_is); (case a2 => k_is); (case a3 => k_is); (case a4 => k_is); (case a5 => k_is); (case a6 => k_is); (case a8 => kernel_rfl))
    (case hES => refine' ⟨?a1, ?a2, ⟨?a3, ?a4, ?a5⟩, ?a6, ?a8⟩; (case a1 => k_is); (case a2 => k_is); (case a3 => k_is); (case a4 => k_is); (case a5 => k_is); (case a6 => k_is); (case a8 => kernel_rfl))
    (case hEJ => refine' ⟨?a1, ?a2, ⟨?a3, ?a4, ?a5⟩, ?a6, ?a8⟩; (case a1 => k_is); (case a2 => k_is); (case a3 => k_is); (case a4 => k_is); (case a5 => k_is); (case a6 => k_is); (case a8 => kernel_rfl))
    (case hET => refine' ⟨?a1, ?a2, ⟨?a3, ?a4, ?a5⟩, ?a6, ?a8⟩; (case a1 => k_is); (case a2 => k_is); (case a3 => k_is); (case a4 => k_is); (case a5 => k_is); (case a6 => k_is); (case a8 => kernel_rfl))
    (case hL => refine' ⟨?_, ?_, ?_, ?_, ?_, ?_, ?_, ?_, ?_⟩; k_is; k_is; k_is; k_is; k_is; k_is; rfl; k_is; k_is)
    (case hPP => refine' ⟨?_, ?_, ⟨?_, ?_, ?_⟩, ?_, ?_⟩; k_is; k_is; k_is; k_is; k_is; k_is; k_is)
    (case hPD => refine' ⟨?_, ?_, ⟨?_, ?_, ?_⟩, ?_, ?_⟩; k_is; k_is; k_is; k_is; k_is; k_is; k_is)
    (case hPS => refine' ⟨?_, ?_, ⟨?_, ?_, ?_⟩, ?_, ?_⟩; k_is; k_is; k_is; k_is; k_is; k_is; k_is)
    (case hPG => refine' ⟨?_, ?_, ⟨?_, ?_, ?_⟩, ?_, ?_⟩; k_is; k_is; k_is; k_is; k_is; k_is; k_is)
    (case hPM => refine' ⟨?_, ?_, ⟨?_, ?_, ?_⟩, ?_, ?_⟩; k_is; k_is; k_is; k_is; k_is; k_is; k_is)
    (case nSt => k_is)
    (case sup => k_is)
    (case hSt => refine' ⟨?_, ?_, ?_⟩; k_is; k_is; k_is)
    (case eqfL => k_is)
    (case hEqL => refine' ⟨?_, ?_, ?_⟩; k_is; k_is; k_is)
    (case nN => k_is)
    (case hLw => refine' ⟨?_, ?_, ?_, ?_, ?_, ?_, ?_, ?_, ?_, ?_, ?_, ?_⟩; k_is; k_is; k_is; k_is; rfl; rfl; rfl; rfl; rfl; rfl; decide; kernel_rfl)
    (case z_int => k_is)
    (case z_len => k_is)
    (case z_abs => k_is)
    (case z_list => k_is)
    (case z_range => k_is)
    (case z_min => k_is)
    (case z_max => k_is)
    (case z_tuple => k_is)
    (case z_isinstance => k_is)
    (case z_str => k_is)
    (case z_bool => k_is)
    (case z_all => k_is)
    (case z_repr => k_is)
    (case z_set => k_is)
    (case z_ValueError => k_is)
    (case z_super => k_is)
    (case m_0 => k_is)
    (case m_1 => k_is)
    (case m_2 => k_is)
    (case m_3 => k_is)
    (case xd1 => k_is)
    (case xd2 => k_is)
    (case bsL => kernel_rfl)
    (case bl => kernel_rfl)
    (case be => kernel_rfl)

